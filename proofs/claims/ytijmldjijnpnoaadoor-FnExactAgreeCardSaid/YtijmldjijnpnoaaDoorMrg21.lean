import Derived.Test.YtijmldjijnpnoaaDoorMrg20
import Derived.Deep.Strs
set_option linter.unusedVariables false
set_option maxRecDepth 100000
set_option maxHeartbeats 16000000
namespace Go.Proofs.YtijmldjijnpnoaaDoor
open Go.Proofs.Tryd Go.RowKit
open Go.Value (int)
open Go.IntKind (u64)
section
open Go.ChangeShapes Go.WideShapes Go.ChangeAt Go.Deep M
theorem cellsU:prog.cellsOf 22=1:=by kernel_rfl
theorem cellsB:prog.cellsOf 4=1:=by kernel_rfl
theorem cellsLP:prog.cellsOf 24=3:=by kernel_rfl
section
variable {H:Type}{enc:TypeId×Value→H}{W:World}{base b0:Nat}{sp:Nat→Bool}{held:Bool}
theorem open_pt {r:Reach}{v:Value}{d:DataW H}{ps:List MemPlace}(hval:Value.okWide prog W r b0 24 v)(hd:DataW.Trod enc prog W base sp held 24 v d ps):
    ∃(x y:Nat) (c:Bool),v= .agg #[.int .u64 x,.int .u64 y,.bool c]∧d= .agg [.lit (.int .u64 x),.lit (.int .u64 y),.lit (.bool c)]∧ps= []∧(Lit.int .u64 (x:Int)).wf=true∧(Lit.int .u64 (y:Int)).wf=true∧x<18446744073709551616∧y<18446744073709551616:=by
  obtain⟨cs,rfl,hs⟩:=okWide_struct underlying24 hval;rw [cellsLP] at hs;obtain⟨fuel,hf⟩:=hd;obtain⟨y0,y1,y2,n,hx,-,t0,t1,t2⟩:=trod_struct3 underlying24 hf;simp only [cellsU,cellsB] at t0 t1 t2;obtain⟨a,e0,rfl,w0⟩:=DataW.trod_int underlying22 t0;obtain⟨b,e1,rfl,w1⟩:=DataW.trod_int underlying22 t1;obtain⟨c,e2,rfl⟩:=DataW.trod_bool underlying4 t2;obtain⟨l⟩:=cs
  match l,hs with
  | [p,q,s],_=>
    simp [Value.cells] at e0 e1 e2;subst e0 e1 e2;obtain⟨x,rfl,lx⟩:=u64_nat w0;obtain⟨y,rfl,ly⟩:=u64_nat w1;simp only [Prod.mk.injEq,List.append_nil] at hx;exact⟨x,y,c,rfl,hx.1,hx.2,w0,w1,lx,ly⟩
theorem shut_pt {x y:Int}(c:Bool)(wx:(Lit.int .u64 x).wf=true)(wy:(Lit.int .u64 y).wf=true):
    DataW.Trod enc prog W base sp held 24 (.agg #[.int .u64 x,.int .u64 y,.bool c]) (.agg [.lit (.int .u64 x),.lit (.int .u64 y),.lit (.bool c)]) []:=by
  refine⟨2,?_⟩
  have h:=trod_struct3_mk (enc:=enc) (w:=W) (base:=base) (spare:=sp) (held:=held) (n:=1) (cs:= [.int .u64 x,.int .u64 y,.bool c]) (y0:=(.lit (.int .u64 x),[])) (y1:=(.lit (.int .u64 y),[])) (y2:=(.lit (.bool c),[])) underlying24 (by rw [cellsLP];rfl)
    (by simp only [cellsU];exact trod_int_mk 0 underlying22 wx) (by simp only [cellsU];exact trod_int_mk 0 underlying22 wy) (by simp only [cellsB];simp [DataW.trod,underlying4])
  exact h
end
theorem toP (x y:Int)(c:Bool)(w:World):
    Cr 6 #[.agg #[.int .u64 x,.int .u64 y,.bool c]] w (.agg #[.int .u64 x,.int .u64 y,.bool c]):=by
  go_enter func6,ntmps6;go_wp2;refine bodyPost_ret (v:= .agg #[.int .u64 x,.int .u64 y,.bool c]) (by simp [results,results6,go_sem]) rfl ⟨rfl,?_⟩;exact(((Below.refl _ w).alloc (Nat.le_refl _) _).alloc (by simp) _).alloc (by simp;omega) _
end
section
open M
theorem cftP (args:Array Value)(w:World):(callFunc 6 args).run prog w= .ok (.enter 6 args) w:=by kernel_rfl
theorem cfAS (args:Array Value)(w:World):(callFunc 5 args).run prog w= .ok (.enter 5 args) w:=by kernel_rfl
theorem cfAI (args:Array Value)(w:World):(callFunc 7 args).run prog w= .ok (.enter 7 args) w:=by kernel_rfl
theorem alK {A:Act}{w:World}{dst:Option Tmp}{ty:TypeId}{ps:String}{af:Array Edge}{gd:Option (Nat×Bool)}:Does prog (Opr dst (.alloc 26) ty ps af gd) A w fun v w'=>v= .pointer (some ⟨w.heap.size,0,none⟩)∧w'=w.alloc (.cells #[.string ⟨#[]⟩,.string ⟨#[]⟩,.string ⟨#[]⟩] 26):=by
  have h:(execOp A.eval (Opr dst (.alloc 26) ty ps af gd)).run prog w= .ok (.value (.pointer (some ⟨w.heap.size,0,none⟩))) (w.alloc (.cells #[.string ⟨#[]⟩,.string ⟨#[]⟩,.string ⟨#[]⟩] 26)):=by simp [execOp,go_sem]
  exact does_value h ⟨rfl,rfl⟩
theorem Bk.keptG {W W':World}{t:TypeId}{b:Nat}{cs:Array Value}{row:Option Nat}(h:Bk W t b cs)(hg:W.grownBy W' row)(hne:some b≠row):Bk W' t b cs:=(hg.block b h.lt hne).trans h
theorem belowK {N:Nat}{w W W':World}{b:Nat}(h:Below N w W)(hg:W.grownBy W' (some b))(hN:N≤b)(hw:N≤W.heap.size):Below N w W':=⟨hg.os.trans h.os,hg.tape.trans h.tape,hg.output.trans h.output,Nat.le_trans h.size hg.size,fun k hk=>(hg.block k (Nat.lt_of_lt_of_le hk hw) (fun e=>by have:=Option.some.inj e;omega)).trans (h.block k hk)⟩
theorem eqK (k1 k2 k3:ByteArray)(w:World):
    Cr 8 #[.agg #[.string k1,.string k2,.string k3],.agg #[.string k1,.string k2,.string k3]] w (.bool true):=by
  go_enter func8,ntmps8;go_wp2;go_ret;exact⟨rfl,((Below.refl _ w).alloc (Nat.le_refl _) _).alloc (by simp) _⟩
theorem agr_long (x0 y0:Nat)(c0:Bool)(x1 y1:Nat)(c1:Bool)(x2 y2:Nat)(c2:Bool)(s:ByteArray)(w:World)(h:(1048576:Int)<(s.size:Int)):
    Cr 3 #[.agg #[int u64 (x0:Int),int u64 (y0:Int),.bool c0],.agg #[int u64 (x1:Int),int u64 (y1:Int),.bool c1],.agg #[int u64 (x2:Int),int u64 (y2:Int),.bool c2],.string s] w (.bool true):=by
  go_enter func3,ntmps3;go_wp2;go_ret;exact⟨rfl,(((Below.refl _ w).alloc (Nat.le_refl _) _).alloc (by simp) _).alloc (by simp;omega) _⟩
theorem agr_of (x0 y0:Nat)(c0:Bool)(x1 y1:Nat)(c1:Bool)(x2 y2:Nat)(c2:Bool)(s k1 k2 k3:ByteArray)(w:World)(hT:TabK w)(h:(s.size:Int)≤1048576)
    (CS:Cc 5 #[.agg #[int u64 (x0:Int),int u64 (y0:Int),.bool c0],.agg #[int u64 (x1:Int),int u64 (y1:Int),.bool c1],.agg #[int u64 (x2:Int),int u64 (y2:Int),.bool c2],.string s] (.agg #[.string k1,.string k2,.string k3]))
    (CI:∀w,TabK w→Cr 7 #[.agg #[int u64 (x0:Int),int u64 (y0:Int),.bool c0],.agg #[int u64 (x1:Int),int u64 (y1:Int),.bool c1],.agg #[int u64 (x2:Int),int u64 (y2:Int),.bool c2],.string s] w (.agg #[.string k1,.string k2,.string k3])):
    Cr 3 #[.agg #[int u64 (x0:Int),int u64 (y0:Int),.bool c0],.agg #[int u64 (x1:Int),int u64 (y1:Int),.bool c1],.agg #[int u64 (x2:Int),int u64 (y2:Int),.bool c2],.string s] w (.bool true):=by
  have h0:=Bk.new w 24 #[int u64 (x0:Int),int u64 (y0:Int),.bool c0];have hB:=balc w (Obj.cells #[int u64 (x0:Int),int u64 (y0:Int),.bool c0] 24);obtain⟨W1,hW1⟩:∃W,w.alloc (Obj.cells #[int u64 (x0:Int),int u64 (y0:Int),.bool c0] 24)=W:=⟨_,rfl⟩;rw [hW1] at h0 hB;have h1:=Bk.new W1 24 #[int u64 (x1:Int),int u64 (y1:Int),.bool c1];replace h0:=h0.alloc (Obj.cells #[int u64 (x1:Int),int u64 (y1:Int),.bool c1] 24);replace hB:=hB.alloc hB.size (Obj.cells #[int u64 (x1:Int),int u64 (y1:Int),.bool c1] 24);obtain⟨W2,hW2⟩:∃W,W1.alloc (Obj.cells #[int u64 (x1:Int),int u64 (y1:Int),.bool c1] 24)=W:=⟨_,rfl⟩;rw [hW2] at h0 h1 hB;have h2:=Bk.new W2 24 #[int u64 (x2:Int),int u64 (y2:Int),.bool c2];replace h0:=h0.alloc (Obj.cells #[int u64 (x2:Int),int u64 (y2:Int),.bool c2] 24);replace h1:=h1.alloc (Obj.cells #[int u64 (x2:Int),int u64 (y2:Int),.bool c2] 24);replace hB:=hB.alloc hB.size (Obj.cells #[int u64 (x2:Int),int u64 (y2:Int),.bool c2] 24);obtain⟨W3,hW3⟩:∃W,W2.alloc (Obj.cells #[int u64 (x2:Int),int u64 (y2:Int),.bool c2] 24)=W:=⟨_,rfl⟩;rw [hW3] at h0 h1 h2 hB;obtain⟨b2,hb2⟩:∃r,r=W2.heap.size:=⟨_,rfl⟩;obtain⟨b1,hb1⟩:∃r,r=W1.heap.size:=⟨_,rfl⟩;obtain⟨b0,hb0⟩:∃r,r=w.heap.size:=⟨_,rfl⟩;rw [←hb2] at h2;rw [←hb1] at h1;rw [←hb0] at h0;go_enter func3,ntmps3;go_wp2;simp only [←hb2,←hb1,←hb0];clear hb2 hb1 hb0 hW1 hW2 hW3
  refine G.pool_prT (W:=W3) [] 9 [.val (.agg #[int u64 (x0:Int),int u64 (y0:Int),.bool c0]),
      .val (.agg #[int u64 (x0:Int),int u64 (y0:Int),.bool c0]),
      .val (.agg #[int u64 (x1:Int),int u64 (y1:Int),.bool c1]),
      .val (.agg #[int u64 (x1:Int),int u64 (y1:Int),.bool c1]),
      .val (.agg #[int u64 (x2:Int),int u64 (y2:Int),.bool c2]),
      .val (.agg #[int u64 (x2:Int),int u64 (y2:Int),.bool c2]),
      .val (.string s),
      .val (.agg #[.string k1,.string k2,.string k3]),
      .new (.cells #[.string ⟨#[]⟩,.string ⟨#[]⟩,.string ⟨#[]⟩] 26) (.cells #[.string ⟨#[]⟩,.string ⟨#[]⟩,.string ⟨#[]⟩] 26) 900] [[4],[14],[5],[16],[6],[18],[3],[15,17,19,20],[],[9,21]] (fun f=> [(some 14,.agg #[int u64 (x0:Int),int u64 (y0:Int),.bool c0]),(some 15,.agg #[int u64 (x0:Int),int u64 (y0:Int),.bool c0]),(some 16,.agg #[int u64 (x1:Int),int u64 (y1:Int),.bool c1]),(some 17,.agg #[int u64 (x1:Int),int u64 (y1:Int),.bool c1]),(some 18,.agg #[int u64 (x2:Int),int u64 (y2:Int),.bool c2]),(some 19,.agg #[int u64 (x2:Int),int u64 (y2:Int),.bool c2]),(some 20,.string s),(some 21,.agg #[.string k1,.string k2,.string k3]),(some 9,.pointer (some ⟨f 8,0,none⟩))]) (by kernel_rfl) (by kernel_rfl) (by kernel_rfl) (by kernel_rfl) (by decide) (by kernel_rfl) (fun _=>by kernel_rfl) (G.last_of [.cells #[.string ⟨#[]⟩,.string ⟨#[]⟩,.string ⟨#[]⟩] 26] (fun F R hm=>by simp at hm) (fun ob ob' k hm=>by simp at hm;simp [hm]) (fun b ob ob' hm=>by simp at hm)) (fun b ob ob' hm=>by simp at hm) ?_ ?_
  · intro ix hix
    match ix,hix with
    |0,_=>exact G.obv [(4,.pointer (some ⟨b0,0,none⟩))] rfl rfl (fun A w ⟨e0,_⟩ hB=>Y.ldT underlying24 rfl (by kernel_rfl) e0 (Y.side hB h0))
    |1,_=>exact G.obv [(14,.agg #[int u64 (x0:Int),int u64 (y0:Int),.bool c0])] rfl rfl (fun A w ⟨e0,_⟩ hB=>Y.cl1 cftP e0 (toP _ _ _ w))
    |2,_=>exact G.obv [(5,.pointer (some ⟨b1,0,none⟩))] rfl rfl (fun A w ⟨e0,_⟩ hB=>Y.ldT underlying24 rfl (by kernel_rfl) e0 (Y.side hB h1))
    |3,_=>exact G.obv [(16,.agg #[int u64 (x1:Int),int u64 (y1:Int),.bool c1])] rfl rfl (fun A w ⟨e0,_⟩ hB=>Y.cl1 cftP e0 (toP _ _ _ w))
    |4,_=>exact G.obv [(6,.pointer (some ⟨b2,0,none⟩))] rfl rfl (fun A w ⟨e0,_⟩ hB=>Y.ldT underlying24 rfl (by kernel_rfl) e0 (Y.side hB h2))
    |5,_=>exact G.obv [(18,.agg #[int u64 (x2:Int),int u64 (y2:Int),.bool c2])] rfl rfl (fun A w ⟨e0,_⟩ hB=>Y.cl1 cftP e0 (toP _ _ _ w))
    |6,_=>exact G.obv [(3,.string s)] rfl rfl (fun A w ⟨e0,_⟩ hB=>Y.move e0)
    |7,_=>exact G.obv [(15,.agg #[int u64 (x0:Int),int u64 (y0:Int),.bool c0]),(17,.agg #[int u64 (x1:Int),int u64 (y1:Int),.bool c1]),(19,.agg #[int u64 (x2:Int),int u64 (y2:Int),.bool c2]),(20,.string s)] rfl rfl (fun A w ⟨e0,e1,e2,e3,_⟩ hB=>Y.cl4 cfAS e0 e1 e2 e3 (CS w))
    |8,_=>exact G.ob_new rfl rfl (fun A w=>alK)
    |ix+9,h=>exact absurd h (by omega)
  intro f W5 hS hnew y1 y2 fuel hfuel;obtain⟨hb0,hbn⟩:=hnew 8 _ _ _ rfl (by decide);have hk0:Bk W5 26 (f 8) #[.string ⟨#[]⟩,.string ⟨#[]⟩,.string ⟨#[]⟩]:=hbn;have d5:Bl W3 W5:=(Below.refl _ W3).drew.trans hS.below;have hlo:W3.heap.size≤f 8:=hb0;have d5':=d5;have hlo2:w.heap.size≤f 8:=Nat.le_trans hB.size hlo;replace hB:=hB.tr d5;clear hS hnew y1 y2 hbn hb0 d5;simp only [puts,List.foldl,Act.put,List.setIfInBounds_toArray,List.set_cons_zero,List.set_cons_succ];obtain⟨b9,hb9⟩:∃b,b=f 8:=⟨_,rfl⟩;rw [←hb9] at hk0 hlo2 hlo;simp only [←hb9];refine last_do1 9 hfuel (by kernel_rfl) (by kernel_rfl) rfl rfl ?_;refine fun Q K hK=>Y.puA (cs:=#[.string k1,.string k2,.string k3]) rfl rfl hk0 rfl (by kernel_rfl) (by simp [Value.oneCell']) Q K (fun v w1 hT1=>hK v w1 ?_)
  have kb9:Bk w1 26 b9 #[.string k1,.string k2,.string k3]:=hT1.self;have hg:W5.grownBy w1 (some b9):=⟨hT1.os,hT1.tape,hT1.output,by rw [hT1.size];exact Nat.le_refl _,fun k _ hk=>hT1.other k (fun e=>hk (by rw [e]))⟩;have hlt:∀{t b cs},Bk W3 t b cs→some b≠some b9:=fun h e=>by have:=h.lt;have:=Option.some.inj e;omega
  replace h0:=(h0.keep d5').keptG hg (hlt h0);replace h1:=(h1.keep d5').keptG hg (hlt h1);replace h2:=(h2.keep d5').keptG hg (hlt h2);replace hB:=belowK hB hg hlo2 hB.size;clear hT1 hg hlt hk0 hlo hlo2 hb9 d5';have hTB:∀w',G.Sides [] w1.drew w'→TabK w':=fun w' hB' i hi=>hB'.cell ((hT.kept hB) i hi) (by simp)
  go_wp2
  refine G.pool_prT (W:=w1) [] 9 [.val (.agg #[int u64 (x0:Int),int u64 (y0:Int),.bool c0]),
      .val (.agg #[int u64 (x0:Int),int u64 (y0:Int),.bool c0]),
      .val (.agg #[int u64 (x1:Int),int u64 (y1:Int),.bool c1]),
      .val (.agg #[int u64 (x1:Int),int u64 (y1:Int),.bool c1]),
      .val (.agg #[int u64 (x2:Int),int u64 (y2:Int),.bool c2]),
      .val (.agg #[int u64 (x2:Int),int u64 (y2:Int),.bool c2]),
      .val (.string s),
      .val (.agg #[.string k1,.string k2,.string k3]),
      .new (.cells #[.string ⟨#[]⟩,.string ⟨#[]⟩,.string ⟨#[]⟩] 26) (.cells #[.string ⟨#[]⟩,.string ⟨#[]⟩,.string ⟨#[]⟩] 26) 900] [[4],[22],[5],[24],[6],[26],[3],[23,25,27,28],[],[10,29]] (fun f=> [(some 22,.agg #[int u64 (x0:Int),int u64 (y0:Int),.bool c0]),(some 23,.agg #[int u64 (x0:Int),int u64 (y0:Int),.bool c0]),(some 24,.agg #[int u64 (x1:Int),int u64 (y1:Int),.bool c1]),(some 25,.agg #[int u64 (x1:Int),int u64 (y1:Int),.bool c1]),(some 26,.agg #[int u64 (x2:Int),int u64 (y2:Int),.bool c2]),(some 27,.agg #[int u64 (x2:Int),int u64 (y2:Int),.bool c2]),(some 28,.string s),(some 29,.agg #[.string k1,.string k2,.string k3]),(some 10,.pointer (some ⟨f 8,0,none⟩))]) (by kernel_rfl) (by kernel_rfl) (by kernel_rfl) (by kernel_rfl) (by decide) (by kernel_rfl) (fun _=>by kernel_rfl) (G.last_of [.cells #[.string ⟨#[]⟩,.string ⟨#[]⟩,.string ⟨#[]⟩] 26] (fun F R hm=>by simp at hm) (fun ob ob' k hm=>by simp at hm;simp [hm]) (fun b ob ob' hm=>by simp at hm)) (fun b ob ob' hm=>by simp at hm) ?_ ?_
  · intro ix hix
    match ix,hix with
    |0,_=>exact G.obv [(4,.pointer (some ⟨b0,0,none⟩))] rfl rfl (fun A w ⟨e0,_⟩ hB=>Y.ldT underlying24 rfl (by kernel_rfl) e0 (Y.side hB h0))
    |1,_=>exact G.obv [(22,.agg #[int u64 (x0:Int),int u64 (y0:Int),.bool c0])] rfl rfl (fun A w ⟨e0,_⟩ hB=>Y.cl1 cftP e0 (toP _ _ _ w))
    |2,_=>exact G.obv [(5,.pointer (some ⟨b1,0,none⟩))] rfl rfl (fun A w ⟨e0,_⟩ hB=>Y.ldT underlying24 rfl (by kernel_rfl) e0 (Y.side hB h1))
    |3,_=>exact G.obv [(24,.agg #[int u64 (x1:Int),int u64 (y1:Int),.bool c1])] rfl rfl (fun A w ⟨e0,_⟩ hB=>Y.cl1 cftP e0 (toP _ _ _ w))
    |4,_=>exact G.obv [(6,.pointer (some ⟨b2,0,none⟩))] rfl rfl (fun A w ⟨e0,_⟩ hB=>Y.ldT underlying24 rfl (by kernel_rfl) e0 (Y.side hB h2))
    |5,_=>exact G.obv [(26,.agg #[int u64 (x2:Int),int u64 (y2:Int),.bool c2])] rfl rfl (fun A w ⟨e0,_⟩ hB=>Y.cl1 cftP e0 (toP _ _ _ w))
    |6,_=>exact G.obv [(3,.string s)] rfl rfl (fun A w ⟨e0,_⟩ hB=>Y.move e0)
    |7,_=>exact G.obv [(23,.agg #[int u64 (x0:Int),int u64 (y0:Int),.bool c0]),(25,.agg #[int u64 (x1:Int),int u64 (y1:Int),.bool c1]),(27,.agg #[int u64 (x2:Int),int u64 (y2:Int),.bool c2]),(28,.string s)] rfl rfl (fun A w ⟨e0,e1,e2,e3,_⟩ hB=>Y.cl4 cfAI e0 e1 e2 e3 (CI w (hTB w hB)))
    |8,_=>exact G.ob_new rfl rfl (fun A w=>alK)
    |ix+9,h=>exact absurd h (by omega)
  intro f2 W6 hS hnew y1 y2 fuel hfuel;obtain⟨hb0,hbn⟩:=hnew 8 _ _ _ rfl (by decide);have hk0:Bk W6 26 (f2 8) #[.string ⟨#[]⟩,.string ⟨#[]⟩,.string ⟨#[]⟩]:=hbn;have d5:Bl w1 W6:=(Below.refl _ w1).drew.trans hS.below;have hlo:w1.heap.size≤f2 8:=hb0;have d5':=d5;have hlo2:w.heap.size≤f2 8:=Nat.le_trans hB.size hlo;replace hB:=hB.tr d5;clear hS hnew y1 y2 hbn hb0 d5;simp only [puts,List.foldl,Act.put,List.setIfInBounds_toArray,List.set_cons_zero,List.set_cons_succ];obtain⟨b10,hb10⟩:∃b,b=f2 8:=⟨_,rfl⟩;rw [←hb10] at hk0 hlo2 hlo;simp only [←hb10];refine last_do1 9 hfuel (by kernel_rfl) (by kernel_rfl) rfl rfl ?_;refine fun Q K hK=>Y.puA (cs:=#[.string k1,.string k2,.string k3]) rfl rfl hk0 rfl (by kernel_rfl) (by simp [Value.oneCell']) Q K (fun v w2 hT1=>hK v w2 ?_)
  have kb10:Bk w2 26 b10 #[.string k1,.string k2,.string k3]:=hT1.self;have hg:W6.grownBy w2 (some b10):=⟨hT1.os,hT1.tape,hT1.output,by rw [hT1.size];exact Nat.le_refl _,fun k _ hk=>hT1.other k (fun e=>hk (by rw [e]))⟩;have n9:some b9≠some b10:=fun e=>by have:=kb9.lt;have:=Option.some.inj e;omega
  replace kb9:=(kb9.keep d5').keptG hg n9;replace hB:=belowK hB hg hlo2 hB.size;clear hT1 hg hk0 hlo hlo2 hb10 d5' n9 hTB;have c0:w2.cell? ⟨b9,0,none⟩=some (.string k1):=kb9.cell (k:=0) rfl;have c1:w2.cell? ⟨b9,1,none⟩=some (.string k2):=kb9.cell (k:=1) rfl;have c2:w2.cell? ⟨b9,2,none⟩=some (.string k3):=kb9.cell (k:=2) rfl;have e0:w2.cell? ⟨b10,0,none⟩=some (.string k1):=kb10.cell (k:=0) rfl;have e1:w2.cell? ⟨b10,1,none⟩=some (.string k2):=kb10.cell (k:=1) rfl;have e2:w2.cell? ⟨b10,2,none⟩=some (.string k3):=kb10.cell (k:=2) rfl;go_wp2_with fail;refine(eqK _ _ _ _).mono ?_;rintro e w3 ⟨rfl,d3⟩;replace hB:=hB.tr d3;go_wp2;go_ret;exact⟨rfl,hB⟩
theorem agr_any (x0 y0:Nat)(c0:Bool)(x1 y1:Nat)(c1:Bool)(x2 y2:Nat)(c2:Bool)(s:ByteArray)(w:World)(hs:s.size≤maxLen)(hT:TabK w):
    Cr 3 #[.agg #[int u64 (x0:Int),int u64 (y0:Int),.bool c0],.agg #[int u64 (x1:Int),int u64 (y1:Int),.bool c1],.agg #[int u64 (x2:Int),int u64 (y2:Int),.bool c2],.string s] w (.bool true):=by
  by_cases h:(1048576:Int)<(s.size:Int)
  · exact agr_long x0 y0 c0 x1 y1 c1 x2 y2 c2 s w h
  · exact agr_of x0 y0 c0 x1 y1 c1 x2 y2 c2 s _ _ _ w hT (by omega) (fun w=>agrS x0 y0 c0 x1 y1 c1 x2 y2 c2 s w (by omega)) (fun w hT=>agrI x0 y0 c0 x1 y1 c1 x2 y2 c2 s w hT (by omega))
end
end Go.Proofs.YtijmldjijnpnoaaDoor
