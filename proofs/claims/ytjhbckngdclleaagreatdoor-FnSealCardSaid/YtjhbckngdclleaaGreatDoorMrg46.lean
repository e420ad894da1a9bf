import Derived.Test.YtjhbckngdclleaaGreatDoorMrg45
set_option linter.unusedVariables false
set_option maxRecDepth 100000
set_option maxHeartbeats 16000000
namespace Go.Proofs.YtjhbckngdclleaaGreatDoor
open Go.Proofs.Tryz Go.RowKit
open Go.Value (int)
open Go.IntKind (u64)
section
open M
theorem cfSS (args:Array Value)(w:World):(callFunc 12 args).run prog w= .ok (.enter 12 args) w:=by kernel_rfl
theorem alR {A:Act}{w:World}{dst:Option Tmp}{ty:TypeId}{ps:String}{af:Array Edge}{gd:Option (Nat×Bool)}:Does prog (Opr dst (.alloc 31) ty ps af gd) A w fun v w'=>v= .pointer (some ⟨w.heap.size,0,none⟩)∧w'=w.alloc (.cells #[.string ⟨#[]⟩,int u64 0,int u64 0,.bool false,.string ⟨#[]⟩] 31):=by
  have h:(execOp A.eval (Opr dst (.alloc 31) ty ps af gd)).run prog w= .ok (.value (.pointer (some ⟨w.heap.size,0,none⟩))) (w.alloc (.cells #[.string ⟨#[]⟩,int u64 0,int u64 0,.bool false,.string ⟨#[]⟩] 31)):=by simp [execOp,go_sem]
  exact does_value h ⟨rfl,rfl⟩
section
variable (s bx:ByteArray)(t:Tri)(u:ByteArray)(w:World)
theorem unsS_size (h:bx.size≠48):
    Cr 9 #[.string s,.string bx,.agg #[int u64 (t.1:Int),int u64 (t.2.1:Int),.bool t.2.2],.string u] w (.tuple #[int u64 0,.string ⟨#[]⟩,.bool false]):=by
  have h': ¬ ((bx.size:Int)=48):=by omega
  clear h;go_enter func9,ntmps9;go_wp2;exact bodyPost_ret (v:= .tuple #[int u64 0,.string ⟨#[]⟩,.bool false]) (by simp [results,results9,go_sem]) rfl ⟨rfl,(Below.refl _ w).alloc (Nat.le_refl _) _⟩
variable (v0 v4 v6:ByteArray)(v1 v2:Int)(v3:Bool)(k:Nat)(kb:Bool)
theorem unsS_of (ok:Bool)(h:bx.size=48)
    (C:Cc 12 #[.string s,.string (bx.extract 0 16),.agg #[int u64 (t.1:Int),int u64 (t.2.1:Int),.bool t.2.2],.string u] (.tuple #[.agg #[.string v0,int u64 v1,int u64 v2,.bool v3,.string v4],.string v6,.bool ok]))
    (K:Cc 39 #[.string s,.string (bx.extract 0 16)] (.tuple #[int u64 (k:Int),.bool kb])):
    Cr 9 #[.string s,.string bx,.agg #[int u64 (t.1:Int),int u64 (t.2.1:Int),.bool t.2.2],.string u] w (if ok&&decide (v4=bx) then .tuple #[int u64 (k:Int),.string v6,.bool true] else .tuple #[int u64 0,.string ⟨#[]⟩,.bool false]):=by
  have h6:=Bk.new w 27 #[int u64 (t.1:Int),int u64 (t.2.1:Int),.bool t.2.2];have hB:=balc w (Obj.cells #[int u64 (t.1:Int),int u64 (t.2.1:Int),.bool t.2.2] 27);obtain⟨W2,hW1⟩:∃W,w.alloc (Obj.cells #[int u64 (t.1:Int),int u64 (t.2.1:Int),.bool t.2.2] 27)=W:=⟨_,rfl⟩;rw [hW1] at h6 hB;obtain⟨b6,hb6⟩:∃b,w.heap.size=b:=⟨_,rfl⟩;rw [hb6] at h6;have h16:16≤bx.size:=by omega
  have h16':(16:Int)≤(bx.size:Int):=by omega
  have h48:(bx.size:Int)=48:=by omega
  obtain⟨RS,hRS⟩:∃r:Value,Hid (r=if ok&&decide (v4=bx) then .tuple #[int u64 (k:Int),.string v6,.bool true] else .tuple #[int u64 0,.string ⟨#[]⟩,.bool false]):=⟨_,rfl⟩;rw [←hRS.out];clear h;go_enter func9,ntmps9;go_wp2;clear hW1
  refine G.pool_list (W:=W2) [] [.val (.string s),
      .val (.string bx),
      .val (.string (bx.extract 0 16)),
      .val (.agg #[int u64 (t.1:Int),int u64 (t.2.1:Int),.bool t.2.2]),
      .val (.string u),
      .val (.tuple #[.agg #[.string v0,int u64 v1,int u64 v2,.bool v3,.string v4],.string v6,.bool ok]),
      .val (.tuple #[.agg #[.string v0,int u64 v1,int u64 v2,.bool v3,.string v4],.string v6,.bool ok]),
      .val (.agg #[.string v0,int u64 v1,int u64 v2,.bool v3,.string v4]),
      .val (.string v6),
      .val (.bool ok),
      .new (.cells #[.string ⟨#[]⟩,int u64 0,int u64 0,.bool false,.string ⟨#[]⟩] 31) (.cells #[.string v0,int u64 v1,int u64 v2,.bool v3,.string v4] 31) 11,
      .put 10,
      .val (.string v6),
      .val (.bool ok)] [[0],[1],[21],[6],[3],[20,22,23,24],[25],[19],[19],[19],[],[11,26],[27],[28]] (fun f=> [(some 20,.string s),(some 21,.string bx),(some 22,.string (bx.extract 0 16)),(some 23,.agg #[int u64 (t.1:Int),int u64 (t.2.1:Int),.bool t.2.2]),(some 24,.string u),(some 25,.tuple #[.agg #[.string v0,int u64 v1,int u64 v2,.bool v3,.string v4],.string v6,.bool ok]),(some 19,.tuple #[.agg #[.string v0,int u64 v1,int u64 v2,.bool v3,.string v4],.string v6,.bool ok]),(some 26,.agg #[.string v0,int u64 v1,int u64 v2,.bool v3,.string v4]),(some 27,.string v6),(some 28,.bool ok),(some 11,.pointer (some ⟨f 10,0,none⟩)),(none,undef),(some 12,.string v6),(some 13,.bool ok)]) (by kernel_rfl) (by kernel_rfl) (by kernel_rfl) (by kernel_rfl) (fun _=>by kernel_rfl) (G.last_of [.cells #[.string ⟨#[]⟩,int u64 0,int u64 0,.bool false,.string ⟨#[]⟩] 31] (fun F R hm=>by simp at hm) (fun ob ob' k hm=>by simp at hm;simp [hm]) (fun b ob ob' hm=>by simp at hm)) (fun b ob ob' hm=>by simp at hm) ?_ ?_
  · intro ix hix
    match ix,hix with
    |0,_=>exact G.obv [(0,.string s)] rfl rfl (fun A w ⟨e0,_⟩ hB=>Y.move e0)
    |1,_=>exact G.obv [(1,.string bx)] rfl rfl (fun A w ⟨e0,_⟩ hB=>Y.move e0)
    |2,_=>exact G.obv [(21,.string bx)] rfl rfl (fun A w ⟨e0,_⟩ hB=>slH e0 h16)
    |3,_=>exact G.obv [(6,.pointer (some ⟨b6,0,none⟩))] rfl rfl (fun A w ⟨e0,_⟩ hB=>Y.ldT underlying27 rfl (by kernel_rfl) e0 (Y.side hB h6))
    |4,_=>exact G.obv [(3,.string u)] rfl rfl (fun A w ⟨e0,_⟩ hB=>Y.move e0)
    |5,_=>exact G.obv [(20,.string s),(22,.string (bx.extract 0 16)),(23,.agg #[int u64 (t.1:Int),int u64 (t.2.1:Int),.bool t.2.2]),(24,.string u)] rfl rfl (fun A w ⟨e0,e1,e2,e3,_⟩ hB=>Y.cl4 cfSS e0 e1 e2 e3 (by have h:=C w;exact h))
    |6,_=>exact G.obv [(25,.tuple #[.agg #[.string v0,int u64 v1,int u64 v2,.bool v3,.string v4],.string v6,.bool ok])] rfl rfl (fun A w ⟨e0,_⟩ hB=>Y.move e0)
    |7,_=>exact G.obv [(19,.tuple #[.agg #[.string v0,int u64 v1,int u64 v2,.bool v3,.string v4],.string v6,.bool ok])] rfl rfl (fun A w ⟨e0,_⟩ hB=>Y.xt30 e0)
    |8,_=>exact G.obv [(19,.tuple #[.agg #[.string v0,int u64 v1,int u64 v2,.bool v3,.string v4],.string v6,.bool ok])] rfl rfl (fun A w ⟨e0,_⟩ hB=>Y.xt31 e0)
    |9,_=>exact G.obv [(19,.tuple #[.agg #[.string v0,int u64 v1,int u64 v2,.bool v3,.string v4],.string v6,.bool ok])] rfl rfl (fun A w ⟨e0,_⟩ hB=>Y.xt32 e0)
    |10,_=>exact G.ob_new rfl rfl (fun A w=>alR)
    |11,_=>exact G.ob_put 11 (fun f=> [(11,.pointer (some ⟨f 10,0,none⟩)),(26,.agg #[.string v0,int u64 v1,int u64 v2,.bool v3,.string v4])]) rfl rfl rfl (by decide) (by kernel_rfl) rfl (fun _=>by kernel_rfl) (fun f A w ⟨e0,e1,_⟩ hr=>Y.puA e0 e1 hr rfl (by kernel_rfl) (by simp [Value.oneCell']))
    |12,_=>exact G.obv [(27,.string v6)] rfl rfl (fun A w ⟨e0,_⟩ hB=>Y.assign e0)
    |13,_=>exact G.obv [(28,.bool ok)] rfl rfl (fun A w ⟨e0,_⟩ hB=>Y.assign e0)
    |ix+14,h=>exact absurd h (by simp)
  intro f w2 hS hnew y1 y2 y3;obtain⟨hb0,hbn⟩:=hnew 10 _ _ _ rfl (by decide);have h11:Bk w2 31 (f 10) #[.string v0,int u64 v1,int u64 v2,.bool v3,.string v4]:=hbn;have d5:Bl W2 w2:=(Below.refl _ W2).drew.trans hS.below;replace hB:=hB.tr d5;clear hS hnew y1 y2 y3 hbn hb0 d5 C h6;simp only [puts,List.foldl,Act.put,List.setIfInBounds_toArray,List.set_cons_zero,List.set_cons_succ];obtain⟨b11,hb11⟩:∃b,b=f 10:=⟨_,rfl⟩;rw [←hb11] at h11;simp only [←hb11];clear hb11;have c4:w2.cell? ⟨b11,4,none⟩=some (.string v4):=h11.cell (k:=4) rfl
  cases ok with
  | false=>
    have hr0:=hRS.out;rw [Bool.false_and,if_neg (by decide)] at hr0;replace hr0:Hid _:=hr0;go_wp2;exact bodyPost_ret (v:= .tuple #[int u64 0,.string ⟨#[]⟩,.bool false]) (by simp [results,results9,go_sem]) rfl ⟨by rw [hr0.out],hB⟩
  | true=>
    by_cases hq:v4=bx
    · subst hq;have hr0:=hRS.out;rw [decide_eq_true rfl,Bool.and_true,if_pos rfl] at hr0;replace hr0:Hid _:=hr0;go_wp2_with fail;refine(K _).mono ?_;rintro e w3 ⟨rfl,d3⟩;replace hB:=hB.tr d3;go_wp2;exact bodyPost_ret (v:= .tuple #[int u64 (k:Int),.string v6,.bool true]) (by simp [results,results9,go_sem]) rfl ⟨by rw [hr0.out],hB⟩
    · have hne:=str_neS hq;have hr0:=hRS.out;rw [decide_eq_false hq,Bool.and_false,if_neg (by decide)] at hr0;replace hr0:Hid _:=hr0;clear hq;go_wp2;exact bodyPost_ret (v:= .tuple #[int u64 0,.string ⟨#[]⟩,.bool false]) (by simp [results,results9,go_sem]) rfl ⟨by rw [hr0.out],hB⟩
end
noncomputable def unO (s bx:ByteArray) (t:Tri) (u:ByteArray):Bool:=decide (bx.size=48)&&slO s (bx.extract 0 16) t u&&decide (bx.extract 0 16++slM s (bx.extract 0 16) t u=bx)
noncomputable def unV (s bx:ByteArray) (t:Tri) (u:ByteArray):Value:=if unO s bx t u then .tuple #[int u64 ((prK s (bx.extract 0 16)).1:Nat),.string (prB s (bx.extract 0 16) wExp),.bool true] else .tuple #[int u64 0,.string ⟨#[]⟩,.bool false]
theorem unS (s bx:ByteArray)(t:Tri)(u:ByteArray)(w:World)(hl1:s.size≤1048576)(hl3:u.size≤1048576):
    Cr 9 #[.string s,.string bx,.agg #[int u64 (t.1:Int),int u64 (t.2.1:Int),.bool t.2.2],.string u] w (unV s bx t u):=by
  unfold unV unO;by_cases h:bx.size=48
  · have hz:(bx.extract 0 16).size=16:=by rw [ByteArray.size_extract];omega
    have C:=fun w=>selS s (bx.extract 0 16) t u w hl1 (by omega) hl3
    have K:=fun w=>privS s (bx.extract 0 16) w hl1 (by omega)
    rw [decide_eq_true h,Bool.true_and];unfold rcL xpB at C
    cases ho:slO s (bx.extract 0 16) t u with
    | true=>
      rw [ho] at C;exact unsS_of s bx t u w _ _ _ _ _ _ _ _ true h C K
    | false=>
      rw [ho] at C;have:=unsS_of s bx t u w _ _ _ _ _ _ _ _ false h C K;simpa using this
  · rw [decide_eq_false h,Bool.false_and,Bool.false_and,if_neg (by decide)];exact unsS_size s bx t u w h
theorem slV {a0 a2:Addr}{s n:ByteArray}{t:Tri}{u:ByteArray}:if slO s n t u then slE a0 a2 s n t u= .nilIface else∃T x,slE a0 a2 s n t u= .iface T x:=by
  cases h:slO s n t u with
  |true=>rw [if_pos rfl];exact slE_yes h
  |false=>rw [if_neg (by decide)];exact slE_no h
theorem seI (s n:ByteArray)(t:Tri)(u:ByteArray)(a0 a2:Addr)(w:World)(hT:TabK w)(hs:So w a0 a2):
    Cr 13 #[.string s,.string n,.agg #[int u64 (t.1:Int),int u64 (t.2.1:Int),.bool t.2.2],.string u] w (.tuple #[.agg (rcL s n t u).toArray,.string (xpB s n t u),.bool (slO s n t u)]):=by
  have C:=fun w' (hb:Bl w w')=>slI s n t u a0 a2 w' (hT.kept hb) (hs.keep hb)
  have hv:=slV (a0:=a0) (a2:=a2) (s:=s) (n:=n) (t:=t) (u:=u);unfold rcL xpB;unfold sdL at C
  cases h:slO s n t u with
  | true=>
    rw [h] at C hv;exact seaI_of s n t u _ _ _ _ _ _ _ true _ w hv C
  | false=>
    rw [h] at C hv;exact seaI_of s n t u _ _ _ _ _ _ _ false _ w hv C
theorem unI (s bx:ByteArray)(t:Tri)(u:ByteArray)(a0 a2:Addr)(w:World)(hT:TabK w)(hs:So w a0 a2):
    Cr 11 #[.string s,.string bx,.agg #[int u64 (t.1:Int),int u64 (t.2.1:Int),.bool t.2.2],.string u] w (unV s bx t u):=by
  unfold unV unO;by_cases h:bx.size=48
  · rw [decide_eq_true h,Bool.true_and];have C:=fun w0 (hb0:Bl w w0) w' (hb:Bl w0 w')=>slI s (bx.extract 0 16) t u a0 a2 w' (hT.kept (hb0.tr hb)) (hs.keep (hb0.tr hb))
    have hv:=slV (a0:=a0) (a2:=a2) (s:=s) (n:=bx.extract 0 16) (t:=t) (u:=u);unfold sdL at C
    cases ho:slO s (bx.extract 0 16) t u with
    | true=>
      rw [ho] at C hv;have U:=fun w0 hb0=>unlI_of s bx t u w0 _ _ _ _ _ _ _ _ true hv h (C w0 hb0)
      by_cases hq:bx.extract 0 16++slM s (bx.extract 0 16) t u=bx
      · rw [decide_eq_true hq] at U⊢;exact unsI_of s bx t u _ _ _ _ _ _ _ true _ w rfl U
      · rw [decide_eq_false hq] at U⊢;exact unsI_of s bx t u _ _ _ _ _ _ _ false _ w ⟨_,_,rfl⟩ U
    | false=>
      rw [ho] at C hv;have U:=fun w0 hb0=>unlI_of s bx t u w0 _ _ _ _ _ _ _ _ false hv h (C w0 hb0)
      rw [Bool.false_and] at U⊢;exact unsI_of s bx t u _ _ _ _ _ _ _ false _ w ⟨_,_,rfl⟩ U
  · rw [decide_eq_false h,Bool.false_and,Bool.false_and,if_neg (by decide)];exact unsI_of s bx t u _ _ _ _ _ _ _ false _ w ⟨_,_,rfl⟩ (fun w0 hb0=>unlI_size s bx t u w0 h)
end
theorem grownS (W:World)(b i:Nat)(x:Value):W.grownBy (W.setCell ⟨b,i,none⟩ x) (some b):=⟨rfl,rfl,rfl,by simp,fun k _ hk=>heap_setCell_other W ⟨b,i,none⟩ k x (fun e=>hk (by simp [e]))⟩
theorem grownT {W W' W'':World}{r:Option Nat}(h:W.grownBy W' r)(h':W'.grownBy W'' r):W.grownBy W'' r:=⟨h'.os.trans h.os,h'.tape.trans h.tape,h'.output.trans h.output,Nat.le_trans h.size h'.size,fun k h0 h1=>(h'.block k (Nat.lt_of_lt_of_le h0 h.size) h1).trans (h.block k h0 h1)⟩
section
open M
theorem Bk.keptG {W W':World}{t:TypeId}{b:Nat}{cs:Array Value}{row:Option Nat}(h:Bk W t b cs)(hg:W.grownBy W' row)(hne:some b≠row):Bk W' t b cs:=(hg.block b h.lt hne).trans h
section
variable {A:Act}{w:World}{dst:Option Tmp}{ty:TypeId}{ps:String}{af:Array Edge}{gd:Option (Nat×Bool)}{x y z:Operand}{b i:Nat}
theorem slPr {s:ByteArray}{k:Nat}(hx:A.eval x= .string s)(hy:A.eval y= .int .i64 (k:Int))(hk:k≤s.size):Does prog (Opr dst (.slice 9 x none (some y) none) ty ps af gd) A w fun v' w'=>v'= .string (s.extract 0 k)∧Bl w w':=dv (by generalize A.eval=ev at*;simp [execOp,hx,hy,Instr.slice,Instr.sliceBounds,Instr.sliceBound,hk,go_sem])
theorem slT {s:ByteArray}{k:Nat}(hx:A.eval x= .string s)(hy:A.eval y= .int .i64 (k:Int))(hk:k≤s.size):Does prog (Opr dst (.slice 9 x (some y) none none) ty ps af gd) A w fun v' w'=>v'= .string (s.extract k s.size)∧Bl w w':=dv (by generalize A.eval=ev at*;simp [execOp,hx,hy,Instr.slice,Instr.sliceBounds,Instr.sliceBound,hk,go_sem])
theorem xo4 {z:Int}(hx:A.eval x= .int .u8 z):Does prog (Opr dst (.binOp .xor 5 x (.const (.int .u8 4)) 5) ty ps af gd) A w fun v' w'=>v'= .int .u8 (bits .xor .u8 z 4)∧Bl w w':=by
  have hc:A.eval (.const (.int .u8 4))= .int .u8 4:=rfl;have h:(execOp A.eval (Opr dst (.binOp .xor 5 x (.const (.int .u8 4)) 5) ty ps af gd)).run prog w= .ok (.value (.int .u8 (bits .xor .u8 z 4))) w:=by generalize A.eval=ev at*;simp [execOp,hx,hc,go_sem]
  exact does_value h ⟨rfl,Below.refl _ _⟩
theorem ad1 {k:Nat}(hx:A.eval x= .int .i64 (k:Int))(hk:k<1000000):Does prog (Opr dst (.binOp .add 3 x (.const (.int .i64 1)) 3) ty ps af gd) A w fun v' w'=>v'= .int .i64 ((k+1:Nat):Int)∧Bl w w':=by
  have hc:A.eval (.const (.int .i64 1))= .int .i64 1:=rfl;have hw:IntKind.i64.wrap ((k:Int)+1)=(k:Int)+1:=by rw [IntKind.wrap_i64];omega
  have h:(execOp A.eval (Opr dst (.binOp .add 3 x (.const (.int .i64 1)) 3) ty ps af gd)).run prog w= .ok (.value (.int .i64 ((k:Int)+1))) w:=by generalize A.eval=ev at*;simp [execOp,hx,hc,hw,go_sem]
  exact does_value h ⟨rfl,Below.refl _ _⟩
theorem ixT {s:ByteArray}{j:Nat}{k:Int}(hx:A.eval x= .string s)(hy:A.eval y= .int .i64 (j:Int))(hj:j<s.size)(hk:(s[j].toNat:Int)=k):Does prog (Opr dst (.index 9 x y) ty ps af gd) A w fun v' w'=>v'= .int .u8 k∧Bl w w':=by
  have hj':(j:Int)<(s.size:Int):=by omega
  have h:(execOp A.eval (Opr dst (.index 9 x y) ty ps af gd)).run prog w= .ok (.value (.int .u8 k)) w:=by generalize A.eval=ev at*;simp [execOp,hx,hy,hj',hk,go_sem]
  exact does_value h ⟨rfl,Below.refl _ _⟩
end
theorem rc5 (s n:ByteArray)(t:Tri)(u:ByteArray):∃v0 v4 v1 v2 v3,v4.size≤1000+n.size∧rcL s n t u= [.string v0,int u64 v1,int u64 v2,.bool v3,.string v4]:=by
  unfold rcL rcZ;split
  · exact⟨_,_,_,_,_,by rw [ByteArray.size_append,slM_size];omega,rfl⟩
  · exact⟨_,_,_,_,_,Nat.zero_le _,rfl⟩
theorem codT1 {w:World}{a:Option Addr}{l c:Nat}(hv:Cod w (.slice a l c))(K:Nat)(hK:K≤l)(c2:Nat):Cod w (.slice a (l-K) c2):=by
  by_cases h0:l-K=0
  · rw [h0];exact .inl ⟨_,_,rfl⟩
  · rcases hv with ⟨p,c',h⟩|⟨b,o,n,c',h1,h2,h,hc⟩
    · cases h;omega
    · cases h;exact .inr ⟨b,o,l-K,c2,by omega,by omega,rfl,fun i hi=>hc i (by omega)⟩
theorem codC {w:World}{a:Option Addr}{l c:Nat}(hv:Cod w (.slice a l c))(c2:Nat):Cod w (.slice a l c2):=codT1 hv 0 (Nat.zero_le _) c2
theorem codT2 {w:World}{a:Option Addr}{l c:Nat}(hv:Cod w (.slice a l c))(K:Nat)(hK:K≤l)(c2:Nat):Cod w (.slice (Option.map (fun x=>x.add K) a) (l-K) c2):=by
  by_cases h0:l-K=0
  · rw [h0];exact .inl ⟨_,_,rfl⟩
  · rcases hv with ⟨p,c',h⟩|⟨b,o,n,c',h1,h2,h,hc⟩
    · cases h;omega
    · cases h;refine .inr ⟨b,o+K,l-K,c2,by omega,by omega,?_,fun i hi=>by rw [Nat.add_assoc];exact hc (K+i) (by omega)⟩;unfold Addr.add;by_cases hk:K=0
      · subst hk;rfl
      · simp [hk]
theorem duns (a:Option Addr)(l c:Nat)(w:World)(hv:Cod w (.slice a l c))(hl:l≤1048576):
    Calls prog 26 #[.slice a l c] w fun e w'=>(∃(s bx:ByteArray) (t:Tri) (u:ByteArray),s.size≤1000∧u.size≤1000∧e= .returned (.tuple #[.string s,.string bx,.agg #[int u64 (t.1:Int),int u64 (t.2.1:Int),.bool t.2.2],.string u]))∧Bl w w':=by
  have h4:=Bk.new w 27 #[int u64 0,int u64 0,.bool false];have hB:=balc w (Obj.cells #[int u64 0,int u64 0,.bool false] 27);have sz:(w.alloc (Obj.cells #[int u64 0,int u64 0,.bool false] 27)).heap.size=w.heap.size+1:=by simp
  obtain⟨W1,eW1⟩:∃W,w.alloc (Obj.cells #[int u64 0,int u64 0,.bool false] 27)=W:=⟨_,rfl⟩;rw [eW1] at h4 hB sz;obtain⟨b4,qb4⟩:∃b,w.heap.size=b:=⟨_,rfl⟩;rw [qb4] at h4;have hl4:w.heap.size≤b4:=by omega
  have u4:b4<W1.heap.size:=by omega
  clear sz;have T1:=take_any (.slice a l c) 0 12 W1 (hv.below hB) (by omega) (by omega) (by omega)
  obtain⟨K,hK,hKl⟩:∃K:Nat,(1:Int).tmod ((l:Int)+1)=(K:Int)∧K≤l:=⟨1%(l+1),(Int.ofNat_tmod 1 (l+1)).symm,by
    rcases Nat.eq_zero_or_pos l with h|h
    · subst h;decide
    · have:=Nat.mod_le 1 (l+1);omega⟩
  have hKi:(K:Int)≤(l:Int):=by omega
  have hl':(l:Int)≤1048576:=by omega
  have hl0: ¬ ((l:Int)+1=0):=by omega
  go_enter func26,ntmps26;go_wp2_with fail;refine T1.mono ?_;rintro e w1 ⟨⟨ho,hh,rfl⟩,rfl⟩;clear T1;go_wp2_with fail
  all_goals
    refine(dsel _ _ (by first|exact codT1 (hv.below hB) K hKl _|exact codT2 (hv.below hB) K hKl _)).mono ?_;rintro e w2 ⟨⟨s,n,x0,y0,c0,u,hs,hn,hu,hx0,hy0,rfl⟩,d1⟩;have m2:W1.heap.size≤w2.heap.size:=d1.size;clear hK hKl hKi hl' hl0
    try clear h
    replace h4:=h4.keep d1;replace hB:=hB.tr d1;clear d1;obtain⟨t,ht1,ht2,ht3⟩:∃t:Tri,x0=t.1∧y0=t.2.1∧c0=t.2.2:=⟨(x0,y0,c0),rfl,rfl,rfl⟩;subst ht1 ht2 ht3;have h10:=Bk.new w2 27 #[int u64 (t.1:Int),int u64 (t.2.1:Int),.bool t.2.2];replace h4:=h4.alloc (Obj.cells #[int u64 (t.1:Int),int u64 (t.2.1:Int),.bool t.2.2] 27);replace hB:=hB.alloc hB.size (Obj.cells #[int u64 (t.1:Int),int u64 (t.2.1:Int),.bool t.2.2] 27);have sz2:(w2.alloc (Obj.cells #[int u64 (t.1:Int),int u64 (t.2.1:Int),.bool t.2.2] 27)).heap.size=w2.heap.size+1:=by simp
    obtain⟨W3,eW3⟩:∃W,w2.alloc (Obj.cells #[int u64 (t.1:Int),int u64 (t.2.1:Int),.bool t.2.2] 27)=W:=⟨_,rfl⟩;rw [eW3] at h4 h10 hB sz2;obtain⟨b10,qb10⟩:∃b,w2.heap.size=b:=⟨_,rfl⟩;rw [qb10] at h10 sz2;have n10:b10∉ [b4]:=fun h=>by have:=List.mem_singleton.1 h;omega
    have hl10:w.heap.size≤b10:=by omega
    have ne10:b4≠b10:=by omega
    clear sz2 m2 u4 hx0 hy0;go_wp2_with fail;refine(take_any _ 1 48 W3 (codC (hv.below hB) _) (by omega) (by omega) (by omega)).mono ?_;rintro e w3 ⟨⟨x,hx,rfl⟩,rfl⟩;have SS:=selS s n t u W3 (by omega) (by omega) (by omega);obtain⟨v0,bx,v1,v2,v3,hbz,hrc⟩:=rc5 s n t u;rw [hrc] at SS;generalize xpB s n t u=xp at*;generalize slO s n t u=so at*;have p0:W3.cell? ⟨b10,0,none⟩=some (int u64 (t.1:Int)):=h10.cell (k:=0) rfl;have p1:W3.cell? ⟨b10,1,none⟩=some (int u64 (t.2.1:Int)):=h10.cell (k:=1) rfl;have p2:W3.cell? ⟨b10,2,none⟩=some (.bool t.2.2):=h10.cell (k:=2) rfl;go_wp2_with fail;refine SS.mono ?_;rintro e w4 ⟨rfl,d1⟩;replace h4:=h4.keep d1;replace h10:=h10.keep d1;replace hB:=hB.tr d1;clear d1;clear SS hrc p0 p1 p2 eW3 qb10 eW1 qb4;have h14:=Bk.new w4 31 #[.string v0,int u64 v1,int u64 v2,.bool v3,.string bx];replace h4:=h4.alloc (Obj.cells #[.string v0,int u64 v1,int u64 v2,.bool v3,.string bx] 31);replace h10:=h10.alloc (Obj.cells #[.string v0,int u64 v1,int u64 v2,.bool v3,.string bx] 31);replace hB:=hB.alloc hB.size (Obj.cells #[.string v0,int u64 v1,int u64 v2,.bool v3,.string bx] 31);obtain⟨W9,eW9⟩:∃W,w4.alloc (Obj.cells #[.string v0,int u64 v1,int u64 v2,.bool v3,.string bx] 31)=W:=⟨_,rfl⟩;rw [eW9] at h4 h10 h14 hB;have c4:W9.cell? ⟨w4.heap.size,4,none⟩=some (.string bx):=h14.cell (k:=4) rfl;have hS1:s.size≤1000:=by omega
    have hU1:u.size≤1000:=by omega
    by_cases k0:ho=0
    · subst k0;have hcx: ¬ (9223372036854775807<u.size+(⟨#[120]⟩:ByteArray).size):=by have:(⟨#[120]⟩:ByteArray).size=1:=rfl;omega
      replace hU1:(u++⟨#[120]⟩).size≤1000:=by rw [ByteArray.size_append];have:(⟨#[120]⟩:ByteArray).size=1:=rfl;omega
      go_wp2;clear eW9
      refine G.pool_list (W:=W9) [b4] [.val (.string s),
          .val (.string bx),
          .val (.agg #[int u64 (t.1:Int),int u64 (t.2.1:Int),.bool t.2.2]),
          .val (.string (u++⟨#[120]⟩)),
          .val (.string s),
          .val (.string bx),
          .set (b4) (.cells #[int u64 0,int u64 0,.bool false] 27) (.cells #[int u64 (t.1:Int),int u64 (t.2.1:Int),.bool t.2.2] 27),
          .val (.string (u++⟨#[120]⟩))] [[8],[17],[10],[11],[91],[92],[4,93],[94]] (fun f=> [(some 91,.string s),(some 92,.string bx),(some 93,.agg #[int u64 (t.1:Int),int u64 (t.2.1:Int),.bool t.2.2]),(some 94,.string (u++⟨#[120]⟩)),(some 2,.string s),(some 3,.string bx),(none,undef),(some 5,.string (u++⟨#[120]⟩))]) (by kernel_rfl) (by kernel_rfl) (by kernel_rfl) (by kernel_rfl) (fun _=>by kernel_rfl) (G.last_of [.cells #[int u64 0,int u64 0,.bool false] 27] (fun F R hm=>by simp at hm) (fun ob ob' k hm=>by simp at hm) (fun b ob ob' hm=>by simp at hm;simp [hm])) (fun b ob ob' hm=>by simp at hm;obtain⟨rfl,rfl,-⟩:=hm;exact h4) ?_ ?_
      · intro ix hix
        match ix,hix with
        |0,_=>exact G.obv [(8,.string s)] rfl rfl (fun A w ⟨e0,_⟩ hB=>Y.move e0)
        |1,_=>exact G.obv [(17,.string bx)] rfl rfl (fun A w ⟨e0,_⟩ hB=>Y.move e0)
        |2,_=>exact G.obv [(10,.pointer (some ⟨b10,0,none⟩))] rfl rfl (fun A w ⟨e0,_⟩ hB=>Y.ldT underlying27 rfl (by kernel_rfl) e0 (Y.sideS hB h10 n10))
        |3,_=>exact G.obv [(11,.string (u++⟨#[120]⟩))] rfl rfl (fun A w ⟨e0,_⟩ hB=>Y.move e0)
        |4,_=>exact G.obv [(91,.string s)] rfl rfl (fun A w ⟨e0,_⟩ hB=>Y.assign e0)
        |5,_=>exact G.obv [(92,.string bx)] rfl rfl (fun A w ⟨e0,_⟩ hB=>Y.assign e0)
        |6,_=>exact G.ob_set (fun f=> [(4,.pointer (some ⟨b4,0,none⟩)),(93,.agg #[int u64 (t.1:Int),int u64 (t.2.1:Int),.bool t.2.2])]) rfl rfl rfl (by simp) h4.lt (fun j ob1 ob2 h=>by (rcases j with _|_|_|_|_|_|_|_|j)<;>simp [G.kindOf] at h⊢ <;>omega) (fun _=>by kernel_rfl) (fun f A w ⟨e0,e1,_⟩ hh hr=>Y.puA e0 e1 hr rfl (by kernel_rfl) (by simp [Value.oneCell']))
        |7,_=>exact G.obv [(94,.string (u++⟨#[120]⟩))] rfl rfl (fun A w ⟨e0,_⟩ hB=>Y.assign e0)
        |ix+8,h=>exact absurd h (by simp)
      intro f W10 hS _ _ _ hset;have q4:Bk W10 27 b4 #[int u64 (t.1:Int),int u64 (t.2.1:Int),.bool t.2.2]:=hset 6 _ _ _ rfl (by decide);have hB3:Bl w W10:=hS.under hB.drew (by intro b h;rw [List.mem_singleton.1 h];exact hl4) hB.size;clear hset hS;simp only [puts,List.foldl,Act.put,List.setIfInBounds_toArray,List.set_cons_zero,List.set_cons_succ];go_wp2;exact bodyPost_ret (v:= .tuple #[.string s,.string bx,.agg #[int u64 (t.1:Int),int u64 (t.2.1:Int),.bool t.2.2],.string (u++⟨#[120]⟩)]) (res_ttct (fn:=Tryz.f26) (p:=2) (q:=3) (r:=4) (u:=5) results26 _ rfl q4 rfl) rfl ⟨⟨_,_,t,_,hS1,hU1,rfl⟩,hB3⟩
    by_cases k1:ho=1
    · subst k1;have NG:=fun w=>negS_any t.1 t.2.1 t.2.2 w
      obtain⟨t',q1,q2,q3,q5,-⟩:=pt_nat (ng_on (asPt_on t.1 t.2.1 t.2.2));rw [ptW_eq,q2,q3,q5] at NG;clear q1 q2 q3 q5;have p0:W9.cell? ⟨b10,0,none⟩=some (int u64 (t.1:Int)):=h10.cell (k:=0) rfl;have p1:W9.cell? ⟨b10,1,none⟩=some (int u64 (t.2.1:Int)):=h10.cell (k:=1) rfl;have p2:W9.cell? ⟨b10,2,none⟩=some (.bool t.2.2):=h10.cell (k:=2) rfl;go_wp2_with fail;refine(NG _).mono ?_;rintro e w5 ⟨rfl,d1⟩;replace h4:=h4.keep d1;replace h10:=h10.keep d1;replace hB:=hB.tr d1;clear d1;clear p0 p1 p2 eW9 NG c4 h14;have p0:w5.cell? ⟨b10,0,none⟩=some (int u64 (t.1:Int)):=h10.cell (k:=0) rfl;have p1:w5.cell? ⟨b10,1,none⟩=some (int u64 (t.2.1:Int)):=h10.cell (k:=1) rfl;have p2:w5.cell? ⟨b10,2,none⟩=some (.bool t.2.2):=h10.cell (k:=2) rfl;have f0:=h10.frz 0;have f1:=h10.frz 1;have f2:=h10.frz 2;have g4:=h4.keptG (grownT (grownT (grownS w5 b10 0 (int u64 (t'.1:Int))) (grownS _ b10 1 (int u64 (t'.2.1:Int)))) (grownS _ b10 2 (.bool t'.2.2))) (fun e=>ne10 (Option.some.inj e));have g10:=((h10.set 0 (int u64 (t'.1:Int))).set 1 (int u64 (t'.2.1:Int))).set 2 (.bool t'.2.2);have gB:=((hB.setCell (p:=⟨b10,0,none⟩) hl10 (int u64 (t'.1:Int))).setCell (p:=⟨b10,1,none⟩) hl10 (int u64 (t'.2.1:Int))).setCell (p:=⟨b10,2,none⟩) hl10 (.bool t'.2.2);simp only [List.setIfInBounds_toArray,List.set_cons_zero,List.set_cons_succ] at g10;clear W9;go_wp2;clear h4 h10 hB p0 p1 p2 f0 f1 f2;generalize ((w5.setCell ⟨b10,0,none⟩ (int u64 (t'.1:Int))).setCell ⟨b10,1,none⟩ (int u64 (t'.2.1:Int))).setCell ⟨b10,2,none⟩ (.bool t'.2.2)=W9 at*;have h4:=g4;have h10:=g10;have hB:=gB;clear g4 g10 gB
      refine G.pool_list (W:=W9) [b4] [.val (.string s),
          .val (.string bx),
          .val (.agg #[int u64 (t'.1:Int),int u64 (t'.2.1:Int),.bool t'.2.2]),
          .val (.string u),
          .val (.string s),
          .val (.string bx),
          .set (b4) (.cells #[int u64 0,int u64 0,.bool false] 27) (.cells #[int u64 (t'.1:Int),int u64 (t'.2.1:Int),.bool t'.2.2] 27),
          .val (.string u)] [[8],[17],[10],[11],[91],[92],[4,93],[94]] (fun f=> [(some 91,.string s),(some 92,.string bx),(some 93,.agg #[int u64 (t'.1:Int),int u64 (t'.2.1:Int),.bool t'.2.2]),(some 94,.string u),(some 2,.string s),(some 3,.string bx),(none,undef),(some 5,.string u)]) (by kernel_rfl) (by kernel_rfl) (by kernel_rfl) (by kernel_rfl) (fun _=>by kernel_rfl) (G.last_of [.cells #[int u64 0,int u64 0,.bool false] 27] (fun F R hm=>by simp at hm) (fun ob ob' k hm=>by simp at hm) (fun b ob ob' hm=>by simp at hm;simp [hm])) (fun b ob ob' hm=>by simp at hm;obtain⟨rfl,rfl,-⟩:=hm;exact h4) ?_ ?_
      · intro ix hix
        match ix,hix with
        |0,_=>exact G.obv [(8,.string s)] rfl rfl (fun A w ⟨e0,_⟩ hB=>Y.move e0)
        |1,_=>exact G.obv [(17,.string bx)] rfl rfl (fun A w ⟨e0,_⟩ hB=>Y.move e0)
        |2,_=>exact G.obv [(10,.pointer (some ⟨b10,0,none⟩))] rfl rfl (fun A w ⟨e0,_⟩ hB=>Y.ldT underlying27 rfl (by kernel_rfl) e0 (Y.sideS hB h10 n10))
        |3,_=>exact G.obv [(11,.string u)] rfl rfl (fun A w ⟨e0,_⟩ hB=>Y.move e0)
        |4,_=>exact G.obv [(91,.string s)] rfl rfl (fun A w ⟨e0,_⟩ hB=>Y.assign e0)
        |5,_=>exact G.obv [(92,.string bx)] rfl rfl (fun A w ⟨e0,_⟩ hB=>Y.assign e0)
        |6,_=>exact G.ob_set (fun f=> [(4,.pointer (some ⟨b4,0,none⟩)),(93,.agg #[int u64 (t'.1:Int),int u64 (t'.2.1:Int),.bool t'.2.2])]) rfl rfl rfl (by simp) h4.lt (fun j ob1 ob2 h=>by (rcases j with _|_|_|_|_|_|_|_|j)<;>simp [G.kindOf] at h⊢ <;>omega) (fun _=>by kernel_rfl) (fun f A w ⟨e0,e1,_⟩ hh hr=>Y.puA e0 e1 hr rfl (by kernel_rfl) (by simp [Value.oneCell']))
        |7,_=>exact G.obv [(94,.string u)] rfl rfl (fun A w ⟨e0,_⟩ hB=>Y.assign e0)
        |ix+8,h=>exact absurd h (by simp)
      intro f W10 hS _ _ _ hset;have q4:Bk W10 27 b4 #[int u64 (t'.1:Int),int u64 (t'.2.1:Int),.bool t'.2.2]:=hset 6 _ _ _ rfl (by decide);have hB3:Bl w W10:=hS.under hB.drew (by intro b h;rw [List.mem_singleton.1 h];exact hl4) hB.size;clear hset hS;simp only [puts,List.foldl,Act.put,List.setIfInBounds_toArray,List.set_cons_zero,List.set_cons_succ];go_wp2;exact bodyPost_ret (v:= .tuple #[.string s,.string bx,.agg #[int u64 (t'.1:Int),int u64 (t'.2.1:Int),.bool t'.2.2],.string u]) (res_ttct (fn:=Tryz.f26) (p:=2) (q:=3) (r:=4) (u:=5) results26 _ rfl q4 rfl) rfl ⟨⟨_,_,t',_,hS1,hU1,rfl⟩,hB3⟩
    by_cases k2:ho=2
    · subst k2;obtain⟨ls,hls,-,LL⟩:=longU ⟨#[115]⟩ (by decide) (by decide) 32 (by omega);replace hS1:ls.size≤1000:=by have:(⟨#[115]⟩:ByteArray).size=1:=rfl;omega
      go_wp2_with fail;refine(LL _).mono ?_;rintro e w5 ⟨rfl,rfl⟩;clear LL;go_wp2;clear eW9
      refine G.pool_list (W:=W9) [b4] [.val (.string ls),
          .val (.string bx),
          .val (.agg #[int u64 (t.1:Int),int u64 (t.2.1:Int),.bool t.2.2]),
          .val (.string u),
          .val (.string ls),
          .val (.string bx),
          .set (b4) (.cells #[int u64 0,int u64 0,.bool false] 27) (.cells #[int u64 (t.1:Int),int u64 (t.2.1:Int),.bool t.2.2] 27),
          .val (.string u)] [[8],[17],[10],[11],[91],[92],[4,93],[94]] (fun f=> [(some 91,.string ls),(some 92,.string bx),(some 93,.agg #[int u64 (t.1:Int),int u64 (t.2.1:Int),.bool t.2.2]),(some 94,.string u),(some 2,.string ls),(some 3,.string bx),(none,undef),(some 5,.string u)]) (by kernel_rfl) (by kernel_rfl) (by kernel_rfl) (by kernel_rfl) (fun _=>by kernel_rfl) (G.last_of [.cells #[int u64 0,int u64 0,.bool false] 27] (fun F R hm=>by simp at hm) (fun ob ob' k hm=>by simp at hm) (fun b ob ob' hm=>by simp at hm;simp [hm])) (fun b ob ob' hm=>by simp at hm;obtain⟨rfl,rfl,-⟩:=hm;exact h4) ?_ ?_
      · intro ix hix
        match ix,hix with
        |0,_=>exact G.obv [(8,.string ls)] rfl rfl (fun A w ⟨e0,_⟩ hB=>Y.move e0)
        |1,_=>exact G.obv [(17,.string bx)] rfl rfl (fun A w ⟨e0,_⟩ hB=>Y.move e0)
        |2,_=>exact G.obv [(10,.pointer (some ⟨b10,0,none⟩))] rfl rfl (fun A w ⟨e0,_⟩ hB=>Y.ldT underlying27 rfl (by kernel_rfl) e0 (Y.sideS hB h10 n10))
        |3,_=>exact G.obv [(11,.string u)] rfl rfl (fun A w ⟨e0,_⟩ hB=>Y.move e0)
        |4,_=>exact G.obv [(91,.string ls)] rfl rfl (fun A w ⟨e0,_⟩ hB=>Y.assign e0)
        |5,_=>exact G.obv [(92,.string bx)] rfl rfl (fun A w ⟨e0,_⟩ hB=>Y.assign e0)
        |6,_=>exact G.ob_set (fun f=> [(4,.pointer (some ⟨b4,0,none⟩)),(93,.agg #[int u64 (t.1:Int),int u64 (t.2.1:Int),.bool t.2.2])]) rfl rfl rfl (by simp) h4.lt (fun j ob1 ob2 h=>by (rcases j with _|_|_|_|_|_|_|_|j)<;>simp [G.kindOf] at h⊢ <;>omega) (fun _=>by kernel_rfl) (fun f A w ⟨e0,e1,_⟩ hh hr=>Y.puA e0 e1 hr rfl (by kernel_rfl) (by simp [Value.oneCell']))
        |7,_=>exact G.obv [(94,.string u)] rfl rfl (fun A w ⟨e0,_⟩ hB=>Y.assign e0)
        |ix+8,h=>exact absurd h (by simp)
      intro f W10 hS _ _ _ hset;have q4:Bk W10 27 b4 #[int u64 (t.1:Int),int u64 (t.2.1:Int),.bool t.2.2]:=hset 6 _ _ _ rfl (by decide);have hB3:Bl w W10:=hS.under hB.drew (by intro b h;rw [List.mem_singleton.1 h];exact hl4) hB.size;clear hset hS;simp only [puts,List.foldl,Act.put,List.setIfInBounds_toArray,List.set_cons_zero,List.set_cons_succ];go_wp2;exact bodyPost_ret (v:= .tuple #[.string ls,.string bx,.agg #[int u64 (t.1:Int),int u64 (t.2.1:Int),.bool t.2.2],.string u]) (res_ttct (fn:=Tryz.f26) (p:=2) (q:=3) (r:=4) (u:=5) results26 _ rfl q4 rfl) rfl ⟨⟨_,_,t,_,hS1,hU1,rfl⟩,hB3⟩
    by_cases k3:ho=3
    · subst k3;by_cases hxl':x<bx.size
      · have hxi:(x:Int)<(bx.size:Int):=by omega
        have hxl:x≤bx.size:=by omega
        have hx2:x<1000000:=by omega
        have hx3:x+1≤bx.size:=by omega
        obtain⟨z,hz⟩:∃z:Int,(bx[x].toNat:Int)=z:=⟨_,rfl⟩;have hxb:x<bx.size:=hxl';have hc1:(bx.extract 0 x).size+(strOfNums [bits .xor .u8 z 4]).size≤9223372036854775807:=by rw [ByteArray.size_extract,strOfNums_size];simp;omega
        have hc2:(bx.extract 0 x++strOfNums [bits .xor .u8 z 4]).size+(bx.extract (x+1) bx.size).size≤9223372036854775807:=by rw [ByteArray.size_append,ByteArray.size_extract,ByteArray.size_extract,strOfNums_size];simp;omega
        obtain⟨W8,hW8⟩:∃W,W=W9:=⟨_,rfl⟩;rw [←hW8] at h4 h10 hB c4 eW9 h14;clear hW8;clear W9;go_wp2;clear eW9 c4 hxi
        refine G.pool_list (W:=W8) [] [.val (.string bx),
            .val (.int .i64 (x:Int)),
            .val (.string (bx.extract 0 x)),
            .val (.string bx),
            .val (.int .i64 (x:Int)),
            .val (.int .u8 z),
            .val (.int .u8 (bits .xor .u8 z 4)),
            .new (.cells #[.int .u8 (bits .xor .u8 z 4)] 5) (.cells #[.int .u8 (bits .xor .u8 z 4)] 5) 1001,
            .val (.string (strOfNums [bits .xor .u8 z 4])),
            .val (.string (bx.extract 0 x++strOfNums [bits .xor .u8 z 4])),
            .val (.string bx),
            .val (.int .i64 (x:Int)),
            .val (.int .i64 ((x+1:Nat):Int)),
            .val (.string (bx.extract (x+1) bx.size)),
            .val (.string (bx.extract 0 x++strOfNums [bits .xor .u8 z 4]++bx.extract (x+1) bx.size)),
            .val (.string (bx.extract 0 x++strOfNums [bits .xor .u8 z 4]++bx.extract (x+1) bx.size))] [[17],[12],[72,73],[17],[12],[75,76],[77],[78],[79],[74,80],[17],[12],[83],[82,84],[81,85],[86]] (fun f=> [(some 72,.string bx),(some 73,.int .i64 (x:Int)),(some 74,.string (bx.extract 0 x)),(some 75,.string bx),(some 76,.int .i64 (x:Int)),(some 77,.int .u8 z),(some 78,.int .u8 (bits .xor .u8 z 4)),(some 79,.slice (some ⟨f 7,0,none⟩) 1 1),(some 80,.string (strOfNums [bits .xor .u8 z 4])),(some 81,.string (bx.extract 0 x++strOfNums [bits .xor .u8 z 4])),(some 82,.string bx),(some 83,.int .i64 (x:Int)),(some 84,.int .i64 ((x+1:Nat):Int)),(some 85,.string (bx.extract (x+1) bx.size)),(some 86,.string (bx.extract 0 x++strOfNums [bits .xor .u8 z 4]++bx.extract (x+1) bx.size)),(some 17,.string (bx.extract 0 x++strOfNums [bits .xor .u8 z 4]++bx.extract (x+1) bx.size))]) (by kernel_rfl) (by kernel_rfl) (by kernel_rfl) (by kernel_rfl) (fun _=>by kernel_rfl) (G.last_of [.cells #[.int .u8 (bits .xor .u8 z 4)] 5] (fun F R hm=>by simp at hm) (fun ob ob' k hm=>by simp at hm;simp [hm]) (fun b ob ob' hm=>by simp at hm)) (fun b ob ob' hm=>by simp at hm) ?_ ?_
        · intro ix hix
          match ix,hix with
          |0,_=>exact G.obv [(17,.string bx)] rfl rfl (fun A w ⟨e0,_⟩ hB=>Y.move e0)
          |1,_=>exact G.obv [(12,.int .i64 (x:Int))] rfl rfl (fun A w ⟨e0,_⟩ hB=>Y.move e0)
          |2,_=>exact G.obv [(72,.string bx),(73,.int .i64 (x:Int))] rfl rfl (fun A w ⟨e0,e1,_⟩ hB=>slPr e0 e1 hxl)
          |3,_=>exact G.obv [(17,.string bx)] rfl rfl (fun A w ⟨e0,_⟩ hB=>Y.move e0)
          |4,_=>exact G.obv [(12,.int .i64 (x:Int))] rfl rfl (fun A w ⟨e0,_⟩ hB=>Y.move e0)
          |5,_=>exact G.obv [(75,.string bx),(76,.int .i64 (x:Int))] rfl rfl (fun A w ⟨e0,e1,_⟩ hB=>ixT e0 e1 hxb hz)
          |6,_=>exact G.obv [(77,.int .u8 z)] rfl rfl (fun A w ⟨e0,_⟩ hB=>xo4 e0)
          |7,_=>exact G.ob_slc 1 [(78,.int .u8 (bits .xor .u8 z 4))] rfl rfl (fun _=>by kernel_rfl) (fun A w ⟨e0,_⟩=>dksl e0)
          |8,_=>exact G.ob_use 79 7 1001 (.cells #[.int .u8 (bits .xor .u8 z 4)] 5) (fun f=> [(79,.slice (some ⟨f 7,0,none⟩) 1 1)]) rfl rfl (by decide) (by kernel_rfl) rfl (fun _=>by kernel_rfl) (fun f A w ⟨e0,_⟩ hB hr=>dkcv e0 hr)
          |9,_=>exact G.obv [(74,.string (bx.extract 0 x)),(80,.string (strOfNums [bits .xor .u8 z 4]))] rfl rfl (fun A w ⟨e0,e1,_⟩ hB=>Y.cat e0 e1 hc1)
          |10,_=>exact G.obv [(17,.string bx)] rfl rfl (fun A w ⟨e0,_⟩ hB=>Y.move e0)
          |11,_=>exact G.obv [(12,.int .i64 (x:Int))] rfl rfl (fun A w ⟨e0,_⟩ hB=>Y.move e0)
          |12,_=>exact G.obv [(83,.int .i64 (x:Int))] rfl rfl (fun A w ⟨e0,_⟩ hB=>ad1 e0 hx2)
          |13,_=>exact G.obv [(82,.string bx),(84,.int .i64 ((x+1:Nat):Int))] rfl rfl (fun A w ⟨e0,e1,_⟩ hB=>slT e0 e1 hx3)
          |14,_=>exact G.obv [(81,.string (bx.extract 0 x++strOfNums [bits .xor .u8 z 4])),(85,.string (bx.extract (x+1) bx.size))] rfl rfl (fun A w ⟨e0,e1,_⟩ hB=>Y.cat e0 e1 hc2)
          |15,_=>exact G.obv [(86,.string (bx.extract 0 x++strOfNums [bits .xor .u8 z 4]++bx.extract (x+1) bx.size))] rfl rfl (fun A w ⟨e0,_⟩ hB=>Y.assign e0)
          |ix+16,h=>exact absurd h (by simp)
        intro f W9 hS _ _ _ _;have d1:Bl W8 W9:=(Below.refl _ W8).drew.trans hS.below;replace h4:=h4.keep d1;replace h10:=h10.keep d1;replace hB:=hB.tr d1;clear d1;clear hS;simp only [puts,List.foldl,Act.put,List.setIfInBounds_toArray,List.set_cons_zero,List.set_cons_succ];go_wp2
        refine G.pool_list (W:=W9) [b4] [.val (.string s),
            .val (.string (bx.extract 0 x++strOfNums [bits .xor .u8 z 4]++bx.extract (x+1) bx.size)),
            .val (.agg #[int u64 (t.1:Int),int u64 (t.2.1:Int),.bool t.2.2]),
            .val (.string u),
            .val (.string s),
            .val (.string (bx.extract 0 x++strOfNums [bits .xor .u8 z 4]++bx.extract (x+1) bx.size)),
            .set (b4) (.cells #[int u64 0,int u64 0,.bool false] 27) (.cells #[int u64 (t.1:Int),int u64 (t.2.1:Int),.bool t.2.2] 27),
            .val (.string u)] [[8],[17],[10],[11],[91],[92],[4,93],[94]] (fun f=> [(some 91,.string s),(some 92,.string (bx.extract 0 x++strOfNums [bits .xor .u8 z 4]++bx.extract (x+1) bx.size)),(some 93,.agg #[int u64 (t.1:Int),int u64 (t.2.1:Int),.bool t.2.2]),(some 94,.string u),(some 2,.string s),(some 3,.string (bx.extract 0 x++strOfNums [bits .xor .u8 z 4]++bx.extract (x+1) bx.size)),(none,undef),(some 5,.string u)]) (by kernel_rfl) (by kernel_rfl) (by kernel_rfl) (by kernel_rfl) (fun _=>by kernel_rfl) (G.last_of [.cells #[int u64 0,int u64 0,.bool false] 27] (fun F R hm=>by simp at hm) (fun ob ob' k hm=>by simp at hm) (fun b ob ob' hm=>by simp at hm;simp [hm])) (fun b ob ob' hm=>by simp at hm;obtain⟨rfl,rfl,-⟩:=hm;exact h4) ?_ ?_
        · intro ix hix
          match ix,hix with
          |0,_=>exact G.obv [(8,.string s)] rfl rfl (fun A w ⟨e0,_⟩ hB=>Y.move e0)
          |1,_=>exact G.obv [(17,.string (bx.extract 0 x++strOfNums [bits .xor .u8 z 4]++bx.extract (x+1) bx.size))] rfl rfl (fun A w ⟨e0,_⟩ hB=>Y.move e0)
          |2,_=>exact G.obv [(10,.pointer (some ⟨b10,0,none⟩))] rfl rfl (fun A w ⟨e0,_⟩ hB=>Y.ldT underlying27 rfl (by kernel_rfl) e0 (Y.sideS hB h10 n10))
          |3,_=>exact G.obv [(11,.string u)] rfl rfl (fun A w ⟨e0,_⟩ hB=>Y.move e0)
          |4,_=>exact G.obv [(91,.string s)] rfl rfl (fun A w ⟨e0,_⟩ hB=>Y.assign e0)
          |5,_=>exact G.obv [(92,.string (bx.extract 0 x++strOfNums [bits .xor .u8 z 4]++bx.extract (x+1) bx.size))] rfl rfl (fun A w ⟨e0,_⟩ hB=>Y.assign e0)
          |6,_=>exact G.ob_set (fun f=> [(4,.pointer (some ⟨b4,0,none⟩)),(93,.agg #[int u64 (t.1:Int),int u64 (t.2.1:Int),.bool t.2.2])]) rfl rfl rfl (by simp) h4.lt (fun j ob1 ob2 h=>by (rcases j with _|_|_|_|_|_|_|_|j)<;>simp [G.kindOf] at h⊢ <;>omega) (fun _=>by kernel_rfl) (fun f A w ⟨e0,e1,_⟩ hh hr=>Y.puA e0 e1 hr rfl (by kernel_rfl) (by simp [Value.oneCell']))
          |7,_=>exact G.obv [(94,.string u)] rfl rfl (fun A w ⟨e0,_⟩ hB=>Y.assign e0)
          |ix+8,h=>exact absurd h (by simp)
        intro f W10 hS _ _ _ hset;have q4:Bk W10 27 b4 #[int u64 (t.1:Int),int u64 (t.2.1:Int),.bool t.2.2]:=hset 6 _ _ _ rfl (by decide);have hB3:Bl w W10:=hS.under hB.drew (by intro b h;rw [List.mem_singleton.1 h];exact hl4) hB.size;clear hset hS;simp only [puts,List.foldl,Act.put,List.setIfInBounds_toArray,List.set_cons_zero,List.set_cons_succ];go_wp2;exact bodyPost_ret (v:= .tuple #[.string s,.string (bx.extract 0 x++strOfNums [bits .xor .u8 z 4]++bx.extract (x+1) bx.size),.agg #[int u64 (t.1:Int),int u64 (t.2.1:Int),.bool t.2.2],.string u]) (res_ttct (fn:=Tryz.f26) (p:=2) (q:=3) (r:=4) (u:=5) results26 _ rfl q4 rfl) rfl ⟨⟨_,_,t,_,hS1,hU1,rfl⟩,hB3⟩
      · have hxi: ¬ (x:Int)<(bx.size:Int):=by omega
        go_wp2;clear eW9
        refine G.pool_list (W:=W9) [b4] [.val (.string s),
            .val (.string bx),
            .val (.agg #[int u64 (t.1:Int),int u64 (t.2.1:Int),.bool t.2.2]),
            .val (.string u),
            .val (.string s),
            .val (.string bx),
            .set (b4) (.cells #[int u64 0,int u64 0,.bool false] 27) (.cells #[int u64 (t.1:Int),int u64 (t.2.1:Int),.bool t.2.2] 27),
            .val (.string u)] [[8],[17],[10],[11],[91],[92],[4,93],[94]] (fun f=> [(some 91,.string s),(some 92,.string bx),(some 93,.agg #[int u64 (t.1:Int),int u64 (t.2.1:Int),.bool t.2.2]),(some 94,.string u),(some 2,.string s),(some 3,.string bx),(none,undef),(some 5,.string u)]) (by kernel_rfl) (by kernel_rfl) (by kernel_rfl) (by kernel_rfl) (fun _=>by kernel_rfl) (G.last_of [.cells #[int u64 0,int u64 0,.bool false] 27] (fun F R hm=>by simp at hm) (fun ob ob' k hm=>by simp at hm) (fun b ob ob' hm=>by simp at hm;simp [hm])) (fun b ob ob' hm=>by simp at hm;obtain⟨rfl,rfl,-⟩:=hm;exact h4) ?_ ?_
        · intro ix hix
          match ix,hix with
          |0,_=>exact G.obv [(8,.string s)] rfl rfl (fun A w ⟨e0,_⟩ hB=>Y.move e0)
          |1,_=>exact G.obv [(17,.string bx)] rfl rfl (fun A w ⟨e0,_⟩ hB=>Y.move e0)
          |2,_=>exact G.obv [(10,.pointer (some ⟨b10,0,none⟩))] rfl rfl (fun A w ⟨e0,_⟩ hB=>Y.ldT underlying27 rfl (by kernel_rfl) e0 (Y.sideS hB h10 n10))
          |3,_=>exact G.obv [(11,.string u)] rfl rfl (fun A w ⟨e0,_⟩ hB=>Y.move e0)
          |4,_=>exact G.obv [(91,.string s)] rfl rfl (fun A w ⟨e0,_⟩ hB=>Y.assign e0)
          |5,_=>exact G.obv [(92,.string bx)] rfl rfl (fun A w ⟨e0,_⟩ hB=>Y.assign e0)
          |6,_=>exact G.ob_set (fun f=> [(4,.pointer (some ⟨b4,0,none⟩)),(93,.agg #[int u64 (t.1:Int),int u64 (t.2.1:Int),.bool t.2.2])]) rfl rfl rfl (by simp) h4.lt (fun j ob1 ob2 h=>by (rcases j with _|_|_|_|_|_|_|_|j)<;>simp [G.kindOf] at h⊢ <;>omega) (fun _=>by kernel_rfl) (fun f A w ⟨e0,e1,_⟩ hh hr=>Y.puA e0 e1 hr rfl (by kernel_rfl) (by simp [Value.oneCell']))
          |7,_=>exact G.obv [(94,.string u)] rfl rfl (fun A w ⟨e0,_⟩ hB=>Y.assign e0)
          |ix+8,h=>exact absurd h (by simp)
        intro f W10 hS _ _ _ hset;have q4:Bk W10 27 b4 #[int u64 (t.1:Int),int u64 (t.2.1:Int),.bool t.2.2]:=hset 6 _ _ _ rfl (by decide);have hB3:Bl w W10:=hS.under hB.drew (by intro b h;rw [List.mem_singleton.1 h];exact hl4) hB.size;clear hset hS;simp only [puts,List.foldl,Act.put,List.setIfInBounds_toArray,List.set_cons_zero,List.set_cons_succ];go_wp2;exact bodyPost_ret (v:= .tuple #[.string s,.string bx,.agg #[int u64 (t.1:Int),int u64 (t.2.1:Int),.bool t.2.2],.string u]) (res_ttct (fn:=Tryz.f26) (p:=2) (q:=3) (r:=4) (u:=5) results26 _ rfl q4 rfl) rfl ⟨⟨_,_,t,_,hS1,hU1,rfl⟩,hB3⟩
    by_cases k4:ho=4
    · subst k4;have hcx: ¬ (9223372036854775807<bx.size+(⟨#[120]⟩:ByteArray).size):=by have:(⟨#[120]⟩:ByteArray).size=1:=rfl;omega
      go_wp2;clear eW9
      refine G.pool_list (W:=W9) [b4] [.val (.string s),
          .val (.string (bx++⟨#[120]⟩)),
          .val (.agg #[int u64 (t.1:Int),int u64 (t.2.1:Int),.bool t.2.2]),
          .val (.string u),
          .val (.string s),
          .val (.string (bx++⟨#[120]⟩)),
          .set (b4) (.cells #[int u64 0,int u64 0,.bool false] 27) (.cells #[int u64 (t.1:Int),int u64 (t.2.1:Int),.bool t.2.2] 27),
          .val (.string u)] [[8],[17],[10],[11],[91],[92],[4,93],[94]] (fun f=> [(some 91,.string s),(some 92,.string (bx++⟨#[120]⟩)),(some 93,.agg #[int u64 (t.1:Int),int u64 (t.2.1:Int),.bool t.2.2]),(some 94,.string u),(some 2,.string s),(some 3,.string (bx++⟨#[120]⟩)),(none,undef),(some 5,.string u)]) (by kernel_rfl) (by kernel_rfl) (by kernel_rfl) (by kernel_rfl) (fun _=>by kernel_rfl) (G.last_of [.cells #[int u64 0,int u64 0,.bool false] 27] (fun F R hm=>by simp at hm) (fun ob ob' k hm=>by simp at hm) (fun b ob ob' hm=>by simp at hm;simp [hm])) (fun b ob ob' hm=>by simp at hm;obtain⟨rfl,rfl,-⟩:=hm;exact h4) ?_ ?_
      · intro ix hix
        match ix,hix with
        |0,_=>exact G.obv [(8,.string s)] rfl rfl (fun A w ⟨e0,_⟩ hB=>Y.move e0)
        |1,_=>exact G.obv [(17,.string (bx++⟨#[120]⟩))] rfl rfl (fun A w ⟨e0,_⟩ hB=>Y.move e0)
        |2,_=>exact G.obv [(10,.pointer (some ⟨b10,0,none⟩))] rfl rfl (fun A w ⟨e0,_⟩ hB=>Y.ldT underlying27 rfl (by kernel_rfl) e0 (Y.sideS hB h10 n10))
        |3,_=>exact G.obv [(11,.string u)] rfl rfl (fun A w ⟨e0,_⟩ hB=>Y.move e0)
        |4,_=>exact G.obv [(91,.string s)] rfl rfl (fun A w ⟨e0,_⟩ hB=>Y.assign e0)
        |5,_=>exact G.obv [(92,.string (bx++⟨#[120]⟩))] rfl rfl (fun A w ⟨e0,_⟩ hB=>Y.assign e0)
        |6,_=>exact G.ob_set (fun f=> [(4,.pointer (some ⟨b4,0,none⟩)),(93,.agg #[int u64 (t.1:Int),int u64 (t.2.1:Int),.bool t.2.2])]) rfl rfl rfl (by simp) h4.lt (fun j ob1 ob2 h=>by (rcases j with _|_|_|_|_|_|_|_|j)<;>simp [G.kindOf] at h⊢ <;>omega) (fun _=>by kernel_rfl) (fun f A w ⟨e0,e1,_⟩ hh hr=>Y.puA e0 e1 hr rfl (by kernel_rfl) (by simp [Value.oneCell']))
        |7,_=>exact G.obv [(94,.string u)] rfl rfl (fun A w ⟨e0,_⟩ hB=>Y.assign e0)
        |ix+8,h=>exact absurd h (by simp)
      intro f W10 hS _ _ _ hset;have q4:Bk W10 27 b4 #[int u64 (t.1:Int),int u64 (t.2.1:Int),.bool t.2.2]:=hset 6 _ _ _ rfl (by decide);have hB3:Bl w W10:=hS.under hB.drew (by intro b h;rw [List.mem_singleton.1 h];exact hl4) hB.size;clear hset hS;simp only [puts,List.foldl,Act.put,List.setIfInBounds_toArray,List.set_cons_zero,List.set_cons_succ];go_wp2;exact bodyPost_ret (v:= .tuple #[.string s,.string (bx++⟨#[120]⟩),.agg #[int u64 (t.1:Int),int u64 (t.2.1:Int),.bool t.2.2],.string u]) (res_ttct (fn:=Tryz.f26) (p:=2) (q:=3) (r:=4) (u:=5) results26 _ rfl q4 rfl) rfl ⟨⟨_,_,t,_,hS1,hU1,rfl⟩,hB3⟩
    have j0: ¬ (ho:Int)=0:=by omega
    have j1: ¬ (ho:Int)=1:=by omega
    have j2: ¬ (ho:Int)=2:=by omega
    have j3: ¬ (ho:Int)=3:=by omega
    have j4: ¬ (ho:Int)=4:=by omega
    go_wp2;clear eW9
    refine G.pool_list (W:=W9) [b4] [.val (.string s),
        .val (.string bx),
        .val (.agg #[int u64 (t.1:Int),int u64 (t.2.1:Int),.bool t.2.2]),
        .val (.string u),
        .val (.string s),
        .val (.string bx),
        .set (b4) (.cells #[int u64 0,int u64 0,.bool false] 27) (.cells #[int u64 (t.1:Int),int u64 (t.2.1:Int),.bool t.2.2] 27),
        .val (.string u)] [[8],[17],[10],[11],[91],[92],[4,93],[94]] (fun f=> [(some 91,.string s),(some 92,.string bx),(some 93,.agg #[int u64 (t.1:Int),int u64 (t.2.1:Int),.bool t.2.2]),(some 94,.string u),(some 2,.string s),(some 3,.string bx),(none,undef),(some 5,.string u)]) (by kernel_rfl) (by kernel_rfl) (by kernel_rfl) (by kernel_rfl) (fun _=>by kernel_rfl) (G.last_of [.cells #[int u64 0,int u64 0,.bool false] 27] (fun F R hm=>by simp at hm) (fun ob ob' k hm=>by simp at hm) (fun b ob ob' hm=>by simp at hm;simp [hm])) (fun b ob ob' hm=>by simp at hm;obtain⟨rfl,rfl,-⟩:=hm;exact h4) ?_ ?_
    · intro ix hix
      match ix,hix with
      |0,_=>exact G.obv [(8,.string s)] rfl rfl (fun A w ⟨e0,_⟩ hB=>Y.move e0)
      |1,_=>exact G.obv [(17,.string bx)] rfl rfl (fun A w ⟨e0,_⟩ hB=>Y.move e0)
      |2,_=>exact G.obv [(10,.pointer (some ⟨b10,0,none⟩))] rfl rfl (fun A w ⟨e0,_⟩ hB=>Y.ldT underlying27 rfl (by kernel_rfl) e0 (Y.sideS hB h10 n10))
      |3,_=>exact G.obv [(11,.string u)] rfl rfl (fun A w ⟨e0,_⟩ hB=>Y.move e0)
      |4,_=>exact G.obv [(91,.string s)] rfl rfl (fun A w ⟨e0,_⟩ hB=>Y.assign e0)
      |5,_=>exact G.obv [(92,.string bx)] rfl rfl (fun A w ⟨e0,_⟩ hB=>Y.assign e0)
      |6,_=>exact G.ob_set (fun f=> [(4,.pointer (some ⟨b4,0,none⟩)),(93,.agg #[int u64 (t.1:Int),int u64 (t.2.1:Int),.bool t.2.2])]) rfl rfl rfl (by simp) h4.lt (fun j ob1 ob2 h=>by (rcases j with _|_|_|_|_|_|_|_|j)<;>simp [G.kindOf] at h⊢ <;>omega) (fun _=>by kernel_rfl) (fun f A w ⟨e0,e1,_⟩ hh hr=>Y.puA e0 e1 hr rfl (by kernel_rfl) (by simp [Value.oneCell']))
      |7,_=>exact G.obv [(94,.string u)] rfl rfl (fun A w ⟨e0,_⟩ hB=>Y.assign e0)
      |ix+8,h=>exact absurd h (by simp)
    intro f W10 hS _ _ _ hset;have q4:Bk W10 27 b4 #[int u64 (t.1:Int),int u64 (t.2.1:Int),.bool t.2.2]:=hset 6 _ _ _ rfl (by decide);have hB3:Bl w W10:=hS.under hB.drew (by intro b h;rw [List.mem_singleton.1 h];exact hl4) hB.size;clear hset hS;simp only [puts,List.foldl,Act.put,List.setIfInBounds_toArray,List.set_cons_zero,List.set_cons_succ];go_wp2;exact bodyPost_ret (v:= .tuple #[.string s,.string bx,.agg #[int u64 (t.1:Int),int u64 (t.2.1:Int),.bool t.2.2],.string u]) (res_ttct (fn:=Tryz.f26) (p:=2) (q:=3) (r:=4) (u:=5) results26 _ rfl q4 rfl) rfl ⟨⟨_,_,t,_,hS1,hU1,rfl⟩,hB3⟩
end
end Go.Proofs.YtjhbckngdclleaaGreatDoor
