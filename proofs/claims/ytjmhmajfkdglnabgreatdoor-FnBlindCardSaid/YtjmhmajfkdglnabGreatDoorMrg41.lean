import Derived.Test.YtjmhmajfkdglnabGreatDoorMrg40
set_option linter.unusedVariables false
set_option maxRecDepth 100000
set_option maxHeartbeats 16000000
namespace Go.Proofs.YtjmhmajfkdglnabGreatDoor
open Go.Proofs.Tryz Go.RowKit
open Go.Value (int)
open Go.IntKind (u64)
section
open M
theorem sizePro:(prog.info? 125).map (·.size)=some 9:=by kernel_rfl
theorem bldPro (c s:ByteArray)(f0 f1 f2 f3 f4 f5 f6:FuncId)(w:World):(Instr.build 125 #[(0,.agg #[.string c,.string s]),(1,.agg #[.func (.func f0) #[] #[],.func (.func f1) #[] #[],.func (.func f2) #[] #[],.func (.func f3) #[] #[],.func (.func f4) #[] #[],.func (.func f5) #[] #[],.func (.func f6) #[] #[]])]).run prog w= .ok (.agg #[.string c,.string s,.func (.func f0) #[] #[],.func (.func f1) #[] #[],.func (.func f2) #[] #[],.func (.func f3) #[] #[],.func (.func f4) #[] #[],.func (.func f5) #[] #[],.func (.func f6) #[] #[]]) w:=run_build w _ _ _ (by kernel_rfl)
theorem pro_res {W:World}{b:Nat}{cs:Array Value}{fn:Func}{p u:Tmp}(h:fn.results=#[.cell p 125,.tmp u])(tmps:Array Value)(hp:tmps.getD p undef= .pointer (some ⟨b,0,none⟩))(hc:W.rangeAt b 0 cs.toList)(hz:cs.size=9:=by rfl):
    (results fn tmps).run prog W= .ok (.tuple #[.agg cs,tmps.getD u undef]) W:=by
  have hp':tmps[p]?.getD undef= .pointer (some ⟨b,0,none⟩):=by simpa using hp
  have hl:=run_loadVar_mid (P:=prog) W b 0 125 cs.toList _ hc underlying125 rfl (by rw [sizePro,Array.length_toList,hz]);simp [results,h,hp',asAddr,hl]
def zPro:Array Value:=#[.string ⟨#[]⟩,.string ⟨#[]⟩,.nilFunc,.nilFunc,.nilFunc,.nilFunc,.nilFunc,.nilFunc,.nilFunc]
theorem proI_no (k:Int)(c info:ByteArray)(a0 a1 a2 a3:Addr)(w:World)(hs:Sn w a0 a1 a2 a3)
    (C:∀w,Calls prog 84 #[.int .i64 k] w fun e w'=>e= .returned (.tuple #[.string c,.bool false])∧w=w'):
    Cr 67 #[.int .i64 k,.string info] w (.tuple #[.agg zPro,flt ⟨#[109,111,100,101]⟩ (sen a0)]):=by
  have hg0:0<w.heap.size:=World.block_lt_of_cell? w _ hs.c0;obtain⟨W2,hW2⟩:∃W2,W2=w.alloc (Obj.cells #[.string ⟨#[]⟩,.string ⟨#[]⟩,.nilFunc,.nilFunc,.nilFunc,.nilFunc,.nilFunc,.nilFunc,.nilFunc] 125):=⟨_,rfl⟩;have hr:Bk W2 125 w.heap.size #[.string ⟨#[]⟩,.string ⟨#[]⟩,.nilFunc,.nilFunc,.nilFunc,.nilFunc,.nilFunc,.nilFunc,.nilFunc]:=by rw [hW2];exact Bk.new _ _ _
  have hb:Bl w W2:=by rw [hW2];exact(Below.refl _ w).alloc (Nat.le_refl _) _
  go_enter func67,ntmps67;go_wp2_with fail;refine(C _).mono ?_;rintro e w1 ⟨rfl,rfl⟩;go_wp2;rw [←hW2];clear hW2 C;replace hs:=hs.keep hb;have g0:W2.drew.cell? ⟨0,0,none⟩=_:=hs.c0;have n0:0∉ [w.heap.size]:=fun h=>absurd (List.mem_singleton.1 h) (by omega)
  have l1:w.heap.size<W2.drew.heap.size:=hr.lt
  refine G.pool_list (W:=W2) [w.heap.size] [.val (.agg #[.string ⟨#[]⟩,.string ⟨#[]⟩,.nilFunc,.nilFunc,.nilFunc,.nilFunc,.nilFunc,.nilFunc,.nilFunc]),
      .val (sen a0),
      .val (.agg #[.string ⟨#[109,111,100,101]⟩,sen a0]),
      .val (.iface 131 (.agg #[.string ⟨#[109,111,100,101]⟩,sen a0])),
      .set (w.heap.size) (.cells #[.string ⟨#[]⟩,.string ⟨#[]⟩,.nilFunc,.nilFunc,.nilFunc,.nilFunc,.nilFunc,.nilFunc,.nilFunc] 125) (.cells #[.string ⟨#[]⟩,.string ⟨#[]⟩,.nilFunc,.nilFunc,.nilFunc,.nilFunc,.nilFunc,.nilFunc,.nilFunc] 125),
      .val (.iface 131 (.agg #[.string ⟨#[109,111,100,101]⟩,sen a0]))] [[],[],[17],[18],[4,16],[19]] (fun f=> [(some 16,.agg #[.string ⟨#[]⟩,.string ⟨#[]⟩,.nilFunc,.nilFunc,.nilFunc,.nilFunc,.nilFunc,.nilFunc,.nilFunc]),(some 17,sen a0),(some 18,.agg #[.string ⟨#[109,111,100,101]⟩,sen a0]),(some 19,.iface 131 (.agg #[.string ⟨#[109,111,100,101]⟩,sen a0])),(none,undef),(some 5,.iface 131 (.agg #[.string ⟨#[109,111,100,101]⟩,sen a0]))]) (by kernel_rfl) (by kernel_rfl) (by kernel_rfl) (by kernel_rfl) (fun _=>by kernel_rfl) (G.last_of [.cells #[.string ⟨#[]⟩,.string ⟨#[]⟩,.nilFunc,.nilFunc,.nilFunc,.nilFunc,.nilFunc,.nilFunc,.nilFunc] 125] (fun F R hm=>by simp at hm) (fun ob ob' k hm=>by simp at hm) (fun b ob ob' hm=>by simp at hm;simp [hm])) (fun b ob ob' hm=>by simp at hm;obtain⟨rfl,rfl,-⟩:=hm;exact hr) ?_ ?_
  · intro ix hix
    match ix,hix with
    |0,_=>exact G.obv [] rfl rfl (fun A w _ hB=>bu0_pro)
    |1,_=>exact G.obv [] rfl rfl (fun A w _ hB=>ld_err rfl (hB.cell g0 n0))
    |2,_=>exact G.obv [(17,sen a0)] rfl rfl (fun A w ⟨e0,_⟩ hB=>bu_flt rfl e0)
    |3,_=>exact G.obv [(18,.agg #[.string ⟨#[109,111,100,101]⟩,sen a0])] rfl rfl (fun A w ⟨e0,_⟩ hB=>mi_flt e0)
    |4,_=>exact G.ob_set (fun f=> [(4,.pointer (some ⟨w.heap.size,0,none⟩)),(16,.agg #[.string ⟨#[]⟩,.string ⟨#[]⟩,.nilFunc,.nilFunc,.nilFunc,.nilFunc,.nilFunc,.nilFunc,.nilFunc])]) rfl rfl rfl (by simp) l1 (fun j ob1 ob2 h=>by (rcases j with _|_|_|_|_|_|j)<;>simp [G.kindOf] at h⊢ <;>omega) (fun _=>by kernel_rfl) (fun f A w ⟨e0,e1,_⟩ hh hr=>pu_any e0 e1 hr rfl size_pro (by kernel_rfl))
    |5,_=>exact G.obv [(19,.iface 131 (.agg #[.string ⟨#[109,111,100,101]⟩,sen a0]))] rfl rfl (fun A w ⟨e0,_⟩ hB=>doV_assign e0)
    |ix+6,h=>exact absurd h (by simp)
  intro f W3 hS _ _ _ hset;have q1:Bk W3 125 w.heap.size zPro:=hset 4 _ _ _ rfl (by decide);have hb3:Bl w W3:=hS.under hb.drew (by simp<;>omega) hb.size;clear hset hS g0;simp only [puts,List.foldl,Act.put,List.setIfInBounds_toArray,List.set_cons_zero,List.set_cons_succ];go_wp2;exact bodyPost_ret (v:= .tuple #[.agg zPro,flt ⟨#[109,111,100,101]⟩ (sen a0)]) (bk_res2 (fn:=Tryz.f67) (p:=4) (u:=5) results67 _ rfl q1 underlying125 rfl sizePro) rfl ⟨rfl,hb3⟩
section
variable (k:Int)(c info:ByteArray)(RL:Array Value)(F0 F1 F2 F3 F4 F5 F6:FuncId)(a0 a1 a2 a3:Addr)(w:World)(hs:Sn w a0 a1 a2 a3)
    (C:∀w,Calls prog 84 #[.int .i64 k] w fun e w'=>e= .returned (.tuple #[.string c,.bool true])∧w=w')
    (R:Cc 103 #[] (.agg RL))
    (IX:∀w,(Instr.index 182 (.agg RL) (.int .i64 k)).run prog w= .ok (.agg #[.func (.func F0) #[] #[],.func (.func F1) #[] #[],.func (.func F2) #[] #[],.func (.func F3) #[] #[],.func (.func F4) #[] #[],.func (.func F5) #[] #[],.func (.func F6) #[] #[]]) w)
    (E0:∀(args:Array Value) (w:World),(callFunc F0 args).run prog w= .ok (.enter F0 args) w)
include hs C R IX E0
theorem proI_ok (AL:∀w,Calls prog F0 #[.string info] w fun e w'=>e= .returned (.bool true)∧w=w'):
    Cr 67 #[.int .i64 k,.string info] w (.tuple #[.agg #[.string c,.string info,.func (.func F0) #[] #[],.func (.func F1) #[] #[],.func (.func F2) #[] #[],.func (.func F3) #[] #[],.func (.func F4) #[] #[],.func (.func F5) #[] #[],.func (.func F6) #[] #[]],.nilIface]):=by
  have hg0:0<w.heap.size:=World.block_lt_of_cell? w _ hs.c0;clear hs hg0;have hB:=bldPro c info F0 F1 F2 F3 F4 F5 F6;have hr:=Bk.new w 125 #[.string ⟨#[]⟩,.string ⟨#[]⟩,.nilFunc,.nilFunc,.nilFunc,.nilFunc,.nilFunc,.nilFunc,.nilFunc];have hb:=balc w (Obj.cells #[.string ⟨#[]⟩,.string ⟨#[]⟩,.nilFunc,.nilFunc,.nilFunc,.nilFunc,.nilFunc,.nilFunc,.nilFunc] 125);go_enter func67,ntmps67;go_wp2_with fail;refine(C _).mono ?_;rintro e w1 ⟨rfl,rfl⟩;go_wp2_with fail;refine(R _).mono ?_;rintro e w1 ⟨rfl,b1⟩;have hal:=balc w1 (Obj.cells #[.string c,.string info,.func (.func F0) #[] #[],.func (.func F1) #[] #[],.func (.func F2) #[] #[],.func (.func F3) #[] #[],.func (.func F4) #[] #[],.func (.func F5) #[] #[],.func (.func F6) #[] #[]] 125);have hr2:=Bk.new w1 125 #[.string c,.string info,.func (.func F0) #[] #[],.func (.func F1) #[] #[],.func (.func F2) #[] #[],.func (.func F3) #[] #[],.func (.func F4) #[] #[],.func (.func F5) #[] #[],.func (.func F6) #[] #[]];replace hr:=(hr.keep b1).keep hal;replace hb:=hb.tr b1;replace hb:=hb.tr hal;clear C R b1 hal;have d2:=hr2.cell (k:=2) rfl;go_wp2_with fail;refine(AL _).mono ?_;rintro e w2 ⟨rfl,rfl⟩;clear AL d2;have d0:=hr2.cell (k:=0) rfl;have d1:=hr2.cell (k:=1) rfl;have d2:=hr2.cell (k:=2) rfl;have d3:=hr2.cell (k:=3) rfl;have d4:=hr2.cell (k:=4) rfl;have d5:=hr2.cell (k:=5) rfl;have d6:=hr2.cell (k:=6) rfl;have d7:=hr2.cell (k:=7) rfl;have d8:=hr2.cell (k:=8) rfl;have hth:=hr.there 9 (by decide);go_wp2_with (refine wpList_store_mid rfl 125 _ _ rfl w.heap.size 0 #[.string c,.string info,.func (.func F0) #[] #[],.func (.func F1) #[] #[],.func (.func F2) #[] #[],.func (.func F3) #[] #[],.func (.func F4) #[] #[],.func (.func F5) #[] #[],.func (.func F6) #[] #[]] rfl rfl hth sizePro (by kernel_rfl) ?_);refine bodyPost_ret (v:= .tuple #[.agg #[.string c,.string info,.func (.func F0) #[] #[],.func (.func F1) #[] #[],.func (.func F2) #[] #[],.func (.func F3) #[] #[],.func (.func F4) #[] #[],.func (.func F5) #[] #[],.func (.func F6) #[] #[]],.nilIface]) ?_ rfl ⟨rfl,below_setCells hb (Nat.le_refl _) _ _⟩;exact pro_res (fn:=Tryz.f67) (p:=4) (u:=5) results67 _ rfl (World.rangeAt_setCells_same _ _ _ _ hth)
theorem proI_bad (AL:∀w,Calls prog F0 #[.string info] w fun e w'=>e= .returned (.bool false)∧w=w'):
    Cr 67 #[.int .i64 k,.string info] w (.tuple #[.agg zPro,flt ⟨#[105,110,102,111]⟩ (sen a0)]):=by
  have hg0:0<w.heap.size:=World.block_lt_of_cell? w _ hs.c0;have hB:=bldPro c info F0 F1 F2 F3 F4 F5 F6;have hr:=Bk.new w 125 #[.string ⟨#[]⟩,.string ⟨#[]⟩,.nilFunc,.nilFunc,.nilFunc,.nilFunc,.nilFunc,.nilFunc,.nilFunc];have hb:=balc w (Obj.cells #[.string ⟨#[]⟩,.string ⟨#[]⟩,.nilFunc,.nilFunc,.nilFunc,.nilFunc,.nilFunc,.nilFunc,.nilFunc] 125);go_enter func67,ntmps67;go_wp2_with fail;refine(C _).mono ?_;rintro e w1 ⟨rfl,rfl⟩;go_wp2_with fail;refine(R _).mono ?_;rintro e w1 ⟨rfl,b1⟩;have hal:=balc w1 (Obj.cells #[.string c,.string info,.func (.func F0) #[] #[],.func (.func F1) #[] #[],.func (.func F2) #[] #[],.func (.func F3) #[] #[],.func (.func F4) #[] #[],.func (.func F5) #[] #[],.func (.func F6) #[] #[]] 125);have hr2:=Bk.new w1 125 #[.string c,.string info,.func (.func F0) #[] #[],.func (.func F1) #[] #[],.func (.func F2) #[] #[],.func (.func F3) #[] #[],.func (.func F4) #[] #[],.func (.func F5) #[] #[],.func (.func F6) #[] #[]];replace hr:=(hr.keep b1).keep hal;replace hb:=hb.tr b1;replace hb:=hb.tr hal;clear C R b1 hal;have d2:=hr2.cell (k:=2) rfl;go_wp2_with fail;refine(AL _).mono ?_;rintro e w2 ⟨rfl,rfl⟩;clear AL d2 hr2;go_wp2;generalize w1.alloc _=W2 at*;replace hs:=hs.keep hb;have g0:W2.drew.cell? ⟨0,0,none⟩=_:=hs.c0;have n0:0∉ [w.heap.size]:=fun h=>absurd (List.mem_singleton.1 h) (by omega)
  have l1:w.heap.size<W2.drew.heap.size:=hr.lt
  refine G.pool_list (W:=W2) [w.heap.size] [.val (.agg #[.string ⟨#[]⟩,.string ⟨#[]⟩,.nilFunc,.nilFunc,.nilFunc,.nilFunc,.nilFunc,.nilFunc,.nilFunc]),
      .val (sen a0),
      .val (.agg #[.string ⟨#[105,110,102,111]⟩,sen a0]),
      .val (.iface 131 (.agg #[.string ⟨#[105,110,102,111]⟩,sen a0])),
      .set (w.heap.size) (.cells #[.string ⟨#[]⟩,.string ⟨#[]⟩,.nilFunc,.nilFunc,.nilFunc,.nilFunc,.nilFunc,.nilFunc,.nilFunc] 125) (.cells #[.string ⟨#[]⟩,.string ⟨#[]⟩,.nilFunc,.nilFunc,.nilFunc,.nilFunc,.nilFunc,.nilFunc,.nilFunc] 125),
      .val (.iface 131 (.agg #[.string ⟨#[105,110,102,111]⟩,sen a0]))] [[],[],[34],[35],[4,33],[36]] (fun f=> [(some 33,.agg #[.string ⟨#[]⟩,.string ⟨#[]⟩,.nilFunc,.nilFunc,.nilFunc,.nilFunc,.nilFunc,.nilFunc,.nilFunc]),(some 34,sen a0),(some 35,.agg #[.string ⟨#[105,110,102,111]⟩,sen a0]),(some 36,.iface 131 (.agg #[.string ⟨#[105,110,102,111]⟩,sen a0])),(none,undef),(some 5,.iface 131 (.agg #[.string ⟨#[105,110,102,111]⟩,sen a0]))]) (by kernel_rfl) (by kernel_rfl) (by kernel_rfl) (by kernel_rfl) (fun _=>by kernel_rfl) (G.last_of [.cells #[.string ⟨#[]⟩,.string ⟨#[]⟩,.nilFunc,.nilFunc,.nilFunc,.nilFunc,.nilFunc,.nilFunc,.nilFunc] 125] (fun F R hm=>by simp at hm) (fun ob ob' k hm=>by simp at hm) (fun b ob ob' hm=>by simp at hm;simp [hm])) (fun b ob ob' hm=>by simp at hm;obtain⟨rfl,rfl,-⟩:=hm;exact hr) ?_ ?_
  · intro ix hix
    match ix,hix with
    |0,_=>exact G.obv [] rfl rfl (fun A w _ hB=>bu0_pro)
    |1,_=>exact G.obv [] rfl rfl (fun A w _ hB=>ld_err rfl (hB.cell g0 n0))
    |2,_=>exact G.obv [(34,sen a0)] rfl rfl (fun A w ⟨e0,_⟩ hB=>bu_flt rfl e0)
    |3,_=>exact G.obv [(35,.agg #[.string ⟨#[105,110,102,111]⟩,sen a0])] rfl rfl (fun A w ⟨e0,_⟩ hB=>mi_flt e0)
    |4,_=>exact G.ob_set (fun f=> [(4,.pointer (some ⟨w.heap.size,0,none⟩)),(33,.agg #[.string ⟨#[]⟩,.string ⟨#[]⟩,.nilFunc,.nilFunc,.nilFunc,.nilFunc,.nilFunc,.nilFunc,.nilFunc])]) rfl rfl rfl (by simp) l1 (fun j ob1 ob2 h=>by (rcases j with _|_|_|_|_|_|j)<;>simp [G.kindOf] at h⊢ <;>omega) (fun _=>by kernel_rfl) (fun f A w ⟨e0,e1,_⟩ hh hr=>pu_any e0 e1 hr rfl size_pro (by kernel_rfl))
    |5,_=>exact G.obv [(36,.iface 131 (.agg #[.string ⟨#[105,110,102,111]⟩,sen a0]))] rfl rfl (fun A w ⟨e0,_⟩ hB=>doV_assign e0)
    |ix+6,h=>exact absurd h (by simp)
  intro f W3 hS _ _ _ hset;have q1:Bk W3 125 w.heap.size zPro:=hset 4 _ _ _ rfl (by decide);have hb3:Bl w W3:=hS.under hb.drew (by simp<;>omega) hb.size;clear hset hS g0;simp only [puts,List.foldl,Act.put,List.setIfInBounds_toArray,List.set_cons_zero,List.set_cons_succ];go_wp2;exact bodyPost_ret (v:= .tuple #[.agg zPro,flt ⟨#[105,110,102,111]⟩ (sen a0)]) (bk_res2 (fn:=Tryz.f67) (p:=4) (u:=5) results67 _ rfl q1 underlying125 rfl sizePro) rfl ⟨rfl,hb3⟩
end
end
theorem step_append_ownP {P:Program}{w:World}{ops:Array Oper}{o:Oper}{a:Act}{K:Act→World→Prop}{Q:Exit→Act→World→Prop}{E:Prop}(hgd:o.guard=none)(s x:Operand)(t:TypeId)
    (ho:o.op= .call {callee:= .builtin .append,args:=#[s,x],argTypes:=#[t,t]})
    (base:Nat)(e:TypeId)(i:TypeInfo)(z:Value)(size bytes:Nat)(ht:P.underlying t=some (.slice e))(hi:P.info? e=some i)(hz:i.zero=some z)
    (hsize:i.size=size)(hby:i.bytes=bytes)(hzs:z.cells.size=size)(hsz:0<size)
    (v:Value)(n:Nat)(xs:List Value)(hs:a.eval s=v)(hown:w.ownsRow base e size v n xs)
    (ad:Addr)(m c:Nat)(news:List Value)(hx:a.eval x= .slice (some ad) m c)(hl:news.length=m*size)(hnews:∀j u,news[j]? =some u→w.cell? (ad.add j)=some u)(h1:∀u∈news,u.oneCell'=true)
    (h63:n+m≤maxLen)(hbytes:(n+m)*bytes≤140737488355328)(hbase:base≤w.heap.size)
    (h:∀v' w',w'.ownsRow base e size v' (n+m) (xs++news)→w.grownBy w' v.ownBlock→(v'= .slice none 0 0↔v= .slice none 0 0∧m=0)→K (a.put o.dst v') w'):
    if Region.wanted o (yielded ops a.tmps)=true then Oper.wp P o a w K Q else E:=by
  have hw:Region.wanted o (yielded ops a.tmps)=true:=by simp [Region.wanted,hgd]
  rw [if_pos hw];exact wp_append_own w s x t ho base e i z size bytes ht hi hz hsize hby hzs hsz v n xs hs hown ad m c news hx hl hnews h1 h63 hbytes hbase h
theorem infoPr:(prog.info? 158).map (fun i=>(i.zero,i.size,i.bytes))=some (some (.agg #[int u64 0]),1,8):=by kernel_rfl
def cellsPr (H:List Int):List Value:=H.map fun x=>int u64 x
theorem cellsPr_app (l r:List Int):cellsPr (l++r)=cellsPr l++cellsPr r:=by simp [cellsPr]
theorem h2nP_yes (msg tag:ByteArray)(c:Nat)(w:World)(hT:TabK w)(h:okH msg tag 2305843009213693951 c):
    Calls prog 149 #[.string msg,.string tag,.agg #[],.int .i64 c] w fun e w'=>∃v,e= .returned (.tuple #[v,.bool true])∧w'.ownsRow w.heap.size 158 1 v c (cellsPr (h2f (byt msg) (byt tag) 2305843009213693951 c))∧Bl w w':=by
  obtain⟨i0,hi,hz0,hz1,hz2⟩:=info_parts infoPr;obtain⟨h1,h2,h3,h4⟩:=h;obtain⟨N,hN⟩:∃N:Nat,N=24*c:=⟨_,rfl⟩;have hNi:(N:Int)=24*(c:Int):=by omega
  have X:=fun w hT=>exmI_yes msg tag N w hT (by rw [hNi];exact h4)
  rw [hNi] at X;have hlen:=expM_length (byt msg) (byt tag) N;have hby:=expM_lt (byt msg) (byt tag) N;have hll:=h2f_length (byt msg) (byt tag) 2305843009213693951 c;have htk:=h2f_take (byt msg) (byt tag) 2305843009213693951 c;rw [←hN] at htk;generalize expM (byt msg) (byt tag) N=L at*;generalize h2f (byt msg) (byt tag) 2305843009213693951 c=H at*;have hzS:(strOfNums L).size=24*c:=by rw [strOfNums_size];omega
  have g1: ¬ (c:Int)<1:=by omega
  have g2: ¬ (340:Int)<(c:Int):=by omega
  have hme:=methP;have hgw:6<w.heap.size:=World.block_lt_of_cell? w _ (hT 0 (by omega));have hbB:Bl w (w.alloc (.cells #[] 156)):=(Below.refl _ _).alloc (Nat.le_refl _) _;have hTB:TabK (w.alloc (.cells #[] 156)):=fun i hi=>(hbB.cell (p:=⟨6,i,none⟩) hgw).trans (hT i hi)
  have V:∀w:World,Cr 230 #[.agg #[]] w (int u64 2305843009213693951):=fun w=>(valP w).mono fun e w' ⟨h,h'⟩=>⟨h,h'▸(Below.refl _ _).alloc (Nat.le_refl _) _⟩
  go_enter func149,ntmps149;go_wp2_with fail;refine(X _ hTB).mono ?_;rintro e W1 ⟨rfl,hb0⟩;replace hb0:=hbB.tr hb0;clear X hbB hTB;go_wp2
  go_loopw [12,13,14,32] (fun ov _ _ iv wr=>∃k:Nat,k≤c∧iv= .int .i64 (k:Int)∧wr.ownsRow w.heap.size 158 1 ov k (cellsPr (H.take k))∧Bl w wr) (fun _ _ _ i _=>c-(intOf i).toNat)
  case atStart=>exact ⟨0,by omega,rfl,World.ownsRow_nil _ _ _ _,hb0⟩
  case round=>
    clear hb0;obtain⟨k,hk,rfl,hown,hbl⟩:=hrel;have hsz:=hbl.size;by_cases hlt:k<c
    · have hli:(k:Int)<(c:Int):=by omega
      have q1:IntKind.i64.wrap (24*(k:Int))=24*(k:Int):=i64_in _ (by omega) (by omega);have q2:IntKind.i64.wrap ((k:Int)+1)=(k:Int)+1:=i64_in _ (by omega) (by omega);have q5:IntKind.i64.wrap (24*((k:Int)+1))=24*((k:Int)+1):=i64_in _ (by omega) (by omega);have q3:(0:Int)≤24*(k:Int):=by omega
      have q6:24*(k:Int)≤24*((k:Int)+1):=by omega
      have q4:24*((k:Int)+1)≤((strOfNums L).size:Int):=by omega
      have t1:(24*(k:Int)).toNat=24*k:=by omega
      have t2:(24*((k:Int)+1)).toNat=24*k+24:=by omega
      have hp:=piece_length (l:=L) (c:=c) (by omega) k hlt;have R:=fun w=>reduI_any (strOfNums (piece L k)) 2305843009213693951 w (by rw [strOfNums_size];omega) (by decide) h3
      rw [byt_str _ (piece_lt hby k)] at R;have hpe:=str_piece L k;have ht:=htk k hlt;obtain⟨z,hz⟩:∃z:Nat,z=numL (piece L k)%2305843009213693951:=⟨_,rfl⟩;rw [←hz] at R ht;have hzm:z<2305843009213693951:=by rw [hz];exact Nat.mod_lt _ (by omega)
      clear hz;have D:=fun w=>redP_of (z:Int) (z:Int) w (by omega) (Int.tmod_eq_of_lt (by omega) (by omega))
      go_wp2
      go_region_held3 (fun _=>True) (trivial) (first
        |(go_simp;go_at_call 230;refine(V _).mono ?_;rintro e Wv ⟨rfl,bv⟩)
        |(go_at_call 170;refine(R _).mono ?_;rintro e W2 ⟨rfl,hb2⟩)
        |(go_at_call 121;refine(D _).mono ?_;rintro e W3 ⟨rfl,hb3⟩;have hb4:Bl wr W3:=(((Below.refl _ wr).drew).trans bv).trans ((hb2.tr hb3).mono bv.size);have hown4:=own_keep hown hb4;have hbl4:=hbl.trans (hb4.mono hsz);have hsz4:=hbl4.size)
        |(refine step_append_ownP (by rfl) _ _ _ (by rfl) w.heap.size 158 i0 (.agg #[int u64 0]) 1 8 underlying220 hi hz0 hz1 hz2 rfl (by omega) _ k (cellsPr (H.take k)) (by rfl) (hown4.alloc _) ⟨W3.heap.size,0,none⟩ 1 1 [int u64 z] (by rfl) (by rfl) (World.news_of_block (cs:=#[int u64 z]) (heap_alloc_new W3 _)) (by simp [Value.oneCell']) (by unfold maxLen;omega) (by omega) (by simp;omega) ?_;intro v2 w2 hown2 hgr2 _))
      go_wp2;have R1:w2.ownsRow w.heap.size 158 1 v2 (k+1) (cellsPr (H.take (k+1))):=by rw [ht,cellsPr_app];exact hown2
      have R2:Bl w w2:=(hbl4.alloc hsz4 _).grown hgr2 (by simp;omega) (fun r hr=>((hown4.alloc (.cells #[int u64 z] 158)).lt r hr).1);go_roundw
      case rel=>
        first
          |exact ⟨k+1,by omega,by go_num,R1,R2⟩
          |((repeat apply Exists.intro);exact⟨⟨k+1,by omega,by go_num,R1,R2⟩,rfl⟩)
      case measure=>simp [intOf];omega
    · obtain rfl:k=c:=by omega
      rw [List.take_of_length_le (by omega)] at hown;go_wp2;go_ret2;exact⟨_,rfl,hown,hbl⟩
theorem h2nP_no (msg tag:ByteArray)(c:Int)(w:World)(h: ¬ okH msg tag 2305843009213693951 c):
    Cr 149 #[.string msg,.string tag,.agg #[],.int .i64 c] w (.tuple #[.slice none 0 0,.bool false]):=by
  by_cases h1:c<1
  · go_enter func149,ntmps149;go_wp2;go_ret2;exact⟨rfl,(Below.refl _ _).alloc (Nat.le_refl _) _⟩
  · by_cases h2:340<c
    · go_enter func149,ntmps149;go_wp2;go_ret2;exact⟨rfl,(Below.refl _ _).alloc (Nat.le_refl _) _⟩
    · have X:=fun w=>exmI_no msg tag (24*c) w (fun hh=>h ⟨by omega,by omega,by decide,hh⟩)
      have q1:IntKind.i64.wrap (24*c)=24*c:=i64_in _ (by omega) (by omega);go_enter func149,ntmps149;go_wp2_with fail;refine(X _).mono ?_;rintro e W1 ⟨rfl,hb1⟩;have hb2:Bl w W1:=((Below.refl _ _).alloc (Nat.le_refl _) _).trans (hb1.mono (by simp));go_wp2;go_ret2;exact⟨rfl,hb2⟩
section
open M
section
variable {ev:Operand→Value}{w:World}{dst:Option Tmp}{ty:TypeId}{ps:String}{af:Array Edge}{gd:Option (Nat×Bool)}{x y:Operand}{b i:Nat}
theorem execM_idxN {g n cap k:Nat}(hx:ev x= .slice (some ⟨g,0,none⟩) n cap)(hy:ev y= .int .i64 (k:Int))(hk:k<n):
    (execOp ev (Opr dst (.indexAddr 220 x y) ty ps af gd)).run prog w= .ok (.value (.pointer (some ⟨g,k,none⟩))) w:=by
  have h2:(k:Int)<(n:Int):=by omega
  simp [execOp,hx,hy,h2,go_sem]
end
section
variable {A:Act}{w W0:World}{dst:Option Tmp}{ty:TypeId}{ps:String}{af:Array Edge}{gd:Option (Nat×Bool)}{x y:Operand}{b i:Nat}
theorem doM_idx {g n cap k:Nat}(hx:A.eval x= .slice (some ⟨g,0,none⟩) n cap)(hy:A.eval y= .int .i64 (k:Int))(hk:k<n):
    Does prog (Opr dst (.indexAddr 220 x y) ty ps af gd) A w fun v' w'=>v'= .pointer (some ⟨g,k,none⟩)∧Bl w w':=by
  have h:=execM_idxN (ev:=A.eval) (w:=w) (dst:=dst) (ty:=ty) (ps:=ps) (af:=af) (gd:=gd) hx hy hk;exact does_value h ⟨rfl,Below.refl _ _⟩
theorem doM_loadN {z:Int}(hx:A.eval x= .pointer (some ⟨b,i,none⟩))(hc:w.cell? ⟨b,i,none⟩=some (int u64 z)):
    Does prog (Opr dst (.load 158 x) ty ps af gd) A w fun v' w'=>v'= .agg #[int u64 z]∧Bl w w':=by
  have h:=exec_loadN (ev:=A.eval) (w:=w) (dst:=dst) (ty:=ty) (ps:=ps) (af:=af) (gd:=gd) hx hc;exact does_value h ⟨rfl,Below.refl _ _⟩
end
theorem cf_mapI (args:Array Value)(w:World):(callFunc 150 args).run prog w= .ok (.enter 150 args) w:=by kernel_rfl
theorem cf_plusC (args:Array Value)(w:World):(callFunc 91 args).run prog w= .ok (.enter 91 args) w:=by kernel_rfl
theorem cpt_res {W:World}{b:Nat}{x y:Int}{c:Bool}{fn:Func}{p u:Tmp}(h:fn.results=#[.cell p 86,.tmp u])(tmps:Array Value)(hp:tmps.getD p undef= .pointer (some ⟨b,0,none⟩))(hc:K3 W 86 b x y c):
    (results fn tmps).run prog W= .ok (.tuple #[.agg #[int u64 x,int u64 y,.bool c],tmps.getD u undef]) W:=by
  have hp':tmps[p]?.getD undef= .pointer (some ⟨b,0,none⟩):=by simpa using hp
  simp [results,h,hp',asAddr,run_loadVar_mid W b 0 86 [int u64 x,int u64 y,.bool c] _ hc.range underlying86 rfl (by kernel_rfl)]
theorem h2gN_of (msg tag:ByteArray)(H:List Int)(u0 u1 ax ay dx dy sx sy:Int)(ac dc sc:Bool)(w:World)(hT:TabK w)
    (X:∀w,TabK w→Calls prog 149 #[.string msg,.string tag,.agg #[],.int .i64 2] w fun e w'=>∃v,e= .returned (.tuple #[v,.bool true])∧w'.ownsRow w.heap.size 158 1 v 2 (cellsPr H)∧Bl w w')
    (hl:H.length=2)(h0:lk H 0=u0)(h1:lk H 1=u1)
    (M0:Cc 150 #[.agg #[int u64 u0]] (.agg #[int u64 ax,int u64 ay,.bool ac]))
    (M1:Cc 150 #[.agg #[int u64 u1]] (.agg #[int u64 dx,int u64 dy,.bool dc]))
    (SU:Cc 91 #[.agg #[int u64 ax,int u64 ay,.bool ac],.agg #[int u64 dx,int u64 dy,.bool dc]] (.agg #[int u64 sx,int u64 sy,.bool sc])):
    Cr 104 #[.string msg,.string tag] w (.tuple #[.agg #[int u64 sx,int u64 sy,.bool sc],.bool true]):=by
  have hr:=K3.new w 86 0 0 false;have hb:=balc w (Obj.cells #[int u64 0,int u64 0,.bool false] 86);have hgw:6<w.heap.size:=World.block_lt_of_cell? w _ (hT 0 (by omega));have hTB:TabK (w.alloc (Obj.cells #[int u64 0,int u64 0,.bool false] 86)):=fun i hi=>(hb.cell (p:=⟨6,i,none⟩) hgw).trans (hT i hi)
  go_enter func104,ntmps104;go_wp2_with fail;refine(X _ hTB).mono ?_;rintro e W1 ⟨v,rfl,hown,b1⟩
  obtain⟨g,cap,rfl⟩:∃g cap,v= .slice (some ⟨g,0,none⟩) 2 cap:=by
    rcases hown.2 with ⟨_,hc⟩|⟨g,cap,cur,hv,_⟩
    · omega
    · exact⟨g,cap,hv⟩
  have hcc:∀i,i<2→W1.drew.cell? ⟨g,i,none⟩=some (int u64 (lk H i)):=fun i hi=>by
    have:=hown.cells (g:=g) rfl i (int u64 (lk H i)) (by
      rw [cellsPr,List.getElem?_map];unfold lk;rw [List.getD_eq_getElem?_getD,List.getElem?_eq_getElem (by omega)]
      rfl)
    rw [Addr.add_mid,Nat.zero_add] at this;exact this
  have c0:=hcc 0 (by omega);have c1:=hcc 1 (by omega);rw [h0] at c0;rw [h1] at c1;replace hr:=hr.keep b1;replace hb:=hb.tr b1;clear X hown b1 hcc hTB hT;go_wp2
  refine pool_pre 9 [.val (.slice (some ⟨g,0,none⟩) 2 cap),
      .val (.pointer (some ⟨g,0,none⟩)),
      .val (.agg #[int u64 u0]),
      .val (.agg #[int u64 ax,int u64 ay,.bool ac]),
      .val (.slice (some ⟨g,0,none⟩) 2 cap),
      .val (.pointer (some ⟨g,1,none⟩)),
      .val (.agg #[int u64 u1]),
      .val (.agg #[int u64 dx,int u64 dy,.bool dc]),
      .val (.agg #[int u64 sx,int u64 sy,.bool sc])] [[6],[18],[19],[20],[6],[22],[23],[24],[21,25]] (fun f=> [(some 18,.slice (some ⟨g,0,none⟩) 2 cap),(some 19,.pointer (some ⟨g,0,none⟩)),(some 20,.agg #[int u64 u0]),(some 21,.agg #[int u64 ax,int u64 ay,.bool ac]),(some 22,.slice (some ⟨g,0,none⟩) 2 cap),(some 23,.pointer (some ⟨g,1,none⟩)),(some 24,.agg #[int u64 u1]),(some 25,.agg #[int u64 dx,int u64 dy,.bool dc]),(some 26,.agg #[int u64 sx,int u64 sy,.bool sc])]) (by kernel_rfl) (by kernel_rfl) (by kernel_rfl) (by kernel_rfl) (by decide) (by kernel_rfl) (fun _=>by kernel_rfl) ?_ ?_
  · intro ix hix
    match ix,hix with
    |0,_=>exact obv [(6,.slice (some ⟨g,0,none⟩) 2 cap)] rfl rfl (fun A w ⟨e0,_⟩ hB=>doS_move e0)
    |1,_=>exact obv [(18,.slice (some ⟨g,0,none⟩) 2 cap)] rfl rfl (fun A w ⟨e0,_⟩ hB=>doM_idx (k:=0) e0 rfl (by decide))
    |2,_=>exact obv [(19,.pointer (some ⟨g,0,none⟩))] rfl rfl (fun A w ⟨e0,_⟩ hB=>doM_loadN e0 (keepA c0 hB))
    |3,_=>exact obv [(20,.agg #[int u64 u0])] rfl rfl (fun A w ⟨e0,_⟩ hB=>doS_call1 cf_mapI e0 (M0 w))
    |4,_=>exact obv [(6,.slice (some ⟨g,0,none⟩) 2 cap)] rfl rfl (fun A w ⟨e0,_⟩ hB=>doS_move e0)
    |5,_=>exact obv [(22,.slice (some ⟨g,0,none⟩) 2 cap)] rfl rfl (fun A w ⟨e0,_⟩ hB=>doM_idx (k:=1) e0 rfl (by decide))
    |6,_=>exact obv [(23,.pointer (some ⟨g,1,none⟩))] rfl rfl (fun A w ⟨e0,_⟩ hB=>doM_loadN e0 (keepA c1 hB))
    |7,_=>exact obv [(24,.agg #[int u64 u1])] rfl rfl (fun A w ⟨e0,_⟩ hB=>doS_call1 cf_mapI e0 (M1 w))
    |8,_=>exact obv [(21,.agg #[int u64 ax,int u64 ay,.bool ac]),(25,.agg #[int u64 dx,int u64 dy,.bool dc])] rfl rfl (fun A w ⟨e0,e1,_⟩ hB=>doS_call2 cf_plusC e0 e1 (SU w))
    |ix+9,h=>exact absurd h (by simp)
  intro f w4 hB _ fuel hfuel;replace hr:=hr.drew.keep hB;replace hb:=hb.drew.trans (hB.mono hb.size);simp only [puts,List.foldl,Act.put,List.setIfInBounds_toArray,List.set_cons_zero,List.set_cons_succ];refine last_seq (vq:= .bool true) 9 10 hfuel (by kernel_rfl) (by kernel_rfl) (by kernel_rfl) rfl rfl rfl rfl rfl (some 5) rfl (does_skip (exec_storeK rfl rfl hr) rfl) (fun w=>does_value (execS_assign rfl) ⟨rfl,rfl⟩) ?_;simp only [Act.put,List.setIfInBounds_toArray,List.set_cons_zero,List.set_cons_succ];go_wp2;exact bodyPost_ret (v:= .tuple #[.agg #[int u64 sx,int u64 sy,.bool sc],.bool true]) (cpt_res (fn:=Tryz.f104) (p:=4) (u:=5) results104 _ rfl (hr.set sx sy sc)) rfl ⟨rfl,set3_below hb (Nat.le_refl _)⟩
theorem mapI_nat (u:Nat)(hu:u<2305843009213693951)(w:World):
    Cr 150 #[.agg #[int u64 u]] w (.agg #[int u64 (px (mapP u)),int u64 (py (mapP u)),.bool (pb (mapP u))]):=by
  have:=mapI_in (toF u) w
  have e:fv (toF u)=(u:Int):=by
    unfold fv toF;rw [Fin.val_ofNat,Nat.mod_eq_of_lt hu]
  rw [e] at this;exact this
theorem cplX {p q:Pt}(hp:on p)(hq:on q)(w:World):
    Cr 91 #[.agg #[int u64 (px p),int u64 (py p),.bool (pb p)],.agg #[int u64 (px q),int u64 (py q),.bool (pb q)]] w (.agg #[int u64 (px (ad p q)),int u64 (py (ad p q)),.bool (pb (ad p q))]):=by
  have:=cplV hp hq w;rwa [ptW_eq,ptW_eq,ptW_eq] at this
theorem hNum_lt (msg tag:ByteArray)(m c i:Nat)(h:0<m):hNum msg tag m c i<m:=Nat.mod_lt _ h
theorem h2gN_yes (msg tag:ByteArray)(w:World)(hT:TabK w)(h:okT msg tag):
    Cr 104 #[.string msg,.string tag] w (.tuple #[.agg #[int u64 (px (hPt msg tag)),int u64 (py (hPt msg tag)),.bool (pb (hPt msg tag))],.bool true]):=
  h2gN_of msg tag (h2f (byt msg) (byt tag) 2305843009213693951 2) _ _ _ _ _ _ _ _ _ _ _ w hT (fun w hT=>h2nP_yes msg tag 2 w hT ((okT_H (by decide) (by decide) (by decide)).1 h)) (h2f_length _ _ _ _)
    (h2f_at msg tag 2305843009213693951 2 0 (by omega)) (h2f_at msg tag 2305843009213693951 2 1 (by omega)) (fun w=>mapI_nat _ (hNum_lt _ _ _ _ _ (by decide)) w) (fun w=>mapI_nat _ (hNum_lt _ _ _ _ _ (by decide)) w) (fun w=>cplX (mapP_on _) (mapP_on _) w)
theorem h2gN_no (msg tag:ByteArray)(w:World)(h: ¬ okT msg tag):
    Cr 104 #[.string msg,.string tag] w (.tuple #[.agg #[int u64 0,int u64 0,.bool true],.bool false]):=by
  have X:=fun w=>h2nP_no msg tag 2 w (fun hh=>h ((okT_H (by decide) (by decide) (by decide)).2 hh))
  have hr:=K3.new w 86 0 0 false;have hb:=balc w (Obj.cells #[int u64 0,int u64 0,.bool false] 86);go_enter func104,ntmps104;go_wp2_with fail;refine(X _).mono ?_;rintro e W1 ⟨rfl,b1⟩;replace hr:=hr.keep b1;replace hb:=hb.tr b1;clear X b1;go_wp2_with fail;refine(zpP _).mono ?_;rintro e w2 ⟨rfl,b2⟩;replace hr:=hr.keep b2;replace hb:=hb.tr b2;have k0:=hr.c0;have k1:=hr.c1;have k2:=hr.c2;have kf:=hr.frz;go_wp2;exact bodyPost_ret (v:= .tuple #[.agg #[int u64 0,int u64 0,.bool true],.bool false]) (cpt_res (fn:=Tryz.f104) (p:=4) (u:=5) results104 _ rfl (hr.set 0 0 true)) rfl ⟨rfl,set3_below hb (Nat.le_refl _)⟩
section
variable (c info input t:ByteArray)(F0 F1 F2 F3 F4 F5 F6:FuncId)(p:Pt)(a0 a1 a2 a3:Addr)(w:World)(hs:Sn w a0 a1 a2 a3)
    (T:Cc 105 #[.string c,.string grpW] (.string t))
include hs T
theorem grpI_no
    (H:Cb w 104 #[.string input,.string t] (.tuple #[.agg #[int u64 (px p),int u64 (py p),.bool (pb p)],.bool false])):
    Cr 70 #[.agg #[.string c,.string info,.func (.func F0) #[] #[],.func (.func F1) #[] #[],.func (.func F2) #[] #[],.func (.func F3) #[] #[],.func (.func F4) #[] #[],.func (.func F5) #[] #[],.func (.func F6) #[] #[]],.string input] w (.tuple #[.agg #[int u64 0,int u64 0,.bool true],flt ⟨#[105,110,112,117,116]⟩ (sen a0)]):=by
  have hg0:0<w.heap.size:=World.block_lt_of_cell? w _ hs.c0;unfold grpW at T;obtain⟨X,hX⟩:∃X,X=(w.alloc (Obj.cells #[.string c,.string info,.func (.func F0) #[] #[],.func (.func F1) #[] #[],.func (.func F2) #[] #[],.func (.func F3) #[] #[],.func (.func F4) #[] #[],.func (.func F5) #[] #[],.func (.func F6) #[] #[]] 125)).alloc (Obj.cells #[int u64 0,int u64 0,.bool false] 86):=⟨_,rfl⟩;have hr:K3 X 86 (w.heap.size+1) 0 0 false:=by rw [hX];exact(K3.new _ _ _ _ _).at (by simp)
  have hp:Bk X 125 w.heap.size #[.string c,.string info,.func (.func F0) #[] #[],.func (.func F1) #[] #[],.func (.func F2) #[] #[],.func (.func F3) #[] #[],.func (.func F4) #[] #[],.func (.func F5) #[] #[],.func (.func F6) #[] #[]]:=by rw [hX];exact(Bk.new _ _ _).alloc _
  have hb:Bl w X:=by rw [hX];exact((Below.refl _ w).alloc (Nat.le_refl _) _).alloc (by simp) _
  rw [hX] at hr hp hb;clear hX;have d0:=hp.cell (k:=0) rfl;go_enter func70,ntmps70;go_wp2_with fail;refine(T _).mono ?_;rintro e w1 ⟨rfl,b1⟩;replace hr:=hr.keep b1;replace hb:=hb.tr b1;clear T b1 hp d0;go_wp2_with fail;refine(H _ hb).mono ?_;rintro e w2 ⟨rfl,b2⟩;obtain⟨W2,hW2⟩:∃W2,W2=w2.alloc (Obj.cells #[int u64 (px p),int u64 (py p),.bool (pb p)] 86):=⟨_,rfl⟩;have hal:Bl w2 W2:=by rw [hW2];exact(Below.refl _ w2).alloc (Nat.le_refl _) _
  replace hr:=(hr.keep b2).keep hal;replace hb:=hb.tr b2;replace hb:=hb.tr hal;clear H b2 hal;go_wp2;rw [←hW2];clear hW2;replace hs:=hs.keep hb;have g0:W2.drew.cell? ⟨0,0,none⟩=_:=hs.c0;have n0:0∉ [w.heap.size+1]:=fun h=>absurd (List.mem_singleton.1 h) (by omega)
  have l1:w.heap.size+1<W2.drew.heap.size:=hr.lt
  refine G.pool_list (W:=W2) [w.heap.size+1] [.val (.agg #[int u64 0,int u64 0,.bool true]),
      .val (sen a0),
      .val (.agg #[.string ⟨#[105,110,112,117,116]⟩,sen a0]),
      .val (.iface 131 (.agg #[.string ⟨#[105,110,112,117,116]⟩,sen a0])),
      .set (w.heap.size+1) (.cells #[int u64 0,int u64 0,.bool false] 86) (.cells #[int u64 0,int u64 0,.bool true] 86),
      .val (.iface 131 (.agg #[.string ⟨#[105,110,112,117,116]⟩,sen a0]))] [[],[],[20],[21],[4,19],[22]] (fun f=> [(some 19,.agg #[int u64 0,int u64 0,.bool true]),(some 20,sen a0),(some 21,.agg #[.string ⟨#[105,110,112,117,116]⟩,sen a0]),(some 22,.iface 131 (.agg #[.string ⟨#[105,110,112,117,116]⟩,sen a0])),(none,undef),(some 5,.iface 131 (.agg #[.string ⟨#[105,110,112,117,116]⟩,sen a0]))]) (by kernel_rfl) (by kernel_rfl) (by kernel_rfl) (by kernel_rfl) (fun _=>by kernel_rfl) (G.last_of [.cells #[int u64 0,int u64 0,.bool false] 86] (fun F R hm=>by simp at hm) (fun ob ob' k hm=>by simp at hm) (fun b ob ob' hm=>by simp at hm;simp [hm])) (fun b ob ob' hm=>by simp at hm;obtain⟨rfl,rfl,-⟩:=hm;exact hr) ?_ ?_
  · intro ix hix
    match ix,hix with
    |0,_=>exact G.obv [] rfl rfl (fun A w _ hB=>cl0 cf_impl_zeroPoint (zpP w))
    |1,_=>exact G.obv [] rfl rfl (fun A w _ hB=>ld_err rfl (hB.cell g0 n0))
    |2,_=>exact G.obv [(20,sen a0)] rfl rfl (fun A w ⟨e0,_⟩ hB=>bu_flt rfl e0)
    |3,_=>exact G.obv [(21,.agg #[.string ⟨#[105,110,112,117,116]⟩,sen a0])] rfl rfl (fun A w ⟨e0,_⟩ hB=>mi_flt e0)
    |4,_=>exact G.ob_set (fun f=> [(4,.pointer (some ⟨w.heap.size+1,0,none⟩)),(19,.agg #[int u64 0,int u64 0,.bool true])]) rfl rfl rfl (by simp) l1 (fun j ob1 ob2 h=>by (rcases j with _|_|_|_|_|_|j)<;>simp [G.kindOf] at h⊢ <;>omega) (fun _=>by kernel_rfl) (fun f A w ⟨e0,e1,_⟩ hh hr=>pu_cp e0 e1 hr)
    |5,_=>exact G.obv [(22,.iface 131 (.agg #[.string ⟨#[105,110,112,117,116]⟩,sen a0]))] rfl rfl (fun A w ⟨e0,_⟩ hB=>doV_assign e0)
    |ix+6,h=>exact absurd h (by simp)
  intro f W3 hS _ _ _ hset;have q1:K3 W3 86 (w.heap.size+1) 0 0 true:=hset 4 _ _ _ rfl (by decide);have hb3:Bl w W3:=hS.under hb.drew (by simp<;>omega) hb.size;clear hset hS g0;simp only [puts,List.foldl,Act.put,List.setIfInBounds_toArray,List.set_cons_zero,List.set_cons_succ];go_wp2;exact bodyPost_ret (v:= .tuple #[.agg #[int u64 0,int u64 0,.bool true],flt ⟨#[105,110,112,117,116]⟩ (sen a0)]) (cpt_res (fn:=Tryz.f70) (p:=4) (u:=5) results70 _ rfl q1) rfl ⟨rfl,hb3⟩
variable (H:Cb w 104 #[.string input,.string t] (.tuple #[.agg #[int u64 (px p),int u64 (py p),.bool (pb p)],.bool true]))
include H
theorem grpI_yes:
    Cr 70 #[.agg #[.string c,.string info,.func (.func F0) #[] #[],.func (.func F1) #[] #[],.func (.func F2) #[] #[],.func (.func F3) #[] #[],.func (.func F4) #[] #[],.func (.func F5) #[] #[],.func (.func F6) #[] #[]],.string input] w (.tuple #[.agg #[int u64 (px p),int u64 (py p),.bool (pb p)],if pb p=true then flt ⟨#[105,110,112,117,116]⟩ (sen a1) else .nilIface]):=by
  have hg0:1<w.heap.size:=World.block_lt_of_cell? w _ hs.c1;obtain⟨V,hV⟩:∃V,Hid (V=(if pb p=true then flt ⟨#[105,110,112,117,116]⟩ (sen a1) else Value.nilIface)):=⟨_,rfl⟩;rw [←hV.out];unfold grpW at T;obtain⟨X,hX⟩:∃X,X=(w.alloc (Obj.cells #[.string c,.string info,.func (.func F0) #[] #[],.func (.func F1) #[] #[],.func (.func F2) #[] #[],.func (.func F3) #[] #[],.func (.func F4) #[] #[],.func (.func F5) #[] #[],.func (.func F6) #[] #[]] 125)).alloc (Obj.cells #[int u64 0,int u64 0,.bool false] 86):=⟨_,rfl⟩;have hr:K3 X 86 (w.heap.size+1) 0 0 false:=by rw [hX];exact(K3.new _ _ _ _ _).at (by simp)
  have hp:Bk X 125 w.heap.size #[.string c,.string info,.func (.func F0) #[] #[],.func (.func F1) #[] #[],.func (.func F2) #[] #[],.func (.func F3) #[] #[],.func (.func F4) #[] #[],.func (.func F5) #[] #[],.func (.func F6) #[] #[]]:=by rw [hX];exact(Bk.new _ _ _).alloc _
  have hb:Bl w X:=by rw [hX];exact((Below.refl _ w).alloc (Nat.le_refl _) _).alloc (by simp) _
  rw [hX] at hr hp hb;clear hX;have d0:=hp.cell (k:=0) rfl;go_enter func70,ntmps70;go_wp2_with fail;refine(T _).mono ?_;rintro e w1 ⟨rfl,b1⟩;replace hr:=hr.keep b1;replace hb:=hb.tr b1;clear T b1 hp d0;go_wp2_with fail;refine(H _ hb).mono ?_;rintro e w2 ⟨rfl,b2⟩;obtain⟨W2,hW2⟩:∃W2,W2=w2.alloc (Obj.cells #[int u64 (px p),int u64 (py p),.bool (pb p)] 86):=⟨_,rfl⟩;have hal:Bl w2 W2:=by rw [hW2];exact(Below.refl _ w2).alloc (Nat.le_refl _) _
  have hr2:K3 W2 86 w2.heap.size (px p) (py p) (pb p):=by rw [hW2];exact K3.new _ _ _ _ _
  have hlt:w.heap.size+1<w2.heap.size:=(hr.keep b2).lt;replace hr:=(hr.keep b2).keep hal;replace hb:=hb.tr b2;replace hb:=hb.tr hal;clear H b2 hal;go_wp2;rw [←hW2];clear hW2;generalize w2.heap.size=H2 at*;replace hs:=hs.keep hb;have k0:W2.drew.cell? ⟨H2,0,none⟩=_:=hr2.c0;have k1:W2.drew.cell? ⟨H2,1,none⟩=_:=hr2.c1;have k2:W2.drew.cell? ⟨H2,2,none⟩=_:=hr2.c2
  refine G.pool_list (W:=W2) [] [.val (.agg #[int u64 (px p),int u64 (py p),.bool (pb p)]),
      .val (.agg #[int u64 0,int u64 0,.bool true]),
      .val (.bool (pb p))] [[6],[],[23,24]] (fun f=> [(some 23,.agg #[int u64 (px p),int u64 (py p),.bool (pb p)]),(some 24,.agg #[int u64 0,int u64 0,.bool true]),(some 25,.bool (pb p))]) (by kernel_rfl) (by kernel_rfl) (by kernel_rfl) (by kernel_rfl) (fun _=>by kernel_rfl) (G.last_of [] (fun F R hm=>by simp at hm) (fun ob ob' k hm=>by simp at hm) (fun b ob ob' hm=>by simp at hm)) (fun b ob ob' hm=>by simp at hm) ?_ ?_
  · intro ix hix
    match ix,hix with
    |0,_=>exact G.obv [(6,.pointer (some ⟨H2,0,none⟩))] rfl rfl (fun A w ⟨e0,_⟩ hB=>ld_cp e0 (hB.cell k0 (by simp)) (hB.cell k1 (by simp)) (hB.cell k2 (by simp)))
    |1,_=>exact G.obv [] rfl rfl (fun A w _ hB=>cl0 cf_impl_zeroPoint (zpP w))
    |2,_=>exact G.obv [(23,.agg #[int u64 (px p),int u64 (py p),.bool (pb p)]),(24,.agg #[int u64 0,int u64 0,.bool true])] rfl rfl (fun A w ⟨e0,e1,_⟩ hB=>eq_cpz e0 e1)
    |ix+3,h=>exact absurd h (by simp)
  intro f W3 hS _ _ _ _;have b3:Bl W2 W3:=(Below.refl _ W2).drew.trans hS.below;replace hr:=hr.keep b3;replace hr2:=hr2.keep b3;replace hs:=hs.keep b3;replace hb:=hb.tr b3;clear hS b3 k0 k1 k2;simp only [puts,List.foldl,Act.put,List.setIfInBounds_toArray,List.set_cons_zero,List.set_cons_succ]
  cases hz:pb p with
  | true=>
    have hp0:px p=0∧py p=0:=by
      have:=(pb_none p).1 hz;subst this;exact⟨rfl,rfl⟩
    go_wp2;have g1:W3.drew.cell? ⟨1,0,none⟩=_:=hs.c1;have n0:1∉ [w.heap.size+1]:=fun h=>absurd (List.mem_singleton.1 h) (by omega)
    have l1:w.heap.size+1<W3.drew.heap.size:=hr.lt
    refine G.pool_list (W:=W3) [w.heap.size+1] [.val (.agg #[int u64 0,int u64 0,.bool true]),
        .val (sen a1),
        .val (.agg #[.string ⟨#[105,110,112,117,116]⟩,sen a1]),
        .val (.iface 131 (.agg #[.string ⟨#[105,110,112,117,116]⟩,sen a1])),
        .set (w.heap.size+1) (.cells #[int u64 0,int u64 0,.bool false] 86) (.cells #[int u64 0,int u64 0,.bool true] 86),
        .val (.iface 131 (.agg #[.string ⟨#[105,110,112,117,116]⟩,sen a1]))] [[],[],[27],[28],[4,26],[29]] (fun f=> [(some 26,.agg #[int u64 0,int u64 0,.bool true]),(some 27,sen a1),(some 28,.agg #[.string ⟨#[105,110,112,117,116]⟩,sen a1]),(some 29,.iface 131 (.agg #[.string ⟨#[105,110,112,117,116]⟩,sen a1])),(none,undef),(some 5,.iface 131 (.agg #[.string ⟨#[105,110,112,117,116]⟩,sen a1]))]) (by kernel_rfl) (by kernel_rfl) (by kernel_rfl) (by kernel_rfl) (fun _=>by kernel_rfl) (G.last_of [.cells #[int u64 0,int u64 0,.bool false] 86] (fun F R hm=>by simp at hm) (fun ob ob' k hm=>by simp at hm) (fun b ob ob' hm=>by simp at hm;simp [hm])) (fun b ob ob' hm=>by simp at hm;obtain⟨rfl,rfl,-⟩:=hm;exact hr) ?_ ?_
    · intro ix hix
      match ix,hix with
      |0,_=>exact G.obv [] rfl rfl (fun A w _ hB=>cl0 cf_impl_zeroPoint (zpP w))
      |1,_=>exact G.obv [] rfl rfl (fun A w _ hB=>ld_err rfl (hB.cell g1 n0))
      |2,_=>exact G.obv [(27,sen a1)] rfl rfl (fun A w ⟨e0,_⟩ hB=>bu_flt rfl e0)
      |3,_=>exact G.obv [(28,.agg #[.string ⟨#[105,110,112,117,116]⟩,sen a1])] rfl rfl (fun A w ⟨e0,_⟩ hB=>mi_flt e0)
      |4,_=>exact G.ob_set (fun f=> [(4,.pointer (some ⟨w.heap.size+1,0,none⟩)),(26,.agg #[int u64 0,int u64 0,.bool true])]) rfl rfl rfl (by simp) l1 (fun j ob1 ob2 h=>by (rcases j with _|_|_|_|_|_|j)<;>simp [G.kindOf] at h⊢ <;>omega) (fun _=>by kernel_rfl) (fun f A w ⟨e0,e1,_⟩ hh hr=>pu_cp e0 e1 hr)
      |5,_=>exact G.obv [(29,.iface 131 (.agg #[.string ⟨#[105,110,112,117,116]⟩,sen a1]))] rfl rfl (fun A w ⟨e0,_⟩ hB=>doV_assign e0)
      |ix+6,h=>exact absurd h (by simp)
    intro f W4 hS _ _ _ hset;have q1:K3 W4 86 (w.heap.size+1) 0 0 true:=hset 4 _ _ _ rfl (by decide);have hb3:Bl w W4:=hS.under hb.drew (by simp<;>omega) hb.size;clear hset hS g1;simp only [puts,List.foldl,Act.put,List.setIfInBounds_toArray,List.set_cons_zero,List.set_cons_succ];go_wp2;exact bodyPost_ret (v:= .tuple #[.agg #[int u64 0,int u64 0,.bool true],flt ⟨#[105,110,112,117,116]⟩ (sen a1)]) (cpt_res (fn:=Tryz.f70) (p:=4) (u:=5) results70 _ rfl q1) rfl ⟨by rw [hV.out,hz,hp0.1,hp0.2,if_pos rfl],hb3⟩
  | false=>
    rw [hz] at hr2;have c0:=hr.c0;have c1:=hr.c1;have c2:=hr.c2;have cf:=hr.frz;have k0:=hr2.c0;have k1:=hr2.c1;have k2:=hr2.c2;go_wp2;exact bodyPost_ret (v:= .tuple #[.agg #[int u64 (px p),int u64 (py p),.bool false],.nilIface]) (cpt_res (fn:=Tryz.f70) (p:=4) (u:=5) results70 _ rfl (hr.set (px p) (py p) false)) rfl ⟨by rw [hV.out,hz,if_neg (by decide)],set3_below hb (by omega)⟩
end
end
end Go.Proofs.YtjmhmajfkdglnabGreatDoor
