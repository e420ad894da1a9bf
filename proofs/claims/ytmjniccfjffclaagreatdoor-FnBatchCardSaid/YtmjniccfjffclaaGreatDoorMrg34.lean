import Derived.Test.YtmjniccfjffclaaGreatDoorMrg33
import Derived.Test.YtmjniccfjffclaaGreatDoorMrg28
set_option linter.unusedVariables false
set_option maxRecDepth 100000
set_option maxHeartbeats 16000000
namespace Go.Proofs.YtmjniccfjffclaaGreatDoor
open Go.Proofs.Tryz Go.RowKit
open Go.Value (int)
open Go.IntKind (u64)
section
open M
section
variable (c info input t:ByteArray)(F0 F1 F2 F3 F4 F5 F6:FuncId)(p:Pt)(a0 a1 a2 a3:Addr)(w:World)(hs:Sn w a0 a1 a2 a3)
    (T:Cc 123 #[.string c,.string grpW] (.string t))
include hs T
theorem grpI_no
    (H:Cb w 122 #[.string input,.string t] (.tuple #[.agg #[int u64 (px p),int u64 (py p),.bool (pb p)],.bool false])):
    Cr 88 #[.agg #[.string c,.string info,.func (.func F0) #[] #[],.func (.func F1) #[] #[],.func (.func F2) #[] #[],.func (.func F3) #[] #[],.func (.func F4) #[] #[],.func (.func F5) #[] #[],.func (.func F6) #[] #[]],.string input] w (.tuple #[.agg #[int u64 0,int u64 0,.bool true],flt ⟨#[105,110,112,117,116]⟩ (sen a0)]):=by
  have hg0:0<w.heap.size:=World.block_lt_of_cell? w _ hs.c0;unfold grpW at T;obtain⟨X,hX⟩:∃X,X=(w.alloc (Obj.cells #[.string c,.string info,.func (.func F0) #[] #[],.func (.func F1) #[] #[],.func (.func F2) #[] #[],.func (.func F3) #[] #[],.func (.func F4) #[] #[],.func (.func F5) #[] #[],.func (.func F6) #[] #[]] 130)).alloc (Obj.cells #[int u64 0,int u64 0,.bool false] 75):=⟨_,rfl⟩;have hr:K3 X 75 (w.heap.size+1) 0 0 false:=by rw [hX];exact(K3.new _ _ _ _ _).at (by simp)
  have hp:Bk X 130 w.heap.size #[.string c,.string info,.func (.func F0) #[] #[],.func (.func F1) #[] #[],.func (.func F2) #[] #[],.func (.func F3) #[] #[],.func (.func F4) #[] #[],.func (.func F5) #[] #[],.func (.func F6) #[] #[]]:=by rw [hX];exact(Bk.new _ _ _).alloc _
  have hb:Bl w X:=by rw [hX];exact((Below.refl _ w).alloc (Nat.le_refl _) _).alloc (by simp) _
  rw [hX] at hr hp hb;clear hX;have d0:=hp.cell (k:=0) rfl;go_enter func88,ntmps88;go_wp2_with fail;refine(T _).mono ?_;rintro e w1 ⟨rfl,b1⟩;replace hr:=hr.keep b1;replace hb:=hb.tr b1;clear T b1 hp d0;go_wp2_with fail;refine(H _ hb).mono ?_;rintro e w2 ⟨rfl,b2⟩;obtain⟨W2,hW2⟩:∃W2,W2=w2.alloc (Obj.cells #[int u64 (px p),int u64 (py p),.bool (pb p)] 75):=⟨_,rfl⟩;have hal:Bl w2 W2:=by rw [hW2];exact(Below.refl _ w2).alloc (Nat.le_refl _) _
  replace hr:=(hr.keep b2).keep hal;replace hb:=hb.tr b2;replace hb:=hb.tr hal;clear H b2 hal;go_wp2;rw [←hW2];clear hW2;replace hs:=hs.keep hb;have g0:W2.drew.cell? ⟨0,0,none⟩=_:=hs.c0;have n0:0∉ [w.heap.size+1]:=fun h=>absurd (List.mem_singleton.1 h) (by omega)
  have l1:w.heap.size+1<W2.drew.heap.size:=hr.lt
  refine G.pool_list (W:=W2) [w.heap.size+1] [.val (.agg #[int u64 0,int u64 0,.bool true]),
      .val (sen a0),
      .val (.agg #[.string ⟨#[105,110,112,117,116]⟩,sen a0]),
      .val (.iface 136 (.agg #[.string ⟨#[105,110,112,117,116]⟩,sen a0])),
      .set (w.heap.size+1) (.cells #[int u64 0,int u64 0,.bool false] 75) (.cells #[int u64 0,int u64 0,.bool true] 75),
      .val (.iface 136 (.agg #[.string ⟨#[105,110,112,117,116]⟩,sen a0]))] [[],[],[20],[21],[4,19],[22]] (fun f=> [(some 19,.agg #[int u64 0,int u64 0,.bool true]),(some 20,sen a0),(some 21,.agg #[.string ⟨#[105,110,112,117,116]⟩,sen a0]),(some 22,.iface 136 (.agg #[.string ⟨#[105,110,112,117,116]⟩,sen a0])),(none,undef),(some 5,.iface 136 (.agg #[.string ⟨#[105,110,112,117,116]⟩,sen a0]))]) (by kernel_rfl) (by kernel_rfl) (by kernel_rfl) (by kernel_rfl) (fun _=>by kernel_rfl) (G.last_of [.cells #[int u64 0,int u64 0,.bool false] 75] (fun F R hm=>by simp at hm) (fun ob ob' k hm=>by simp at hm) (fun b ob ob' hm=>by simp at hm;simp [hm])) (fun b ob ob' hm=>by simp at hm;obtain⟨rfl,rfl,-⟩:=hm;exact hr) ?_ ?_
  · intro ix hix
    match ix,hix with
    |0,_=>exact G.obv [] rfl rfl (fun A w _ hB=>cl0 cf_impl_zeroPoint (zpP w))
    |1,_=>exact G.obv [] rfl rfl (fun A w _ hB=>ld_err rfl (hB.cell g0 n0))
    |2,_=>exact G.obv [(20,sen a0)] rfl rfl (fun A w ⟨e0,_⟩ hB=>bu_flt rfl e0)
    |3,_=>exact G.obv [(21,.agg #[.string ⟨#[105,110,112,117,116]⟩,sen a0])] rfl rfl (fun A w ⟨e0,_⟩ hB=>mi_flt e0)
    |4,_=>exact G.ob_set (fun f=> [(4,.pointer (some ⟨w.heap.size+1,0,none⟩)),(19,.agg #[int u64 0,int u64 0,.bool true])]) rfl rfl rfl (by simp) l1 (fun j ob1 ob2 h=>by (rcases j with _|_|_|_|_|_|j)<;>simp [G.kindOf] at h⊢ <;>omega) (fun _=>by kernel_rfl) (fun f A w ⟨e0,e1,_⟩ hh hr=>pu_cp e0 e1 hr)
    |5,_=>exact G.obv [(22,.iface 136 (.agg #[.string ⟨#[105,110,112,117,116]⟩,sen a0]))] rfl rfl (fun A w ⟨e0,_⟩ hB=>doV_assign e0)
    |ix+6,h=>exact absurd h (by simp)
  intro f W3 hS _ _ _ hset;have q1:K3 W3 75 (w.heap.size+1) 0 0 true:=hset 4 _ _ _ rfl (by decide);have hb3:Bl w W3:=hS.under hb.drew (by simp<;>omega) hb.size;clear hset hS g0;simp only [puts,List.foldl,Act.put,List.setIfInBounds_toArray,List.set_cons_zero,List.set_cons_succ];go_wp2;exact bodyPost_ret (v:= .tuple #[.agg #[int u64 0,int u64 0,.bool true],flt ⟨#[105,110,112,117,116]⟩ (sen a0)]) (cpt_res (fn:=Tryz.f88) (p:=4) (u:=5) results88 _ rfl q1) rfl ⟨rfl,hb3⟩
variable (H:Cb w 122 #[.string input,.string t] (.tuple #[.agg #[int u64 (px p),int u64 (py p),.bool (pb p)],.bool true]))
include H
theorem grpI_yes:
    Cr 88 #[.agg #[.string c,.string info,.func (.func F0) #[] #[],.func (.func F1) #[] #[],.func (.func F2) #[] #[],.func (.func F3) #[] #[],.func (.func F4) #[] #[],.func (.func F5) #[] #[],.func (.func F6) #[] #[]],.string input] w (.tuple #[.agg #[int u64 (px p),int u64 (py p),.bool (pb p)],if pb p=true then flt ⟨#[105,110,112,117,116]⟩ (sen a1) else .nilIface]):=by
  have hg0:1<w.heap.size:=World.block_lt_of_cell? w _ hs.c1;obtain⟨V,hV⟩:∃V,Hid (V=(if pb p=true then flt ⟨#[105,110,112,117,116]⟩ (sen a1) else Value.nilIface)):=⟨_,rfl⟩;rw [←hV.out];unfold grpW at T;obtain⟨X,hX⟩:∃X,X=(w.alloc (Obj.cells #[.string c,.string info,.func (.func F0) #[] #[],.func (.func F1) #[] #[],.func (.func F2) #[] #[],.func (.func F3) #[] #[],.func (.func F4) #[] #[],.func (.func F5) #[] #[],.func (.func F6) #[] #[]] 130)).alloc (Obj.cells #[int u64 0,int u64 0,.bool false] 75):=⟨_,rfl⟩;have hr:K3 X 75 (w.heap.size+1) 0 0 false:=by rw [hX];exact(K3.new _ _ _ _ _).at (by simp)
  have hp:Bk X 130 w.heap.size #[.string c,.string info,.func (.func F0) #[] #[],.func (.func F1) #[] #[],.func (.func F2) #[] #[],.func (.func F3) #[] #[],.func (.func F4) #[] #[],.func (.func F5) #[] #[],.func (.func F6) #[] #[]]:=by rw [hX];exact(Bk.new _ _ _).alloc _
  have hb:Bl w X:=by rw [hX];exact((Below.refl _ w).alloc (Nat.le_refl _) _).alloc (by simp) _
  rw [hX] at hr hp hb;clear hX;have d0:=hp.cell (k:=0) rfl;go_enter func88,ntmps88;go_wp2_with fail;refine(T _).mono ?_;rintro e w1 ⟨rfl,b1⟩;replace hr:=hr.keep b1;replace hb:=hb.tr b1;clear T b1 hp d0;go_wp2_with fail;refine(H _ hb).mono ?_;rintro e w2 ⟨rfl,b2⟩;obtain⟨W2,hW2⟩:∃W2,W2=w2.alloc (Obj.cells #[int u64 (px p),int u64 (py p),.bool (pb p)] 75):=⟨_,rfl⟩;have hal:Bl w2 W2:=by rw [hW2];exact(Below.refl _ w2).alloc (Nat.le_refl _) _
  have hr2:K3 W2 75 w2.heap.size (px p) (py p) (pb p):=by rw [hW2];exact K3.new _ _ _ _ _
  have hlt:w.heap.size+1<w2.heap.size:=(hr.keep b2).lt;replace hr:=(hr.keep b2).keep hal;replace hb:=hb.tr b2;replace hb:=hb.tr hal;clear H b2 hal;go_wp2;rw [←hW2];clear hW2;generalize w2.heap.size=H2 at*;replace hs:=hs.keep hb;have k0:W2.drew.cell? ⟨H2,0,none⟩=_:=hr2.c0;have k1:W2.drew.cell? ⟨H2,1,none⟩=_:=hr2.c1;have k2:W2.drew.cell? ⟨H2,2,none⟩=_:=hr2.c2
  refine G.pool_list (W:=W2) [] [.val (.agg #[int u64 (px p),int u64 (py p),.bool (pb p)]),
      .val (.agg #[int u64 0,int u64 0,.bool true]),
      .val (.bool (pb p))] [[6],[],[23,24]] (fun f=> [(some 23,.agg #[int u64 (px p),int u64 (py p),.bool (pb p)]),(some 24,.agg #[int u64 0,int u64 0,.bool true]),(some 25,.bool (pb p))]) (by kernel_rfl) (by kernel_rfl) (by kernel_rfl) (by kernel_rfl) (fun _=>by kernel_rfl) (G.last_of [] (fun F R hm=>by simp at hm) (fun ob ob' k hm=>by simp at hm) (fun b ob ob' hm=>by simp at hm)) (fun b ob ob' hm=>by simp at hm) ?_ ?_
  · intro ix hix
    match ix,hix with
    |0,_=>exact G.obv [(6,.pointer (some ⟨H2,0,none⟩))] rfl rfl (fun A w ⟨e0,_⟩ hB=>ld_cp e0 (hB.cell k0 (by simp)) (hB.cell k1 (by simp)) (hB.cell k2 (by simp)))
    |1,_=>exact G.obv [] rfl rfl (fun A w _ hB=>cl0 cf_impl_zeroPoint (zpP w))
    |2,_=>exact G.obv [(23,.agg #[int u64 (px p),int u64 (py p),.bool (pb p)]),(24,.agg #[int u64 0,int u64 0,.bool true])] rfl rfl (fun A w ⟨e0,e1,_⟩ hB=>eq_cpz e0 e1)
    |ix+3,h=>exact absurd h (by simp)
  intro f W3 hS _ _ _ _;have b3:Bl W2 W3:=(Below.refl _ W2).drew.trans hS.below;replace hr:=hr.keep b3;replace hr2:=hr2.keep b3;replace hs:=hs.keep b3;replace hb:=hb.tr b3;clear hS b3 k0 k1 k2;simp only [puts,List.foldl,Act.put,List.setIfInBounds_toArray,List.set_cons_zero,List.set_cons_succ]
  cases hz:pb p with
  | true=>
    have hp0:px p=0∧py p=0:=by
      have:=(pb_none p).1 hz;subst this;exact⟨rfl,rfl⟩
    go_wp2;have g1:W3.drew.cell? ⟨1,0,none⟩=_:=hs.c1;have n0:1∉ [w.heap.size+1]:=fun h=>absurd (List.mem_singleton.1 h) (by omega)
    have l1:w.heap.size+1<W3.drew.heap.size:=hr.lt
    refine G.pool_list (W:=W3) [w.heap.size+1] [.val (.agg #[int u64 0,int u64 0,.bool true]),
        .val (sen a1),
        .val (.agg #[.string ⟨#[105,110,112,117,116]⟩,sen a1]),
        .val (.iface 136 (.agg #[.string ⟨#[105,110,112,117,116]⟩,sen a1])),
        .set (w.heap.size+1) (.cells #[int u64 0,int u64 0,.bool false] 75) (.cells #[int u64 0,int u64 0,.bool true] 75),
        .val (.iface 136 (.agg #[.string ⟨#[105,110,112,117,116]⟩,sen a1]))] [[],[],[27],[28],[4,26],[29]] (fun f=> [(some 26,.agg #[int u64 0,int u64 0,.bool true]),(some 27,sen a1),(some 28,.agg #[.string ⟨#[105,110,112,117,116]⟩,sen a1]),(some 29,.iface 136 (.agg #[.string ⟨#[105,110,112,117,116]⟩,sen a1])),(none,undef),(some 5,.iface 136 (.agg #[.string ⟨#[105,110,112,117,116]⟩,sen a1]))]) (by kernel_rfl) (by kernel_rfl) (by kernel_rfl) (by kernel_rfl) (fun _=>by kernel_rfl) (G.last_of [.cells #[int u64 0,int u64 0,.bool false] 75] (fun F R hm=>by simp at hm) (fun ob ob' k hm=>by simp at hm) (fun b ob ob' hm=>by simp at hm;simp [hm])) (fun b ob ob' hm=>by simp at hm;obtain⟨rfl,rfl,-⟩:=hm;exact hr) ?_ ?_
    · intro ix hix
      match ix,hix with
      |0,_=>exact G.obv [] rfl rfl (fun A w _ hB=>cl0 cf_impl_zeroPoint (zpP w))
      |1,_=>exact G.obv [] rfl rfl (fun A w _ hB=>ld_err rfl (hB.cell g1 n0))
      |2,_=>exact G.obv [(27,sen a1)] rfl rfl (fun A w ⟨e0,_⟩ hB=>bu_flt rfl e0)
      |3,_=>exact G.obv [(28,.agg #[.string ⟨#[105,110,112,117,116]⟩,sen a1])] rfl rfl (fun A w ⟨e0,_⟩ hB=>mi_flt e0)
      |4,_=>exact G.ob_set (fun f=> [(4,.pointer (some ⟨w.heap.size+1,0,none⟩)),(26,.agg #[int u64 0,int u64 0,.bool true])]) rfl rfl rfl (by simp) l1 (fun j ob1 ob2 h=>by (rcases j with _|_|_|_|_|_|j)<;>simp [G.kindOf] at h⊢ <;>omega) (fun _=>by kernel_rfl) (fun f A w ⟨e0,e1,_⟩ hh hr=>pu_cp e0 e1 hr)
      |5,_=>exact G.obv [(29,.iface 136 (.agg #[.string ⟨#[105,110,112,117,116]⟩,sen a1]))] rfl rfl (fun A w ⟨e0,_⟩ hB=>doV_assign e0)
      |ix+6,h=>exact absurd h (by simp)
    intro f W4 hS _ _ _ hset;have q1:K3 W4 75 (w.heap.size+1) 0 0 true:=hset 4 _ _ _ rfl (by decide);have hb3:Bl w W4:=hS.under hb.drew (by simp<;>omega) hb.size;clear hset hS g1;simp only [puts,List.foldl,Act.put,List.setIfInBounds_toArray,List.set_cons_zero,List.set_cons_succ];go_wp2;exact bodyPost_ret (v:= .tuple #[.agg #[int u64 0,int u64 0,.bool true],flt ⟨#[105,110,112,117,116]⟩ (sen a1)]) (cpt_res (fn:=Tryz.f88) (p:=4) (u:=5) results88 _ rfl q1) rfl ⟨by rw [hV.out,hz,hp0.1,hp0.2,if_pos rfl],hb3⟩
  | false=>
    rw [hz] at hr2;have c0:=hr.c0;have c1:=hr.c1;have c2:=hr.c2;have cf:=hr.frz;have k0:=hr2.c0;have k1:=hr2.c1;have k2:=hr2.c2;go_wp2;exact bodyPost_ret (v:= .tuple #[.agg #[int u64 (px p),int u64 (py p),.bool false],.nilIface]) (cpt_res (fn:=Tryz.f88) (p:=4) (u:=5) results88 _ rfl (hr.set (px p) (py p) false)) rfl ⟨by rw [hV.out,hz,if_neg (by decide)],set3_below hb (by omega)⟩
end
theorem wth1 (t s:ByteArray)(i:Nat)(w:World)(h:t.size≤200000)(hs:s.size≤65535)(hr:w.heap[i]? =some (.cells #[.iface 211 (.string s)] 231)):
    Cr 119 #[.string t,.slice (some ⟨i,0,none⟩) 1 1] w (.string (t++sizB s)):=by
  have:=with_blk t [(.iface 211 (.string s),sizB s)] i 1 _ _ w hr rfl rfl (by omega) (by
    intro vs hvs;simp only [List.mem_cons,List.not_mem_nil,or_false] at hvs;subst hvs
    exact writZ s hs) (by
      show(t++sizB s).size≤_
      rw [ByteArray.size_append,sizB_size];omega)
  exact this
theorem twkI_any (info:ByteArray)(w:World)(hT:TabK w)(hi:info.size≤60000):
    Cr 173 #[.agg #[.string (ctxB 2),.string info]] w (.agg #[int u64 (twk info:Nat)]):=by
  have hgw:7<w.heap.size:=World.block_lt_of_cell? w _ (hT 0 (by omega))
  have hWT:∀(i:Nat) (w:World),w.heap[i]? =some (.cells #[.iface 211 (.string info)] 231)→
      Cr 119 #[.string infW,.slice (some ⟨i,0,none⟩) 1 1] w (.string (infW++sizB info)):=fun i w hr=>wth1 infW info i w (by decide) (by omega) hr
  have hz:=infoT_size info;have hSC:∀w:World,TabK w→Cr 118 #[.string (ctxB 2),.string (infW++sizB info)] w (.agg #[int u64 (twk info:Nat)]):=fun w hT=>scaI_any _ 2 w hT (by omega) (by omega)
  generalize ((twk info:Nat):Int)=c at*;generalize infW++sizB info=TXT at*;generalize ctxB 2=cx at*;obtain⟨X,hX⟩:∃X,X=(w.alloc (Obj.cells #[.string cx,.string info] 119)).alloc (Obj.cells #[int u64 0] 86):=⟨_,rfl⟩;have r0:Bk X 119 w.heap.size #[.string cx,.string info]:=by rw [hX];exact(Bk.new _ _ _).alloc _
  have r1:Bk X 86 (w.heap.size+1) #[int u64 0]:=by rw [hX];exact(Bk.new _ _ _).at (by simp)
  have hb:Bl w X:=by rw [hX];exact((Below.refl _ w).alloc (Nat.le_refl _) _).alloc (by simp) _
  go_enter func173,ntmps173;go_wp2;rw [←hX];clear hX;have hT1:TabK X.drew:=fun i hi=>(hb.cell (p:=⟨7,i,none⟩) hgw).trans (hT i hi)
  have s0:X.drew.cell? ⟨w.heap.size,0,none⟩=_:=r0.cell (k:=0) rfl;have s1:X.drew.cell? ⟨w.heap.size,1,none⟩=_:=r0.cell (k:=1) rfl;have nT:7∉ [w.heap.size+1]:=fun h=>absurd (List.mem_singleton.1 h) (by omega)
  have n0:w.heap.size∉ [w.heap.size+1]:=by simp
  have l1:w.heap.size+1<X.drew.heap.size:=r1.lt
  refine G.pool_list (W:=X) [w.heap.size+1] [.val (.pointer (some ⟨w.heap.size,0,none⟩)),
      .val (.string cx),
      .val (.pointer (some ⟨w.heap.size,1,none⟩)),
      .val (.string info),
      .val (.iface 211 (.string info)),
      .new (.cells #[.iface 211 (.string info)] 231) (.cells #[.iface 211 (.string info)] 231) 1001,
      .val (.string TXT),
      .val (.agg #[int u64 c]),
      .set (w.heap.size+1) (.cells #[int u64 0] 86) (.cells #[int u64 c] 86)] [[1],[3],[1],[5],[6],[7],[8],[4,9],[2,10]] (fun f=> [(some 3,.pointer (some ⟨w.heap.size,0,none⟩)),(some 4,.string cx),(some 5,.pointer (some ⟨w.heap.size,1,none⟩)),(some 6,.string info),(some 7,.iface 211 (.string info)),(some 8,.slice (some ⟨f 5,0,none⟩) 1 1),(some 9,.string TXT),(some 10,.agg #[int u64 c]),(none,undef)]) (by kernel_rfl) (by kernel_rfl) (by kernel_rfl) (by kernel_rfl) (fun _=>by kernel_rfl) (G.last_of [.cells #[.iface 211 (.string info)] 231,.cells #[int u64 0] 86] (fun F R hm=>by simp at hm) (fun ob ob' k hm=>by simp at hm;simp [hm]) (fun b ob ob' hm=>by simp at hm;simp [hm])) (fun b ob ob' hm=>by simp at hm;obtain⟨rfl,rfl,-⟩:=hm;exact r1) ?_ ?_
  · intro ix hix
    match ix,hix with
    |0,_=>exact G.obv [(1,.pointer (some ⟨w.heap.size,0,none⟩))] rfl rfl (fun A w ⟨e0,_⟩ hB=>fa_set0 e0)
    |1,_=>exact G.obv [(3,.pointer (some ⟨w.heap.size,0,none⟩))] rfl rfl (fun A w ⟨e0,_⟩ hB=>ld_ctx e0 (hB.cell s0 n0))
    |2,_=>exact G.obv [(1,.pointer (some ⟨w.heap.size,0,none⟩))] rfl rfl (fun A w ⟨e0,_⟩ hB=>fa_set1 e0)
    |3,_=>exact G.obv [(5,.pointer (some ⟨w.heap.size,1,none⟩))] rfl rfl (fun A w ⟨e0,_⟩ hB=>ld_str e0 (hB.cell s1 n0))
    |4,_=>exact G.obv [(6,.string info)] rfl rfl (fun A w ⟨e0,_⟩ hB=>mi_sized e0)
    |5,_=>exact G.ob_slc 1 [(7,.iface 211 (.string info))] rfl rfl (fun _=>by kernel_rfl) (fun A w ⟨e0,_⟩=>sl_parts1 e0)
    |6,_=>exact G.ob_use 8 5 1001 (.cells #[.iface 211 (.string info)] 231) (fun f=> [(8,.slice (some ⟨f 5,0,none⟩) 1 1)]) rfl rfl (by decide) (by kernel_rfl) rfl (fun _=>by kernel_rfl) (fun f A w ⟨e0,_⟩ hB hr=>cl2 cf_impl_transcript_with rfl e0 (hWT _ w hr))
    |7,_=>exact G.obv [(4,.string cx),(9,.string TXT)] rfl rfl (fun A w ⟨e0,e1,_⟩ hB=>cl2 cf_impl_context_scalar e0 e1 (hSC w (fun i hi=>hB.cell (hT1 i hi) nT)))
    |8,_=>exact G.ob_set (fun f=> [(2,.pointer (some ⟨w.heap.size+1,0,none⟩)),(10,.agg #[int u64 c])]) rfl rfl rfl (by simp) l1 (fun j ob1 ob2 h=>by (rcases j with _|_|_|_|_|_|_|_|_|j)<;>simp [G.kindOf] at h⊢ <;>omega) (fun _=>by kernel_rfl) (fun f A w ⟨e0,e1,_⟩ hh hr=>pu_nN e0 e1 hr)
    |ix+9,h=>exact absurd h (by simp)
  intro f W3 hS _ _ _ hset;have q1:Bk W3 86 (w.heap.size+1) #[int u64 c]:=hset 8 _ _ _ rfl (by decide);have hb3:Bl w W3:=hS.under hb.drew (by simp<;>omega) hb.size;clear hset hS s0 s1 hT1 hWT hSC;simp only [puts,List.foldl,Act.put,List.setIfInBounds_toArray,List.set_cons_zero,List.set_cons_succ];go_wp2;exact bodyPost_ret (v:= .agg #[int u64 c]) (rn_res (fn:=Tryz.f173) (p:=2) results173 _ rfl q1) rfl ⟨rfl,hb3⟩
theorem kntI_of (cx info:ByteArray)(k t s:Int)(a0 a1 a2 a3:Addr)(w:World)(hs:Sn w a0 a1 a2 a3)
    (TW:Cb w 173 #[.agg #[.string cx,.string info]] (.agg #[int u64 t]))
    (PL:Cc 172 #[.agg #[int u64 k],.agg #[int u64 t]] (.agg #[int u64 s])):
    Cr 143 #[.agg #[.string cx,.string info],.agg #[int u64 k]] w (.tuple #[.agg #[int u64 s],if s=0 then sen a2 else .nilIface]):=by
  obtain⟨V,hV⟩:∃V,Hid (V=(if s=0 then sen a2 else Value.nilIface)):=⟨_,rfl⟩;rw [←hV.out];have hg0:2<w.heap.size:=World.block_lt_of_cell? w _ hs.c2;obtain⟨X,hX⟩:∃X,X=((w.alloc (Obj.cells #[.string cx,.string info] 119)).alloc (Obj.cells #[int u64 k] 86)).alloc (Obj.cells #[int u64 0] 86):=⟨_,rfl⟩;have r0:Bk X 119 w.heap.size #[.string cx,.string info]:=by rw [hX];exact((Bk.new _ _ _).alloc _).alloc _
  have r1:Bk X 86 (w.heap.size+1) #[int u64 k]:=by rw [hX];exact((Bk.new _ _ _).at (by simp)).alloc _
  have hr:RN X (w.heap.size+1+1) 0:=by rw [hX];unfold RN;have:=heap_alloc_new ((w.alloc (Obj.cells #[.string cx,.string info] 119)).alloc (Obj.cells #[int u64 k] 86)) (Obj.cells #[int u64 0] 86);simpa using this
  have hb:Bl w X:=by rw [hX];exact(((Below.refl _ w).alloc (Nat.le_refl _) _).alloc (by simp) _).alloc (by simp;omega) _
  go_enter func143,ntmps143;go_wp2;rw [←hX];clear hX;have s0:X.drew.cell? ⟨w.heap.size,0,none⟩=_:=r0.cell (k:=0) rfl;have s1:X.drew.cell? ⟨w.heap.size,1,none⟩=_:=r0.cell (k:=1) rfl;have k0:X.drew.cell? ⟨w.heap.size+1,0,none⟩=_:=r1.cell (k:=0) rfl;have TW':∀w',Below X.drew.heap.size X.drew w'→_:=fun w' h=>TW w' (hb.drew.trans (h.mono hb.size))
  refine G.pool_list (W:=X) [] [.val (.agg #[int u64 k]),
      .val (.agg #[.string cx,.string info]),
      .val (.agg #[int u64 t]),
      .val (.agg #[int u64 s]),
      .new (.cells #[int u64 0] 86) (.cells #[int u64 s] 86) 5,
      .put 4] [[3],[2],[8],[7,9],[],[6,10]] (fun f=> [(some 7,.agg #[int u64 k]),(some 8,.agg #[.string cx,.string info]),(some 9,.agg #[int u64 t]),(some 10,.agg #[int u64 s]),(some 6,.pointer (some ⟨f 4,0,none⟩)),(none,undef)]) (by kernel_rfl) (by kernel_rfl) (by kernel_rfl) (by kernel_rfl) (fun _=>by kernel_rfl) (G.last_of [.cells #[int u64 0] 86] (fun F R hm=>by simp at hm) (fun ob ob' k hm=>by simp at hm;simp [hm]) (fun b ob ob' hm=>by simp at hm)) (fun b ob ob' hm=>by simp at hm) ?_ ?_
  · intro ix hix
    match ix,hix with
    |0,_=>exact G.obv [(3,.pointer (some ⟨w.heap.size+1,0,none⟩))] rfl rfl (fun A w ⟨e0,_⟩ hB=>ld_nN e0 (hB.cell k0 (by simp)))
    |1,_=>exact G.obv [(2,.pointer (some ⟨w.heap.size,0,none⟩))] rfl rfl (fun A w ⟨e0,_⟩ hB=>ld_set e0 (hB.cell s0 (by simp)) (hB.cell s1 (by simp)))
    |2,_=>exact G.obv [(8,.agg #[.string cx,.string info])] rfl rfl (fun A w ⟨e0,_⟩ hB=>cl1 cf_impl_setting_tweak e0 (TW' w hB.below))
    |3,_=>exact G.obv [(7,.agg #[int u64 k]),(9,.agg #[int u64 t])] rfl rfl (fun A w ⟨e0,e1,_⟩ hB=>cl2 cf_impl_number_impl_primeN_plus e0 e1 (PL w))
    |4,_=>exact G.ob_new rfl rfl (fun A w=>al_nN)
    |5,_=>exact G.ob_put 6 (fun f=> [(6,.pointer (some ⟨f 4,0,none⟩)),(10,.agg #[int u64 s])]) rfl rfl rfl (by decide) (by kernel_rfl) rfl (fun _=>by kernel_rfl) (fun f A w ⟨e0,e1,_⟩ hr=>pu_nN e0 e1 hr)
    |ix+6,h=>exact absurd h (by simp)
  intro f W3 hS hnew _ _ _;have b3:Bl X W3:=(Below.refl _ X).drew.trans hS.below;have r6:RN W3 (f 4) s:=(hnew 4 _ _ _ rfl (by decide)).2;generalize f 4=B6 at*;replace hr:=hr.keep b3;replace hb:=hb.tr b3;replace hs:=hs.keep hb;clear hS hnew b3 s0 s1 k0 r0 r1 TW TW' PL;have c6:=r6.cell;simp only [puts,List.foldl,Act.put,List.setIfInBounds_toArray,List.set_cons_zero,List.set_cons_succ];by_cases h0:s=0
  · have hV':V=sen a2:=by rw [hV.out,if_pos h0]
    subst h0;go_wp2;have g2:W3.drew.cell? ⟨2,0,none⟩=_:=hs.c2;have n0:2∉ [w.heap.size+1+1]:=fun h=>absurd (List.mem_singleton.1 h) (by omega)
    have l1:w.heap.size+1+1<W3.drew.heap.size:=hr.lt
    refine G.pool_list (W:=W3) [w.heap.size+1+1] [.val (.agg #[int u64 0]),
        .val (sen a2),
        .set (w.heap.size+1+1) (.cells #[int u64 0] 86) (.cells #[int u64 0] 86),
        .val (sen a2)] [[],[],[4,14],[15]] (fun f=> [(some 14,.agg #[int u64 0]),(some 15,sen a2),(none,undef),(some 5,sen a2)]) (by kernel_rfl) (by kernel_rfl) (by kernel_rfl) (by kernel_rfl) (fun _=>by kernel_rfl) (G.last_of [.cells #[int u64 0] 86] (fun F R hm=>by simp at hm) (fun ob ob' k hm=>by simp at hm) (fun b ob ob' hm=>by simp at hm;simp [hm])) (fun b ob ob' hm=>by simp at hm;obtain⟨rfl,rfl,-⟩:=hm;exact hr) ?_ ?_
    · intro ix hix
      match ix,hix with
      |0,_=>exact G.obv [] rfl rfl (fun A w _ hB=>bu0_nN)
      |1,_=>exact G.obv [] rfl rfl (fun A w _ hB=>ld_err rfl (hB.cell g2 n0))
      |2,_=>exact G.ob_set (fun f=> [(4,.pointer (some ⟨w.heap.size+1+1,0,none⟩)),(14,.agg #[int u64 0])]) rfl rfl rfl (by simp) l1 (fun j ob1 ob2 h=>by (rcases j with _|_|_|_|j)<;>simp [G.kindOf] at h⊢ <;>omega) (fun _=>by kernel_rfl) (fun f A w ⟨e0,e1,_⟩ hh hr=>pu_nN e0 e1 hr)
      |3,_=>exact G.obv [(15,sen a2)] rfl rfl (fun A w ⟨e0,_⟩ hB=>doV_assign e0)
      |ix+4,h=>exact absurd h (by simp)
    intro f W4 hS _ _ _ hset;have q1:RN W4 (w.heap.size+1+1) 0:=hset 2 _ _ _ rfl (by decide);have hb3:Bl w W4:=hS.under hb.drew (by simp<;>omega) hb.size;clear hset hS g2;simp only [puts,List.foldl,Act.put,List.setIfInBounds_toArray,List.set_cons_zero,List.set_cons_succ];go_wp2;exact bodyPost_ret (v:= .tuple #[.agg #[int u64 0],sen a2]) (RN_res (fn:=Tryz.f143) (p:=4) (u:=5) results143 _ rfl q1) rfl ⟨by rw [hV'],hb3⟩
  · have hV':V= .nilIface:=by rw [hV.out,if_neg h0]
    have h0':(s==0)=false:=by simpa using h0
    have c0:=hr.cell;have cf:=hr.frz;clear h0;go_wp2;exact bodyPost_ret (v:= .tuple #[.agg #[int u64 s],.nilIface]) (RN_res (fn:=Tryz.f143) (p:=4) (u:=5) results143 _ rfl (hr.set s)) rfl ⟨by rw [hV'],hb.setCell (p:=⟨w.heap.size+1+1,0,none⟩) (show w.heap.size≤w.heap.size+1+1 by omega) _⟩
theorem kalI (cx info:ByteArray)(k:Int)(w:World):
    Cr 135 #[.agg #[.string cx,.string info],.agg #[int u64 k]] w (.tuple #[.agg #[int u64 k],.nilIface]):=by
  obtain⟨X,hX⟩:∃X,X=((w.alloc (Obj.cells #[.string cx,.string info] 119)).alloc (Obj.cells #[int u64 k] 86)).alloc (Obj.cells #[int u64 0] 86):=⟨_,rfl⟩;have hr:RN X (w.heap.size+1+1) 0:=by rw [hX];unfold RN;have:=heap_alloc_new ((w.alloc (Obj.cells #[.string cx,.string info] 119)).alloc (Obj.cells #[int u64 k] 86)) (Obj.cells #[int u64 0] 86);simpa using this
  have r1:Bk X 86 (w.heap.size+1) #[int u64 k]:=by rw [hX];exact((Bk.new _ _ _).at (by simp)).alloc _
  have hb:Bl w X:=by rw [hX];exact(((Below.refl _ w).alloc (Nat.le_refl _) _).alloc (by simp) _).alloc (by simp;omega) _
  rw [hX] at hr hb r1;clear hX;have k0:=r1.cell (k:=0) rfl;clear hr hb;go_enter func135,ntmps135;go_wp2;refine bodyPost_ret (v:= .tuple #[.agg #[int u64 k],.nilIface]) (by simp [results,results135,go_sem]) rfl ⟨rfl,?_⟩;exact(((Below.refl _ w).alloc (Nat.le_refl _) _).alloc (by simp) _).alloc (by simp;omega) _
theorem secI_of (k s:Int)(w:World)(I:Cc 99 #[.agg #[int u64 k]] (.agg #[int u64 s])):
    Cr 144 #[.agg #[int u64 k]] w (.agg #[int u64 s]):=by
  have hr:=Bk.new (w.alloc (Obj.cells #[int u64 k] 86)) 86 #[int u64 0];have hb:=(balc w (Obj.cells #[int u64 k] 86)).alloc (by simp) (Obj.cells #[int u64 0] 86);simp only [World.size_alloc] at hr;go_enter func144,ntmps144;go_wp2_with fail;refine(I _).mono ?_;rintro e w1 ⟨rfl,b1⟩;replace hr:=hr.keep b1;replace hb:=hb.tr b1;have c0:=hr.cell (k:=0) rfl;have cf:=hr.frz;clear I b1;go_wp2;exact bodyPost_ret (v:= .agg #[int u64 s]) (rn_res (fn:=Tryz.f144) (p:=2) results144 _ rfl (show RN _ _ s from hr.set 0 (int u64 s))) rfl ⟨rfl,hb.setCell (p:=⟨w.heap.size+1,0,none⟩) (show w.heap.size≤w.heap.size+1 by omega) _⟩
theorem sitI (k:Int)(w:World):
    Cr 136 #[.agg #[int u64 k]] w (.agg #[int u64 k]):=by
  go_enter func136,ntmps136;go_wp2;refine bodyPost_ret (v:= .agg #[int u64 k]) (by simp [results,results136,go_sem]) rfl ⟨rfl,?_⟩;exact((Below.refl _ w).alloc (Nat.le_refl _) _).alloc (by simp) _
end
theorem exP_less (x:Int)(w:World)(h1:x<2305843009213693951):
    Cr 78 #[int u64 x,.agg #[]] w (.tuple #[.agg #[int u64 x],.bool true]):=by
  have hm:=methP;have hbd:=foldP;go_enter func78,ntmps78;go_wp2_with fail;refine(valP _).mono ?_;rintro e w' ⟨rfl,rfl⟩;go_wp2;refine bodyPost_ret (v:= .tuple #[.agg #[int u64 x],.bool true]) (by simp [results,results78,go_sem]) rfl ⟨rfl,?_⟩;exact(((Below.refl _ w).alloc (Nat.le_refl _) _).alloc (by simp) _).alloc (by simp;omega) _
theorem exP_more (x:Int)(w:World)(h1:2305843009213693951≤x):
    Cr 78 #[int u64 x,.agg #[]] w (.tuple #[.agg #[int u64 0],.bool false]):=by
  have hm:=methP;go_enter func78,ntmps78;go_wp2_with fail;refine(valP _).mono ?_;rintro e w' ⟨rfl,rfl⟩;go_wp2;refine bodyPost_ret (v:= .tuple #[.agg #[int u64 0],.bool false]) (by simp [results,results78,go_sem]) rfl ⟨rfl,?_⟩;exact(((Below.refl _ w).alloc (Nat.le_refl _) _).alloc (by simp) _).alloc (by simp;omega) _
section
open M
theorem cp_ct {W:World}{b:Nat}{x y:Int}{c:Bool}{fn:Func}{p u:Tmp}(h:fn.results=#[.cell p 75,.tmp u])(tmps:Array Value)
    (hp:tmps.getD p undef= .pointer (some ⟨b,0,none⟩))(hc:K3 W 75 b x y c):
    (results fn tmps).run prog W= .ok (.tuple #[.agg #[int u64 x,int u64 y,.bool c],tmps.getD u undef]) W:=by
  have hp':tmps[p]?.getD undef= .pointer (some ⟨b,0,none⟩):=by simpa using hp
  simp [results,h,hp',asAddr,run_loadVar_mid W b 0 75 [int u64 x,int u64 y,.bool c] _ hc.range underlying75 rfl (by kernel_rfl)]
theorem fndP_zero (w:World):
    Cr 38 #[.agg #[int u64 0,int u64 0,.bool true]] w (.tuple #[.agg #[int u64 0,int u64 0,.bool true],.bool true]):=by
  obtain⟨X,hX⟩:∃X,X=((w.alloc (Obj.cells #[int u64 0,int u64 0,.bool true] 34)).alloc (Obj.cells #[int u64 0,int u64 0,.bool false] 75)).alloc (Obj.cells #[int u64 0,int u64 0,.bool true] 75):=⟨_,rfl⟩;have hf:K3 X 75 (w.heap.size+1+1) 0 0 true:=by rw [hX];exact(K3.new _ _ _ _ _).at (by simp)
  have hr:K3 X 75 (w.heap.size+1) 0 0 false:=by rw [hX];exact((K3.new _ _ 0 0 false).at (by simp)).alloc _
  have hb:Bl w X:=by rw [hX];exact(((Below.refl _ w).alloc (Nat.le_refl _) _).alloc (by simp) _).alloc (by simp;omega) _
  rw [hX] at hf hr hb;clear hX;have c0:=hf.drew.c0;have c1:=hf.drew.c1;have c2:=hf.drew.c2;go_enter func38,ntmps38;go_wp2
  go_region_held3 (fun w'=>w'.cell? ⟨w.heap.size+1+1,0,none⟩=some (int u64 0)∧w'.cell? ⟨w.heap.size+1+1,1,none⟩=some (int u64 0)∧w'.cell? ⟨w.heap.size+1+1,2,none⟩=some (.bool true)) (first|exact ⟨c0,c1,c2⟩|exact ⟨keepC c0 b1,keepC c1 b1,keepC c2 b1⟩|go_keep) ((go_at_call 77;refine(zpP _).mono ?_;rintro e w1 ⟨rfl,b1⟩))
  replace hf:=(hf.drew).keep b1;replace hr:=(hr.drew).keep b1;replace hb:=keepB hb.drew hb.size b1;clear b1 c0 c1 c2;have c0:=hf.c0;have c1:=hf.c1;have c2:=hf.c2;have d0:=hr.c0;have d1:=hr.c1;have d2:=hr.c2;have f0:=hr.frz 0;have f1:=hr.frz 1;have f2:=hr.frz 2;go_wp2;exact bodyPost_ret (v:= .tuple #[.agg #[int u64 0,int u64 0,.bool true],.bool true]) (cp_ct (fn:=Tryz.f38) (p:=2) (u:=3) results38 _ rfl (hr.set _ _ _)) rfl ⟨rfl,set3_below hb (by omega)⟩
theorem fndP_inf1 (x y z1 z2:Int)(b1 b2:Bool)(w:World)(hx:(x==0)=false)
    (E1:Cc 78 #[int u64 x,.agg #[]] (.tuple #[.agg #[int u64 z1],.bool b1]))
    (E2:Cc 78 #[int u64 y,.agg #[]] (.tuple #[.agg #[int u64 z2],.bool b2])):
    Cr 38 #[.agg #[int u64 x,int u64 y,.bool true]] w (.tuple #[.agg #[int u64 0,int u64 0,.bool true],.bool false]):=by
  obtain⟨X,hX⟩:∃X,X=((w.alloc (Obj.cells #[int u64 x,int u64 y,.bool true] 34)).alloc (Obj.cells #[int u64 0,int u64 0,.bool false] 75)).alloc (Obj.cells #[int u64 x,int u64 y,.bool true] 75):=⟨_,rfl⟩;have hp:K3 X 34 w.heap.size x y true:=by rw [hX];exact((K3.new w _ _ _ _).alloc _).alloc _
  have hf:K3 X 75 (w.heap.size+1+1) x y true:=by rw [hX];exact(K3.new _ _ _ _ _).at (by simp)
  have hr:K3 X 75 (w.heap.size+1) 0 0 false:=by rw [hX];exact((K3.new _ _ 0 0 false).at (by simp)).alloc _
  have hb:Bl w X:=by rw [hX];exact(((Below.refl _ w).alloc (Nat.le_refl _) _).alloc (by simp) _).alloc (by simp;omega) _
  rw [hX] at hp hf hr hb;clear hX;have c0:=hf.drew.c0;have c1:=hf.drew.c1;have c2:=hf.drew.c2;go_enter func38,ntmps38;go_wp2
  go_region_held3 (fun w'=>w'.cell? ⟨w.heap.size+1+1,0,none⟩=some (int u64 x)∧w'.cell? ⟨w.heap.size+1+1,1,none⟩=some (int u64 y)∧w'.cell? ⟨w.heap.size+1+1,2,none⟩=some (.bool true)) (first|exact ⟨c0,c1,c2⟩|exact ⟨keepC c0 b3,keepC c1 b3,keepC c2 b3⟩|go_keep) ((go_at_call 77;refine(zpP _).mono ?_;rintro e w1 ⟨rfl,b3⟩))
  replace hp:=(hp.drew).keep b3;replace hr:=(hr.drew).keep b3;replace hb:=keepB hb.drew hb.size b3;clear b3 c0 c1 c2 hf;have c0:=hp.c0;go_wp2_with fail;refine(E1 _).mono ?_;rintro e w2 ⟨rfl,b4⟩;replace hp:=(hp.keep b4).alloc (Obj.cells #[int u64 z1] 146);replace hr:=(hr.keep b4).alloc (Obj.cells #[int u64 z1] 146);replace hb:=keepB hb hb.size b4;replace hb:=hb.alloc hb.size (Obj.cells #[int u64 z1] 146);have n1:=R1.new w2 z1;clear b4 c0 E1;have c1:=hp.c1;go_wp2_with fail;refine(E2 _).mono ?_;rintro e w3 ⟨rfl,b5⟩;replace hp:=(hp.keep b5).alloc (Obj.cells #[int u64 z2] 146);replace hr:=(hr.keep b5).alloc (Obj.cells #[int u64 z2] 146);replace n1:=(n1.keep b5).alloc (Obj.cells #[int u64 z2] 146);replace hb:=keepB hb hb.size b5;replace hb:=hb.alloc hb.size (Obj.cells #[int u64 z2] 146);have n2:=R1.new w3 z2;clear b5 c1 E2;have c2:=hp.drew.c2;have m1:=n1.drew.cell;have m2:=n2.drew.cell;go_wp2
  go_region
  clear c2 m1 m2;go_wp2_with fail;refine(zpP _).mono ?_;rintro e w9 ⟨rfl,b9⟩;replace hr:=(hr.drew).keep b9;replace hb:=keepB hb.drew hb.size b9;have d0:=hr.c0;have d1:=hr.c1;have d2:=hr.c2;have f0:=hr.frz 0;have f1:=hr.frz 1;have f2:=hr.frz 2;go_wp2;exact bodyPost_ret (v:= .tuple #[.agg #[int u64 0,int u64 0,.bool true],.bool false]) (cp_ct (fn:=Tryz.f38) (p:=2) (u:=3) results38 _ rfl (hr.set _ _ _)) rfl ⟨rfl,set3_below hb (by omega)⟩
theorem fndP_inf2 (y z1 z2:Int)(b1 b2:Bool)(w:World)(hy:(y==0)=false)
    (E1:Cc 78 #[int u64 0,.agg #[]] (.tuple #[.agg #[int u64 z1],.bool b1]))
    (E2:Cc 78 #[int u64 y,.agg #[]] (.tuple #[.agg #[int u64 z2],.bool b2])):
    Cr 38 #[.agg #[int u64 0,int u64 y,.bool true]] w (.tuple #[.agg #[int u64 0,int u64 0,.bool true],.bool false]):=by
  obtain⟨X,hX⟩:∃X,X=((w.alloc (Obj.cells #[int u64 0,int u64 y,.bool true] 34)).alloc (Obj.cells #[int u64 0,int u64 0,.bool false] 75)).alloc (Obj.cells #[int u64 0,int u64 y,.bool true] 75):=⟨_,rfl⟩;have hp:K3 X 34 w.heap.size 0 y true:=by rw [hX];exact((K3.new w _ _ _ _).alloc _).alloc _
  have hf:K3 X 75 (w.heap.size+1+1) 0 y true:=by rw [hX];exact(K3.new _ _ _ _ _).at (by simp)
  have hr:K3 X 75 (w.heap.size+1) 0 0 false:=by rw [hX];exact((K3.new _ _ 0 0 false).at (by simp)).alloc _
  have hb:Bl w X:=by rw [hX];exact(((Below.refl _ w).alloc (Nat.le_refl _) _).alloc (by simp) _).alloc (by simp;omega) _
  rw [hX] at hp hf hr hb;clear hX;have c0:=hf.drew.c0;have c1:=hf.drew.c1;have c2:=hf.drew.c2;go_enter func38,ntmps38;go_wp2
  go_region_held3 (fun w'=>w'.cell? ⟨w.heap.size+1+1,0,none⟩=some (int u64 0)∧w'.cell? ⟨w.heap.size+1+1,1,none⟩=some (int u64 y)∧w'.cell? ⟨w.heap.size+1+1,2,none⟩=some (.bool true)) (first|exact ⟨c0,c1,c2⟩|exact ⟨keepC c0 b3,keepC c1 b3,keepC c2 b3⟩|go_keep) ((go_at_call 77;refine(zpP _).mono ?_;rintro e w1 ⟨rfl,b3⟩))
  replace hp:=(hp.drew).keep b3;replace hr:=(hr.drew).keep b3;replace hb:=keepB hb.drew hb.size b3;clear b3 c0 c1 c2 hf;have c0:=hp.c0;go_wp2_with fail;refine(E1 _).mono ?_;rintro e w2 ⟨rfl,b4⟩;replace hp:=(hp.keep b4).alloc (Obj.cells #[int u64 z1] 146);replace hr:=(hr.keep b4).alloc (Obj.cells #[int u64 z1] 146);replace hb:=keepB hb hb.size b4;replace hb:=hb.alloc hb.size (Obj.cells #[int u64 z1] 146);have n1:=R1.new w2 z1;clear b4 c0 E1;have c1:=hp.c1;go_wp2_with fail;refine(E2 _).mono ?_;rintro e w3 ⟨rfl,b5⟩;replace hp:=(hp.keep b5).alloc (Obj.cells #[int u64 z2] 146);replace hr:=(hr.keep b5).alloc (Obj.cells #[int u64 z2] 146);replace n1:=(n1.keep b5).alloc (Obj.cells #[int u64 z2] 146);replace hb:=keepB hb hb.size b5;replace hb:=hb.alloc hb.size (Obj.cells #[int u64 z2] 146);have n2:=R1.new w3 z2;clear b5 c1 E2;have c2:=hp.drew.c2;have m1:=n1.drew.cell;have m2:=n2.drew.cell;go_wp2
  go_region
  clear c2 m1 m2;go_wp2_with fail;refine(zpP _).mono ?_;rintro e w9 ⟨rfl,b9⟩;replace hr:=(hr.drew).keep b9;replace hb:=keepB hb.drew hb.size b9;have d0:=hr.c0;have d1:=hr.c1;have d2:=hr.c2;have f0:=hr.frz 0;have f1:=hr.frz 1;have f2:=hr.frz 2;go_wp2;exact bodyPost_ret (v:= .tuple #[.agg #[int u64 0,int u64 0,.bool true],.bool false]) (cp_ct (fn:=Tryz.f38) (p:=2) (u:=3) results38 _ rfl (hr.set _ _ _)) rfl ⟨rfl,set3_below hb (by omega)⟩
theorem fndP_bigx (x y z1 z2:Int)(b2:Bool)(w:World)
    (E1:Cc 78 #[int u64 x,.agg #[]] (.tuple #[.agg #[int u64 z1],.bool false]))
    (E2:Cc 78 #[int u64 y,.agg #[]] (.tuple #[.agg #[int u64 z2],.bool b2])):
    Cr 38 #[.agg #[int u64 x,int u64 y,.bool false]] w (.tuple #[.agg #[int u64 0,int u64 0,.bool true],.bool false]):=by
  obtain⟨X,hX⟩:∃X,X=((w.alloc (Obj.cells #[int u64 x,int u64 y,.bool false] 34)).alloc (Obj.cells #[int u64 0,int u64 0,.bool false] 75)).alloc (Obj.cells #[int u64 x,int u64 y,.bool false] 75):=⟨_,rfl⟩;have hp:K3 X 34 w.heap.size x y false:=by rw [hX];exact((K3.new w _ _ _ _).alloc _).alloc _
  have hf:K3 X 75 (w.heap.size+1+1) x y false:=by rw [hX];exact(K3.new _ _ _ _ _).at (by simp)
  have hr:K3 X 75 (w.heap.size+1) 0 0 false:=by rw [hX];exact((K3.new _ _ 0 0 false).at (by simp)).alloc _
  have hb:Bl w X:=by rw [hX];exact(((Below.refl _ w).alloc (Nat.le_refl _) _).alloc (by simp) _).alloc (by simp;omega) _
  rw [hX] at hp hf hr hb;clear hX;have c0:=hf.drew.c0;have c1:=hf.drew.c1;have c2:=hf.drew.c2;go_enter func38,ntmps38;go_wp2
  go_region_held3 (fun w'=>w'.cell? ⟨w.heap.size+1+1,0,none⟩=some (int u64 x)∧w'.cell? ⟨w.heap.size+1+1,1,none⟩=some (int u64 y)∧w'.cell? ⟨w.heap.size+1+1,2,none⟩=some (.bool false)) (first|exact ⟨c0,c1,c2⟩|exact ⟨keepC c0 b3,keepC c1 b3,keepC c2 b3⟩|go_keep) ((go_at_call 77;refine(zpP _).mono ?_;rintro e w1 ⟨rfl,b3⟩))
  replace hp:=(hp.drew).keep b3;replace hr:=(hr.drew).keep b3;replace hb:=keepB hb.drew hb.size b3;clear b3 c0 c1 c2 hf;have c0:=hp.c0;go_wp2_with fail;refine(E1 _).mono ?_;rintro e w2 ⟨rfl,b4⟩;replace hp:=(hp.keep b4).alloc (Obj.cells #[int u64 z1] 146);replace hr:=(hr.keep b4).alloc (Obj.cells #[int u64 z1] 146);replace hb:=keepB hb hb.size b4;replace hb:=hb.alloc hb.size (Obj.cells #[int u64 z1] 146);have n1:=R1.new w2 z1;clear b4 c0 E1;have c1:=hp.c1;go_wp2_with fail;refine(E2 _).mono ?_;rintro e w3 ⟨rfl,b5⟩;replace hp:=(hp.keep b5).alloc (Obj.cells #[int u64 z2] 146);replace hr:=(hr.keep b5).alloc (Obj.cells #[int u64 z2] 146);replace n1:=(n1.keep b5).alloc (Obj.cells #[int u64 z2] 146);replace hb:=keepB hb hb.size b5;replace hb:=hb.alloc hb.size (Obj.cells #[int u64 z2] 146);have n2:=R1.new w3 z2;clear b5 c1 E2;have c2:=hp.drew.c2;have m1:=n1.drew.cell;have m2:=n2.drew.cell;go_wp2
  go_region
  clear c2 m1 m2;go_wp2_with fail;refine(zpP _).mono ?_;rintro e w9 ⟨rfl,b9⟩;replace hr:=(hr.drew).keep b9;replace hb:=keepB hb.drew hb.size b9;have d0:=hr.c0;have d1:=hr.c1;have d2:=hr.c2;have f0:=hr.frz 0;have f1:=hr.frz 1;have f2:=hr.frz 2;go_wp2;exact bodyPost_ret (v:= .tuple #[.agg #[int u64 0,int u64 0,.bool true],.bool false]) (cp_ct (fn:=Tryz.f38) (p:=2) (u:=3) results38 _ rfl (hr.set _ _ _)) rfl ⟨rfl,set3_below hb (by omega)⟩
theorem fndP_bigy (x y z1 z2:Int)(w:World)
    (E1:Cc 78 #[int u64 x,.agg #[]] (.tuple #[.agg #[int u64 z1],.bool true]))
    (E2:Cc 78 #[int u64 y,.agg #[]] (.tuple #[.agg #[int u64 z2],.bool false])):
    Cr 38 #[.agg #[int u64 x,int u64 y,.bool false]] w (.tuple #[.agg #[int u64 0,int u64 0,.bool true],.bool false]):=by
  obtain⟨X,hX⟩:∃X,X=((w.alloc (Obj.cells #[int u64 x,int u64 y,.bool false] 34)).alloc (Obj.cells #[int u64 0,int u64 0,.bool false] 75)).alloc (Obj.cells #[int u64 x,int u64 y,.bool false] 75):=⟨_,rfl⟩;have hp:K3 X 34 w.heap.size x y false:=by rw [hX];exact((K3.new w _ _ _ _).alloc _).alloc _
  have hf:K3 X 75 (w.heap.size+1+1) x y false:=by rw [hX];exact(K3.new _ _ _ _ _).at (by simp)
  have hr:K3 X 75 (w.heap.size+1) 0 0 false:=by rw [hX];exact((K3.new _ _ 0 0 false).at (by simp)).alloc _
  have hb:Bl w X:=by rw [hX];exact(((Below.refl _ w).alloc (Nat.le_refl _) _).alloc (by simp) _).alloc (by simp;omega) _
  rw [hX] at hp hf hr hb;clear hX;have c0:=hf.drew.c0;have c1:=hf.drew.c1;have c2:=hf.drew.c2;go_enter func38,ntmps38;go_wp2
  go_region_held3 (fun w'=>w'.cell? ⟨w.heap.size+1+1,0,none⟩=some (int u64 x)∧w'.cell? ⟨w.heap.size+1+1,1,none⟩=some (int u64 y)∧w'.cell? ⟨w.heap.size+1+1,2,none⟩=some (.bool false)) (first|exact ⟨c0,c1,c2⟩|exact ⟨keepC c0 b3,keepC c1 b3,keepC c2 b3⟩|go_keep) ((go_at_call 77;refine(zpP _).mono ?_;rintro e w1 ⟨rfl,b3⟩))
  replace hp:=(hp.drew).keep b3;replace hr:=(hr.drew).keep b3;replace hb:=keepB hb.drew hb.size b3;clear b3 c0 c1 c2 hf;have c0:=hp.c0;go_wp2_with fail;refine(E1 _).mono ?_;rintro e w2 ⟨rfl,b4⟩;replace hp:=(hp.keep b4).alloc (Obj.cells #[int u64 z1] 146);replace hr:=(hr.keep b4).alloc (Obj.cells #[int u64 z1] 146);replace hb:=keepB hb hb.size b4;replace hb:=hb.alloc hb.size (Obj.cells #[int u64 z1] 146);have n1:=R1.new w2 z1;clear b4 c0 E1;have c1:=hp.c1;go_wp2_with fail;refine(E2 _).mono ?_;rintro e w3 ⟨rfl,b5⟩;replace hp:=(hp.keep b5).alloc (Obj.cells #[int u64 z2] 146);replace hr:=(hr.keep b5).alloc (Obj.cells #[int u64 z2] 146);replace n1:=(n1.keep b5).alloc (Obj.cells #[int u64 z2] 146);replace hb:=keepB hb hb.size b5;replace hb:=hb.alloc hb.size (Obj.cells #[int u64 z2] 146);have n2:=R1.new w3 z2;clear b5 c1 E2;have c2:=hp.drew.c2;have m1:=n1.drew.cell;have m2:=n2.drew.cell;go_wp2
  go_region
  clear c2 m1 m2;go_wp2_with fail;refine(zpP _).mono ?_;rintro e w9 ⟨rfl,b9⟩;replace hr:=(hr.drew).keep b9;replace hb:=keepB hb.drew hb.size b9;have d0:=hr.c0;have d1:=hr.c1;have d2:=hr.c2;have f0:=hr.frz 0;have f1:=hr.frz 1;have f2:=hr.frz 2;go_wp2;exact bodyPost_ret (v:= .tuple #[.agg #[int u64 0,int u64 0,.bool true],.bool false]) (cp_ct (fn:=Tryz.f38) (p:=2) (u:=3) results38 _ rfl (hr.set _ _ _)) rfl ⟨rfl,set3_below hb (by omega)⟩
theorem fndP_off (x y z1 z2:Int)(w:World)(hz:(z1==z2)=false)
    (T1:Cc 79 #[.agg #[int u64 y],.agg #[int u64 y]] (.agg #[int u64 z1]))
    (T2:Cc 80 #[.agg #[int u64 x]] (.agg #[int u64 z2]))
    (E1:Cc 78 #[int u64 x,.agg #[]] (.tuple #[.agg #[int u64 x],.bool true]))
    (E2:Cc 78 #[int u64 y,.agg #[]] (.tuple #[.agg #[int u64 y],.bool true])):
    Cr 38 #[.agg #[int u64 x,int u64 y,.bool false]] w (.tuple #[.agg #[int u64 0,int u64 0,.bool true],.bool false]):=by
  obtain⟨X,hX⟩:∃X,X=((w.alloc (Obj.cells #[int u64 x,int u64 y,.bool false] 34)).alloc (Obj.cells #[int u64 0,int u64 0,.bool false] 75)).alloc (Obj.cells #[int u64 x,int u64 y,.bool false] 75):=⟨_,rfl⟩;have hp:K3 X 34 w.heap.size x y false:=by rw [hX];exact((K3.new w _ _ _ _).alloc _).alloc _
  have hf:K3 X 75 (w.heap.size+1+1) x y false:=by rw [hX];exact(K3.new _ _ _ _ _).at (by simp)
  have hr:K3 X 75 (w.heap.size+1) 0 0 false:=by rw [hX];exact((K3.new _ _ 0 0 false).at (by simp)).alloc _
  have hb:Bl w X:=by rw [hX];exact(((Below.refl _ w).alloc (Nat.le_refl _) _).alloc (by simp) _).alloc (by simp;omega) _
  rw [hX] at hp hf hr hb;clear hX;have c0:=hf.drew.c0;have c1:=hf.drew.c1;have c2:=hf.drew.c2;go_enter func38,ntmps38;go_wp2
  go_region_held3 (fun w'=>w'.cell? ⟨w.heap.size+1+1,0,none⟩=some (int u64 x)∧w'.cell? ⟨w.heap.size+1+1,1,none⟩=some (int u64 y)∧w'.cell? ⟨w.heap.size+1+1,2,none⟩=some (.bool false)) (first|exact ⟨c0,c1,c2⟩|exact ⟨keepC c0 b3,keepC c1 b3,keepC c2 b3⟩|go_keep) ((go_at_call 77;refine(zpP _).mono ?_;rintro e w1 ⟨rfl,b3⟩))
  replace hp:=(hp.drew).keep b3;replace hr:=(hr.drew).keep b3;replace hb:=keepB hb.drew hb.size b3;clear b3 c0 c1 c2 hf;have c0:=hp.c0;go_wp2_with fail;refine(E1 _).mono ?_;rintro e w2 ⟨rfl,b4⟩;replace hp:=(hp.keep b4).alloc (Obj.cells #[int u64 x] 146);replace hr:=(hr.keep b4).alloc (Obj.cells #[int u64 x] 146);replace hb:=keepB hb hb.size b4;replace hb:=hb.alloc hb.size (Obj.cells #[int u64 x] 146);have n1:=R1.new w2 x;clear b4 c0 E1;have c1:=hp.c1;go_wp2_with fail;refine(E2 _).mono ?_;rintro e w3 ⟨rfl,b5⟩;replace hp:=(hp.keep b5).alloc (Obj.cells #[int u64 y] 146);replace hr:=(hr.keep b5).alloc (Obj.cells #[int u64 y] 146);replace n1:=(n1.keep b5).alloc (Obj.cells #[int u64 y] 146);replace hb:=keepB hb hb.size b5;replace hb:=hb.alloc hb.size (Obj.cells #[int u64 y] 146);have n2:=R1.new w3 y;clear b5 c1 E2;have c2:=hp.drew.c2;have m1:=n1.drew.cell;have m2:=n2.drew.cell;go_wp2
  go_region_held3 (fun w'=>w'.cell? ⟨w.heap.size,2,none⟩=some (.bool false)∧w'.cell? ⟨w2.heap.size,0,none⟩=some (int u64 x)∧w'.cell? ⟨w3.heap.size,0,none⟩=some (int u64 y)) (first|exact ⟨c2,m1,m2⟩|exact ⟨keepC c2 b6,keepC m1 b6,keepC m2 b6⟩|exact ⟨keepC (keepC c2 b6) b7,keepC (keepC m1 b6) b7,keepC (keepC m2 b6) b7⟩|go_keep) (first
    |(go_at_call 79;refine(T1 _).mono ?_;rintro e w6 ⟨rfl,b6⟩)
    |(go_at_call 80;refine(T2 _).mono ?_;rintro e w7 ⟨rfl,b7⟩))
  clear c2 m1 m2;go_wp2_with fail;refine(zpP _).mono ?_;rintro e w9 ⟨rfl,b9⟩;replace hr:=(((hr.drew).keep b6).keep b7).keep b9;replace hb:=keepB (keepB (keepB hb.drew hb.size b6) (Nat.le_trans hb.size b6.size) b7) (Nat.le_trans hb.size (Nat.le_trans b6.size b7.size)) b9;have d0:=hr.c0;have d1:=hr.c1;have d2:=hr.c2;have f0:=hr.frz 0;have f1:=hr.frz 1;have f2:=hr.frz 2;go_wp2;exact bodyPost_ret (v:= .tuple #[.agg #[int u64 0,int u64 0,.bool true],.bool false]) (cp_ct (fn:=Tryz.f38) (p:=2) (u:=3) results38 _ rfl (hr.set _ _ _)) rfl ⟨rfl,set3_below hb (by omega)⟩
theorem fndP_on (x y z1 z2:Int)(w:World)(hz:(z1==z2)=true)
    (T1:Cc 79 #[.agg #[int u64 y],.agg #[int u64 y]] (.agg #[int u64 z1]))
    (T2:Cc 80 #[.agg #[int u64 x]] (.agg #[int u64 z2]))
    (E1:Cc 78 #[int u64 x,.agg #[]] (.tuple #[.agg #[int u64 x],.bool true]))
    (E2:Cc 78 #[int u64 y,.agg #[]] (.tuple #[.agg #[int u64 y],.bool true])):
    Cr 38 #[.agg #[int u64 x,int u64 y,.bool false]] w (.tuple #[.agg #[int u64 x,int u64 y,.bool false],.bool true]):=by
  obtain⟨X,hX⟩:∃X,X=((w.alloc (Obj.cells #[int u64 x,int u64 y,.bool false] 34)).alloc (Obj.cells #[int u64 0,int u64 0,.bool false] 75)).alloc (Obj.cells #[int u64 x,int u64 y,.bool false] 75):=⟨_,rfl⟩;have hp:K3 X 34 w.heap.size x y false:=by rw [hX];exact((K3.new w _ _ _ _).alloc _).alloc _
  have hf:K3 X 75 (w.heap.size+1+1) x y false:=by rw [hX];exact(K3.new _ _ _ _ _).at (by simp)
  have hr:K3 X 75 (w.heap.size+1) 0 0 false:=by rw [hX];exact((K3.new _ _ 0 0 false).at (by simp)).alloc _
  have hb:Bl w X:=by rw [hX];exact(((Below.refl _ w).alloc (Nat.le_refl _) _).alloc (by simp) _).alloc (by simp;omega) _
  rw [hX] at hp hf hr hb;clear hX;have c0:=hf.drew.c0;have c1:=hf.drew.c1;have c2:=hf.drew.c2;go_enter func38,ntmps38;go_wp2
  go_region_held3 (fun w'=>w'.cell? ⟨w.heap.size+1+1,0,none⟩=some (int u64 x)∧w'.cell? ⟨w.heap.size+1+1,1,none⟩=some (int u64 y)∧w'.cell? ⟨w.heap.size+1+1,2,none⟩=some (.bool false)) (first|exact ⟨c0,c1,c2⟩|exact ⟨keepC c0 b3,keepC c1 b3,keepC c2 b3⟩|go_keep) ((go_at_call 77;refine(zpP _).mono ?_;rintro e w1 ⟨rfl,b3⟩))
  replace hp:=(hp.drew).keep b3;replace hr:=(hr.drew).keep b3;replace hb:=keepB hb.drew hb.size b3;clear b3 c0 c1 c2 hf;have c0:=hp.c0;go_wp2_with fail;refine(E1 _).mono ?_;rintro e w2 ⟨rfl,b4⟩;replace hp:=(hp.keep b4).alloc (Obj.cells #[int u64 x] 146);replace hr:=(hr.keep b4).alloc (Obj.cells #[int u64 x] 146);replace hb:=keepB hb hb.size b4;replace hb:=hb.alloc hb.size (Obj.cells #[int u64 x] 146);have n1:=R1.new w2 x;clear b4 c0 E1;have c1:=hp.c1;go_wp2_with fail;refine(E2 _).mono ?_;rintro e w3 ⟨rfl,b5⟩;replace hp:=(hp.keep b5).alloc (Obj.cells #[int u64 y] 146);replace hr:=(hr.keep b5).alloc (Obj.cells #[int u64 y] 146);replace n1:=(n1.keep b5).alloc (Obj.cells #[int u64 y] 146);replace hb:=keepB hb hb.size b5;replace hb:=hb.alloc hb.size (Obj.cells #[int u64 y] 146);have n2:=R1.new w3 y;clear b5 c1 E2;have c2:=hp.drew.c2;have m1:=n1.drew.cell;have m2:=n2.drew.cell;go_wp2
  go_region_held3 (fun w'=>w'.cell? ⟨w.heap.size,2,none⟩=some (.bool false)∧w'.cell? ⟨w2.heap.size,0,none⟩=some (int u64 x)∧w'.cell? ⟨w3.heap.size,0,none⟩=some (int u64 y)) (first|exact ⟨c2,m1,m2⟩|exact ⟨keepC c2 b6,keepC m1 b6,keepC m2 b6⟩|exact ⟨keepC (keepC c2 b6) b7,keepC (keepC m1 b6) b7,keepC (keepC m2 b6) b7⟩|go_keep) (first
    |(go_at_call 79;refine(T1 _).mono ?_;rintro e w6 ⟨rfl,b6⟩)
    |(go_at_call 80;refine(T2 _).mono ?_;rintro e w7 ⟨rfl,b7⟩))
  replace hr:=((hr.drew).keep b6).keep b7;replace hp:=((hp.drew).keep b6).keep b7;replace hb:=keepB (keepB hb.drew hb.size b6) (Nat.le_trans hb.size b6.size) b7;clear c2 m1 m2;have c0:=hp.c0;have c1:=hp.c1;have c2:=hp.c2;have d0:=hr.c0;have d1:=hr.c1;have d2:=hr.c2;have f0:=hr.frz 0;have f1:=hr.frz 1;have f2:=hr.frz 2;go_wp2;exact bodyPost_ret (v:= .tuple #[.agg #[int u64 x,int u64 y,.bool false],.bool true]) (cp_ct (fn:=Tryz.f38) (p:=2) (u:=3) results38 _ rfl (hr.set _ _ _)) rfl ⟨rfl,set3_below hb (by omega)⟩
theorem fndV (x y:Nat)(c:Bool)(w:World):
    Cr 38 #[.agg #[int u64 x,int u64 y,.bool c]] w (.tuple #[ptW (asPt x y c),.bool (toPt x y c).isSome]):=by
  have E:∀n:Nat,∃(z:Int) (b:Bool),(Cc 78 #[int u64 n,.agg #[]] (.tuple #[.agg #[int u64 z],.bool b]))∧
      ((b=true∧z=n∧n<2305843009213693951)∨(b=false∧ ¬ n<2305843009213693951)):=fun n=>by
    by_cases h:n<2305843009213693951
    · exact⟨n,true,fun w=>exP_less n w (by omega),.inl ⟨rfl,rfl,h⟩⟩
    · exact⟨0,false,fun w=>exP_more n w (by omega),.inr ⟨rfl,h⟩⟩
  obtain⟨zx,bx,E1,hx⟩:=E x;obtain⟨zy,by_,E2,hy⟩:=E y
  cases c with
  | true=>
    by_cases h0:x=0∧y=0
    · obtain⟨rfl,rfl⟩:=h0;have e1:toPt 0 0 true=some none:=by unfold toPt;rw [if_pos rfl,if_pos ⟨rfl,rfl⟩]
      rw [asPt_some e1,e1];exact fndP_zero w
    · have e1:toPt x y true=none:=by unfold toPt;rw [if_pos rfl,if_neg h0]
      have e2:asPt x y true=none:=by unfold asPt;rw [e1];rfl
      rw [e1,e2];by_cases hx0:x=0
      · subst hx0;exact fndP_inf2 y zx zy bx by_ w (by simp;omega) E1 E2
      · exact fndP_inf1 x y zx zy bx by_ w (by simp;omega) E1 E2
  | false =>
    rcases hx with ⟨rfl,rfl,hx⟩|⟨rfl,hx⟩
    · rcases hy with ⟨rfl,rfl,hy⟩|⟨rfl,hy⟩
      · have T1:=tmV ⟨y,hy⟩ ⟨y,hy⟩;have T2:=csqV ⟨x,hx⟩
        have e0:toPt x y false=if (⟨y,hy⟩:Fp)*⟨y,hy⟩=crv ⟨x,hx⟩ then some (some (⟨x,hx⟩,⟨y,hy⟩)) else none:=by
          unfold toPt;rw [if_neg (by decide),dif_pos ⟨hx,hy⟩]
        by_cases h:(⟨y,hy⟩:Fp)*⟨y,hy⟩=crv ⟨x,hx⟩
        · rw [if_pos h] at e0;rw [asPt_some e0,e0];exact fndP_on x y _ _ w (by rw [fv_eq];simp [h]) T1 T2 E1 E2
        · rw [if_neg h] at e0;have e2:asPt x y false=none:=by unfold asPt;rw [e0];rfl
          rw [e0,e2];exact fndP_off x y _ _ w (by rw [fv_eq];simp [h]) T1 T2 E1 E2
      · have e0:toPt x y false=none:=by
          unfold toPt;rw [if_neg (by decide),dif_neg (fun h=>hy h.2)]
        have e2:asPt x y false=none:=by unfold asPt;rw [e0];rfl
        rw [e0,e2];exact fndP_bigy x y x zy w E1 E2
    · have e0:toPt x y false=none:=by
        unfold toPt;rw [if_neg (by decide),dif_neg (fun h=>hx h.1)]
      have e2:asPt x y false=none:=by unfold asPt;rw [e0];rfl
      rw [e0,e2];exact fndP_bigx x y zx zy by_ w E1 E2
end
end Go.Proofs.YtmjniccfjffclaaGreatDoor
