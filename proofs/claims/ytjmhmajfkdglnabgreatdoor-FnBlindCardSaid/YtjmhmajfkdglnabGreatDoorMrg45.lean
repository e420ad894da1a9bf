import Derived.Test.YtjmhmajfkdglnabGreatDoorMrg44
set_option linter.unusedVariables false
set_option maxRecDepth 100000
set_option maxHeartbeats 16000000
namespace Go.Proofs.YtjmhmajfkdglnabGreatDoor
open Go.Proofs.Tryz Go.RowKit
open Go.Value (int)
open Go.IntKind (u64)
section
open M
def zBat:Array Value:=#[.string ⟨#[]⟩,int u64 0,int u64 0,.bool false,.slice none 0 0,.slice none 0 0]
theorem sizeBat:(prog.info? 89).map (·.size)=some 6:=by kernel_rfl
section
variable (cx info:ByteArray)(q:Pt)(v2 v3:Value)(a0 a1 a2 a3:Addr)(w:World)
theorem nclI (n2 n3 k2' k3:Nat)(b2 b3:Option Addr):
    Cr 139 #[.agg #[.string cx,.string info],.agg #[int u64 (px q),int u64 (py q),.bool (pb q)],.slice b2 n2 k2',.slice b3 n3 k3] w (.tuple #[.agg zBat,.bool false]):=by
  obtain⟨X,hX⟩:∃X,X=((w.alloc (Obj.cells #[.string cx,.string info] 114)).alloc (Obj.cells #[int u64 (px q),int u64 (py q),.bool (pb q)] 86)).alloc (Obj.cells zBat 89):=⟨_,rfl⟩;have r0:Bk X 114 w.heap.size #[.string cx,.string info]:=by rw [hX];exact((Bk.new _ _ _).alloc _).alloc _
  have r1:K3 X 86 (w.heap.size+1) (px q) (py q) (pb q):=by rw [hX];exact((K3.new _ _ _ _ _).at (by simp)).alloc _
  have hr:Bk X 89 (w.heap.size+1+1) zBat:=by rw [hX];exact(Bk.new _ _ _).at (by simp)
  have hb:Bl w X:=by rw [hX];exact(((Below.refl _ w).alloc (Nat.le_refl _) _).alloc (by simp) _).alloc (by simp;omega) _
  rw [hX] at r0 r1 hr hb;clear hX;have s0:=r0.cell (k:=0) rfl;have k0:=r1.c0;have k1:=r1.c1;have k2:=r1.c2;have hth:=hr.there 6 (by decide);go_enter func139,ntmps139;go_wp2_with (refine wpList_store_mid rfl 89 _ _ rfl (w.heap.size+1+1) 0 zBat rfl rfl hth sizeBat (by kernel_rfl) ?_);exact bodyPost_ret (v:= .tuple #[.agg zBat,.bool false]) (bk_res2 (fn:=Tryz.f139) (p:=8) (u:=9) results139 _ rfl (hr.sets _ rfl) underlying89 rfl sizeBat) rfl ⟨rfl,below_setCells hb (by omega) _ _⟩
theorem cfwI (n2 n3 k2' k3:Nat)(b2 b3:Option Addr):
    Cr 141 #[.agg #[.string cx,.string info],.agg #[int u64 (px q),int u64 (py q),.bool (pb q)],.slice b2 n2 k2',.slice b3 n3 k3] w (.tuple #[.agg #[.string cx,int u64 (px q),int u64 (py q),.bool (pb q),.slice b2 n2 k2',.slice b3 n3 k3],.bool true]):=by
  obtain⟨X,hX⟩:∃X,X=((w.alloc (Obj.cells #[.string cx,.string info] 114)).alloc (Obj.cells #[int u64 (px q),int u64 (py q),.bool (pb q)] 86)).alloc (Obj.cells zBat 89):=⟨_,rfl⟩;have r0:Bk X 114 w.heap.size #[.string cx,.string info]:=by rw [hX];exact((Bk.new _ _ _).alloc _).alloc _
  have r1:K3 X 86 (w.heap.size+1) (px q) (py q) (pb q):=by rw [hX];exact((K3.new _ _ _ _ _).at (by simp)).alloc _
  have hr:Bk X 89 (w.heap.size+1+1) zBat:=by rw [hX];exact(Bk.new _ _ _).at (by simp)
  have hb:Bl w X:=by rw [hX];exact(((Below.refl _ w).alloc (Nat.le_refl _) _).alloc (by simp) _).alloc (by simp;omega) _
  rw [hX] at r0 r1 hr hb;clear hX;have s0:=r0.cell (k:=0) rfl;have k0:=r1.c0;have k1:=r1.c1;have k2:=r1.c2;have hth:=hr.there 6 (by decide);go_enter func141,ntmps141;go_wp2_with (refine wpList_store_mid rfl 89 _ _ rfl (w.heap.size+1+1) 0 #[.string cx,int u64 (px q),int u64 (py q),.bool (pb q),.slice b2 n2 k2',.slice b3 n3 k3] rfl rfl hth sizeBat (by kernel_rfl) ?_);exact bodyPost_ret (v:= .tuple #[.agg #[.string cx,int u64 (px q),int u64 (py q),.bool (pb q),.slice b2 n2 k2',.slice b3 n3 k3],.bool true]) (bk_res2 (fn:=Tryz.f141) (p:=8) (u:=9) results141 _ rfl (hr.sets _ rfl) underlying89 rfl sizeBat) rfl ⟨rfl,below_setCells hb (by omega) _ _⟩
theorem cbwI (n2 n3 k2' k3:Nat)(b2 b3:Option Addr):
    Cr 147 #[.agg #[.string cx,.string info],.agg #[int u64 (px q),int u64 (py q),.bool (pb q)],.slice b2 n2 k2',.slice b3 n3 k3] w (.tuple #[.agg #[.string cx,int u64 (px q),int u64 (py q),.bool (pb q),.slice b3 n3 k3,.slice b2 n2 k2'],.bool true]):=by
  obtain⟨X,hX⟩:∃X,X=((w.alloc (Obj.cells #[.string cx,.string info] 114)).alloc (Obj.cells #[int u64 (px q),int u64 (py q),.bool (pb q)] 86)).alloc (Obj.cells zBat 89):=⟨_,rfl⟩;have r0:Bk X 114 w.heap.size #[.string cx,.string info]:=by rw [hX];exact((Bk.new _ _ _).alloc _).alloc _
  have r1:K3 X 86 (w.heap.size+1) (px q) (py q) (pb q):=by rw [hX];exact((K3.new _ _ _ _ _).at (by simp)).alloc _
  have hr:Bk X 89 (w.heap.size+1+1) zBat:=by rw [hX];exact(Bk.new _ _ _).at (by simp)
  have hb:Bl w X:=by rw [hX];exact(((Below.refl _ w).alloc (Nat.le_refl _) _).alloc (by simp) _).alloc (by simp;omega) _
  rw [hX] at r0 r1 hr hb;clear hX;have s0:=r0.cell (k:=0) rfl;have k0:=r1.c0;have k1:=r1.c1;have k2:=r1.c2;have hth:=hr.there 6 (by decide);go_enter func147,ntmps147;go_wp2_with (refine wpList_store_mid rfl 89 _ _ rfl (w.heap.size+1+1) 0 #[.string cx,int u64 (px q),int u64 (py q),.bool (pb q),.slice b3 n3 k3,.slice b2 n2 k2'] rfl rfl hth sizeBat (by kernel_rfl) ?_);exact bodyPost_ret (v:= .tuple #[.agg #[.string cx,int u64 (px q),int u64 (py q),.bool (pb q),.slice b3 n3 k3,.slice b2 n2 k2'],.bool true]) (bk_res2 (fn:=Tryz.f147) (p:=8) (u:=9) results147 _ rfl (hr.sets _ rfl) underlying89 rfl sizeBat) rfl ⟨rfl,below_setCells hb (by omega) _ _⟩
theorem palI_yes:
    Cr 138 #[.agg #[int u64 (px q),int u64 (py q),.bool (pb q)],.agg #[int u64 0,int u64 0,.bool true]] w (.tuple #[.agg #[int u64 (px q),int u64 (py q),.bool (pb q)],.nilIface]):=by
  obtain⟨X,hX⟩:∃X,X=((w.alloc (Obj.cells #[int u64 (px q),int u64 (py q),.bool (pb q)] 86)).alloc (Obj.cells #[int u64 0,int u64 0,.bool true] 25)).alloc (Obj.cells #[int u64 0,int u64 0,.bool false] 86):=⟨_,rfl⟩;have r0:K3 X 86 w.heap.size (px q) (py q) (pb q):=by rw [hX];exact((K3.new _ _ _ _ _).alloc _).alloc _
  have r1:K3 X 25 (w.heap.size+1) 0 0 true:=by rw [hX];exact((K3.new _ _ _ _ _).at (by simp)).alloc _
  have hr:K3 X 86 (w.heap.size+1+1) 0 0 false:=by rw [hX];exact(K3.new _ _ _ _ _).at (by simp)
  have hb:Bl w X:=by rw [hX];exact(((Below.refl _ w).alloc (Nat.le_refl _) _).alloc (by simp) _).alloc (by simp;omega) _
  go_enter func138,ntmps138;go_wp2;rw [←hX];clear hX;have k0:X.drew.cell? ⟨w.heap.size+1,0,none⟩=_:=r1.c0;have k1:X.drew.cell? ⟨w.heap.size+1,1,none⟩=_:=r1.c1;have k2:X.drew.cell? ⟨w.heap.size+1,2,none⟩=_:=r1.c2
  refine G.pool_list (W:=X) [] [.val (.agg #[int u64 0,int u64 0,.bool true]),
      .val (.agg #[int u64 0,int u64 0,.bool true]),
      .val (.agg #[int u64 0,int u64 0,.bool true]),
      .val (.bool false)] [[3],[],[7],[6,8]] (fun f=> [(some 6,.agg #[int u64 0,int u64 0,.bool true]),(some 7,.agg #[int u64 0,int u64 0,.bool true]),(some 8,.agg #[int u64 0,int u64 0,.bool true]),(some 9,.bool false)]) (by kernel_rfl) (by kernel_rfl) (by kernel_rfl) (by kernel_rfl) (fun _=>by kernel_rfl) (G.last_of [] (fun F R hm=>by simp at hm) (fun ob ob' k hm=>by simp at hm) (fun b ob ob' hm=>by simp at hm)) (fun b ob ob' hm=>by simp at hm) ?_ ?_
  · intro ix hix
    match ix,hix with
    |0,_=>exact G.obv [(3,.pointer (some ⟨w.heap.size+1,0,none⟩))] rfl rfl (fun A w ⟨e0,_⟩ hB=>ld_pt e0 (hB.cell k0 (by simp)) (hB.cell k1 (by simp)) (hB.cell k2 (by simp)))
    |1,_=>exact G.obv [] rfl rfl (fun A w _ hB=>cl0 cf_impl_zeroPoint (zpP w))
    |2,_=>exact G.obv [(7,.agg #[int u64 0,int u64 0,.bool true])] rfl rfl (fun A w ⟨e0,_⟩ hB=>fl_cp0 e0)
    |3,_=>exact G.obv [(6,.agg #[int u64 0,int u64 0,.bool true]),(8,.agg #[int u64 0,int u64 0,.bool true])] rfl rfl (fun A w ⟨e0,e1,_⟩ hB=>ne_ptF e0 e1)
    |ix+4,h=>exact absurd h (by simp)
  intro f W3 hS _ _ _ _;have hb3:Bl X W3:=(Below.refl _ X).drew.trans hS.below;replace r0:=r0.keep hb3;replace hr:=hr.keep hb3;replace hb:=hb.tr hb3;clear hS k0 k1 k2 hb3 r1;simp only [puts,List.foldl,Act.put,List.setIfInBounds_toArray,List.set_cons_zero,List.set_cons_succ];have c0:=hr.c0;have c1:=hr.c1;have c2:=hr.c2;have cf:=hr.frz;have d0:=r0.c0;have d1:=r0.c1;have d2:=r0.c2;go_wp2;exact bodyPost_ret (v:= .tuple #[.agg #[int u64 (px q),int u64 (py q),.bool (pb q)],.nilIface]) (cpt_res (fn:=Tryz.f138) (p:=4) (u:=5) results138 _ rfl (hr.set _ _ _)) rfl ⟨rfl,set3_below hb (by omega)⟩
theorem palI_no (hs:Sn w a0 a1 a2 a3)(x y:Int)(c:Bool)(hn: ¬ (x=0∧y=0∧c=true)):
    Cr 138 #[.agg #[int u64 (px q),int u64 (py q),.bool (pb q)],.agg #[int u64 x,int u64 y,.bool c]] w (.tuple #[.agg #[int u64 0,int u64 0,.bool true],sen a0]):=by
  have hg0:0<w.heap.size:=World.block_lt_of_cell? w _ hs.c0;obtain⟨X,hX⟩:∃X,X=((w.alloc (Obj.cells #[int u64 (px q),int u64 (py q),.bool (pb q)] 86)).alloc (Obj.cells #[int u64 x,int u64 y,.bool c] 25)).alloc (Obj.cells #[int u64 0,int u64 0,.bool false] 86):=⟨_,rfl⟩;have r1:K3 X 25 (w.heap.size+1) x y c:=by rw [hX];exact((K3.new _ _ _ _ _).at (by simp)).alloc _
  have hr:K3 X 86 (w.heap.size+1+1) 0 0 false:=by rw [hX];exact(K3.new _ _ _ _ _).at (by simp)
  have hb:Bl w X:=by rw [hX];exact(((Below.refl _ w).alloc (Nat.le_refl _) _).alloc (by simp) _).alloc (by simp;omega) _
  go_enter func138,ntmps138;go_wp2;rw [←hX];clear hX;have k0:X.drew.cell? ⟨w.heap.size+1,0,none⟩=_:=r1.c0;have k1:X.drew.cell? ⟨w.heap.size+1,1,none⟩=_:=r1.c1;have k2:X.drew.cell? ⟨w.heap.size+1,2,none⟩=_:=r1.c2
  refine G.pool_list (W:=X) [] [.val (.agg #[int u64 x,int u64 y,.bool c]),
      .val (.agg #[int u64 0,int u64 0,.bool true]),
      .val (.agg #[int u64 0,int u64 0,.bool true]),
      .val (.bool true)] [[3],[],[7],[6,8]] (fun f=> [(some 6,.agg #[int u64 x,int u64 y,.bool c]),(some 7,.agg #[int u64 0,int u64 0,.bool true]),(some 8,.agg #[int u64 0,int u64 0,.bool true]),(some 9,.bool true)]) (by kernel_rfl) (by kernel_rfl) (by kernel_rfl) (by kernel_rfl) (fun _=>by kernel_rfl) (G.last_of [] (fun F R hm=>by simp at hm) (fun ob ob' k hm=>by simp at hm) (fun b ob ob' hm=>by simp at hm)) (fun b ob ob' hm=>by simp at hm) ?_ ?_
  · intro ix hix
    match ix,hix with
    |0,_=>exact G.obv [(3,.pointer (some ⟨w.heap.size+1,0,none⟩))] rfl rfl (fun A w ⟨e0,_⟩ hB=>ld_pt e0 (hB.cell k0 (by simp)) (hB.cell k1 (by simp)) (hB.cell k2 (by simp)))
    |1,_=>exact G.obv [] rfl rfl (fun A w _ hB=>cl0 cf_impl_zeroPoint (zpP w))
    |2,_=>exact G.obv [(7,.agg #[int u64 0,int u64 0,.bool true])] rfl rfl (fun A w ⟨e0,_⟩ hB=>fl_cp0 e0)
    |3,_=>exact G.obv [(6,.agg #[int u64 x,int u64 y,.bool c]),(8,.agg #[int u64 0,int u64 0,.bool true])] rfl rfl (fun A w ⟨e0,e1,_⟩ hB=>ne_ptT hn e0 e1)
    |ix+4,h=>exact absurd h (by simp)
  intro f W3 hS _ _ _ _;have hb3:Bl X W3:=(Below.refl _ X).drew.trans hS.below;replace hr:=hr.keep hb3;replace hb:=hb.tr hb3;clear hS k0 k1 k2 hb3 r1;simp only [puts,List.foldl,Act.put,List.setIfInBounds_toArray,List.set_cons_zero,List.set_cons_succ];go_wp2;have g0:W3.drew.cell? ⟨0,0,none⟩=_:=(hs.keep hb).c0;have n0:0∉ [w.heap.size+1+1]:=fun h=>absurd (List.mem_singleton.1 h) (by omega)
  have l1:w.heap.size+1+1<W3.drew.heap.size:=hr.lt
  refine G.pool_list (W:=W3) [w.heap.size+1+1] [.val (.agg #[int u64 0,int u64 0,.bool true]),
      .val (sen a0),
      .set (w.heap.size+1+1) (.cells #[int u64 0,int u64 0,.bool false] 86) (.cells #[int u64 0,int u64 0,.bool true] 86),
      .val (sen a0)] [[],[],[4,10],[11]] (fun f=> [(some 10,.agg #[int u64 0,int u64 0,.bool true]),(some 11,sen a0),(none,undef),(some 5,sen a0)]) (by kernel_rfl) (by kernel_rfl) (by kernel_rfl) (by kernel_rfl) (fun _=>by kernel_rfl) (G.last_of [.cells #[int u64 0,int u64 0,.bool false] 86] (fun F R hm=>by simp at hm) (fun ob ob' k hm=>by simp at hm) (fun b ob ob' hm=>by simp at hm;simp [hm])) (fun b ob ob' hm=>by simp at hm;obtain⟨rfl,rfl,-⟩:=hm;exact hr) ?_ ?_
  · intro ix hix
    match ix,hix with
    |0,_=>exact G.obv [] rfl rfl (fun A w _ hB=>cl0 cf_impl_zeroPoint (zpP w))
    |1,_=>exact G.obv [] rfl rfl (fun A w _ hB=>ld_err rfl (hB.cell g0 n0))
    |2,_=>exact G.ob_set (fun f=> [(4,.pointer (some ⟨w.heap.size+1+1,0,none⟩)),(10,.agg #[int u64 0,int u64 0,.bool true])]) rfl rfl rfl (by simp) l1 (fun j ob1 ob2 h=>by (rcases j with _|_|_|_|j)<;>simp [G.kindOf] at h⊢ <;>omega) (fun _=>by kernel_rfl) (fun f A w ⟨e0,e1,_⟩ hh hr=>pu_cp e0 e1 hr)
    |3,_=>exact G.obv [(11,sen a0)] rfl rfl (fun A w ⟨e0,_⟩ hB=>doV_assign e0)
    |ix+4,h=>exact absurd h (by simp)
  intro f W4 hS _ _ _ hset;have q1:K3 W4 86 (w.heap.size+1+1) 0 0 true:=hset 2 _ _ _ rfl (by decide);have hb4:Bl w W4:=hS.under hb.drew (by intro b h;rw [List.mem_singleton.1 h];omega) hb.size;clear hset hS g0;simp only [puts,List.foldl,Act.put,List.setIfInBounds_toArray,List.set_cons_zero,List.set_cons_succ];go_wp2;exact bodyPost_ret (v:= .tuple #[.agg #[int u64 0,int u64 0,.bool true],sen a0]) (cpt_res (fn:=Tryz.f138) (p:=4) (u:=5) results138 _ rfl q1) rfl ⟨rfl,hb4⟩
theorem talI_of (x y u0 u1:Int)(c u2:Bool)(v:Value)
    (EL:Cb w 68 #[.agg #[int u64 x,int u64 y,.bool c]] (.tuple #[.agg #[int u64 u0,int u64 u1,.bool u2],v])):
    Cr 146 #[.agg #[int u64 (px q),int u64 (py q),.bool (pb q)],.agg #[int u64 x,int u64 y,.bool c]] w (.tuple #[.agg #[int u64 u0,int u64 u1,.bool u2],v]):=by
  obtain⟨X,hX⟩:∃X,X=((w.alloc (Obj.cells #[int u64 (px q),int u64 (py q),.bool (pb q)] 86)).alloc (Obj.cells #[int u64 x,int u64 y,.bool c] 25)).alloc (Obj.cells #[int u64 0,int u64 0,.bool false] 86):=⟨_,rfl⟩;have r1:K3 X 25 (w.heap.size+1) x y c:=by rw [hX];exact((K3.new _ _ _ _ _).at (by simp)).alloc _
  have hr:K3 X 86 (w.heap.size+1+1) 0 0 false:=by rw [hX];exact(K3.new _ _ _ _ _).at (by simp)
  have hb:Bl w X:=by rw [hX];exact(((Below.refl _ w).alloc (Nat.le_refl _) _).alloc (by simp) _).alloc (by simp;omega) _
  rw [hX] at r1 hr hb;clear hX;have k0:=r1.c0;have k1:=r1.c1;have k2:=r1.c2;go_enter func146,ntmps146;go_wp2_with fail;refine(EL _ hb).mono ?_;rintro e w1 ⟨rfl,b1⟩;replace hr:=hr.keep b1;replace hb:=hb.tr b1;clear EL b1 k0 k1 k2 r1;have c0:=hr.c0;have c1:=hr.c1;have c2:=hr.c2;have cf:=hr.frz;go_wp2;exact bodyPost_ret (v:= .tuple #[.agg #[int u64 u0,int u64 u1,.bool u2],v]) (cpt_res (fn:=Tryz.f146) (p:=4) (u:=5) results146 _ rfl (hr.set _ _ _)) rfl ⟨rfl,set3_below hb (by omega)⟩
end
def B6 (W:World)(b:Nat)(s:ByteArray)(x y:Int)(c:Bool)(a1:Option Addr)(n1 k1:Nat)(a2:Option Addr)(n2 k2:Nat):Prop:=W.heap[b]? =some (.cells #[.string s,int u64 x,int u64 y,.bool c,.slice a1 n1 k1,.slice a2 n2 k2] 89)
section
variable {W W':World}{b:Nat}{s:ByteArray}{x y:Int}{c:Bool}{a1 a2:Option Addr}{n1 k1 n2 k2:Nat}
theorem B6.c0 (h:B6 W b s x y c a1 n1 k1 a2 n2 k2):W.cell? ⟨b,0,none⟩=some (.string s):=by unfold B6 at h;simp [World.cell?,h]
theorem B6.c1 (h:B6 W b s x y c a1 n1 k1 a2 n2 k2):W.cell? ⟨b,1,none⟩=some (int u64 x):=by unfold B6 at h;simp [World.cell?,h]
theorem B6.c2 (h:B6 W b s x y c a1 n1 k1 a2 n2 k2):W.cell? ⟨b,2,none⟩=some (int u64 y):=by unfold B6 at h;simp [World.cell?,h]
theorem B6.c3 (h:B6 W b s x y c a1 n1 k1 a2 n2 k2):W.cell? ⟨b,3,none⟩=some (.bool c):=by unfold B6 at h;simp [World.cell?,h]
theorem B6.c4 (h:B6 W b s x y c a1 n1 k1 a2 n2 k2):W.cell? ⟨b,4,none⟩=some (.slice a1 n1 k1):=by unfold B6 at h;simp [World.cell?,h]
theorem B6.c5 (h:B6 W b s x y c a1 n1 k1 a2 n2 k2):W.cell? ⟨b,5,none⟩=some (.slice a2 n2 k2):=by unfold B6 at h;simp [World.cell?,h]
theorem B6.lt (h:B6 W b s x y c a1 n1 k1 a2 n2 k2):b<W.heap.size:=(Array.getElem?_eq_some_iff.1 h).1
theorem B6.keep (h:B6 W b s x y c a1 n1 k1 a2 n2 k2)(hb:Bl W W'):B6 W' b s x y c a1 n1 k1 a2 n2 k2:=(hb.block b h.lt).trans h
theorem B6.new (w:World)(s:ByteArray)(x y:Int)(c:Bool)(a1:Option Addr)(n1 k1:Nat)(a2:Option Addr)(n2 k2:Nat):B6 (w.alloc (.cells #[.string s,int u64 x,int u64 y,.bool c,.slice a1 n1 k1,.slice a2 n2 k2] 89)) w.heap.size s x y c a1 n1 k1 a2 n2 k2:=heap_alloc_new w _
theorem B6.alloc (h:B6 W b s x y c a1 n1 k1 a2 n2 k2)(o:Obj):B6 (W.alloc o) b s x y c a1 n1 k1 a2 n2 k2:=(Below.heap_alloc W o b h.lt).trans h
end
theorem infoN5:(prog.info? 97).map (fun i=>(i.zero,i.size,i.bytes))=some (some (.agg #[int u64 0]),1,8):=by kernel_rfl
theorem wgtI_of (k n g1 k1 g2 k2:Nat)(b:Pt)(cs ds:List Pt)(w:World)(hT:TabK w)(hk:k<3)(h1:1≤n)(hn:n≤200)(hlc:cs.length=n)(hld:ds.length=n)(hc:Cps w g1 cs)(hd:Cps w g2 ds):
    Calls prog 123 #[.agg #[.string (ctxB k),int u64 (px b),int u64 (py b),.bool (pb b),.slice (some ⟨g1,0,none⟩) n k1,.slice (some ⟨g2,0,none⟩) n k2]] w fun e w'=>∃g cap,e= .returned (.slice (some ⟨g,0,none⟩) n cap)∧w'.ownsRow w.heap.size 97 1 (.slice (some ⟨g,0,none⟩) n cap) n ((wgts k b cs ds n).map (Value.int .u64))∧Bl w w':=by
  obtain⟨i0,hi,hz0,hz1,hz2⟩:=info_parts infoN5;obtain⟨WS,hWS⟩:∃WS,Hid (WS=wgts k b cs ds):=⟨_,rfl⟩;rw [←hWS.out];have hgw:6<w.heap.size:=World.block_lt_of_cell? w _ (hT 0 (by omega));have hzc:=ctxB_size k hk;have hzt:=seedT_size k hk
  have hst:Hid (∀i,i<n→∃c d,cs[i]? =some c∧ds[i]? =some d∧WS (i+1)=WS i++ [((scaN (sizB (seedB k b)++numB i++sizB (ptB c)++sizB (ptB d)++compB) k:Nat):Int)]):=fun i hi=>by
    obtain⟨c,hc⟩:∃c,cs[i]? =some c:=⟨_,List.getElem?_eq_getElem (by omega)⟩;obtain⟨d,hd⟩:∃d,ds[i]? =some d:=⟨_,List.getElem?_eq_getElem (by omega)⟩;refine⟨c,d,hc,hd,?_⟩;rw [hWS.out,wgts_succ];have e1:cs.getD i none=c:=by rw [List.getD_eq_getElem?_getD,hc];rfl
    have e2:ds.getD i none=d:=by rw [List.getD_eq_getElem?_getD,hd];rfl
    rw [e1,e2];rfl
  have hW0:WS 0= []:=by rw [hWS.out];rfl
  clear hWS;have hTG:=fun w=>tagI_any (ctxB k) ⟨#[83,101,101,100,45]⟩ w (by omega) (by decide)
  have hSQ:(⟨#[83,101,101,100,45]⟩:ByteArray)++ctxB k=seedT k:=(tagB_ctx _ k).symm;rw [hSQ] at hTG;clear hSQ;have hss:(seedB k b).size=32:=by unfold seedB;rw [strOfNums_size,shaF_length]
  have hWB:=writC b;have hWS2:=writZ (seedT k) (by omega);have hzb:(sizB (ptB b)).size=10:=by rw [sizB_size,ptB_size]
  have hzz:(sizB (seedT k)).size=19:=by rw [sizB_size,hzt]
  have hWI:∀(f j:Nat) (w:World),w.heap[j]? =some (.cells #[.iface 86 (.agg #[int u64 (px b),int u64 (py b),.bool (pb b)]),.iface 191 (.string (seedT k))] 234)→
      Cr 109 #[.string ⟨#[]⟩,.slice (some ⟨j,0,none⟩) 2 2] w (.string (seedM k b)):=fun f j w hr=>by
    have:=with_blk ⟨#[]⟩ [(.iface 86 (.agg #[int u64 (px b),int u64 (py b),.bool (pb b)]),sizB (ptB b)),(.iface 191 (.string (seedT k)),sizB (seedT k))] j 2 _ _ w hr rfl rfl (by omega) (by
      intro vs hvs;simp only [List.mem_cons,List.not_mem_nil,or_false] at hvs;rcases hvs with rfl|rfl
      · exact hWB
      · exact hWS2) (by simp only [catA,List.map_cons,List.map_nil,List.foldl_cons,List.foldl_nil,ByteArray.size_append,hzb,hzz];decide)
    rw [show catA ⟨#[]⟩ (List.map (·.2) [((.iface 86 (.agg #[int u64 (px b),int u64 (py b),.bool (pb b)]):Value),sizB (ptB b)),(.iface 191 (.string (seedT k)),sizB (seedT k))])=seedM k b by
      show(⟨#[]⟩:ByteArray)++sizB (ptB b)++sizB (seedT k)=_
      rw [eml];rfl] at this
    exact this
  have hSM:(seedM k b).size≤1000000:=by unfold seedM;rw [ByteArray.size_append,hzb,hzz];decide
  have hHS:∀(j:Nat) (w:World),TabK w→w.heap[j]? =some (.cells #[.string (seedM k b)] 9)→Cr 110 #[.slice (some ⟨j,0,none⟩) 1 1] w (.string (seedB k b)):=fun j w hT hr=>hash_blk (seedM k b) j _ w hT hr hSM
  have hW1:∀(w:World) (j:Nat),w.heap[j]? =some (.cells #[.iface 191 (.string (seedB k b))] 234)→Cr 109 #[.string ⟨#[]⟩,.slice (some ⟨j,0,none⟩) 1 1] w (.string (sizB (seedB k b))):=fun w j hr=>by
    have:=with_blk ⟨#[]⟩ [(.iface 191 (.string (seedB k b)),sizB (seedB k b))] j 1 _ _ w hr rfl rfl (by omega) (by
      intro vs hvs;simp only [List.mem_cons,List.not_mem_nil,or_false] at hvs;subst hvs
      exact writZ (seedB k b) (by omega)) (by simp only [catA,List.map_cons,List.map_nil,List.foldl_cons,List.foldl_nil,ByteArray.size_append,sizB_size,hss];decide)
    rw [show catA ⟨#[]⟩ (List.map (·.2) [((.iface 191 (.string (seedB k b)):Value),sizB (seedB k b))])=sizB (seedB k b) from eml _] at this;exact this
  clear hWB hWS2 hzz hSM;generalize seedM k b=SM at*;generalize seedT k=ST at*;have r1:=B6.new w (ctxB k) (px b) (py b) (pb b) (some ⟨g1,0,none⟩) n k1 (some ⟨g2,0,none⟩) n k2;have hb:=balc w (Obj.cells #[.string (ctxB k),int u64 (px b),int u64 (py b),.bool (pb b),.slice (some ⟨g1,0,none⟩) n k1,.slice (some ⟨g2,0,none⟩) n k2] 89);go_enter func123,ntmps123;go_wp2;generalize w.alloc (Obj.cells #[.string (ctxB k),int u64 (px b),int u64 (py b),.bool (pb b),.slice (some ⟨g1,0,none⟩) n k1,.slice (some ⟨g2,0,none⟩) n k2] 89)=W1 at*;have hT1:TabK W1.drew:=fun i hi=>(hb.cell (p:=⟨6,i,none⟩) hgw).trans (hT i hi)
  have hg1:6<W1.drew.heap.size:=Nat.lt_of_lt_of_le hgw hb.size;have c0:W1.drew.cell? ⟨w.heap.size,0,none⟩=_:=r1.c0;have c1:W1.drew.cell? ⟨w.heap.size,1,none⟩=_:=r1.c1;have c2:W1.drew.cell? ⟨w.heap.size,2,none⟩=_:=r1.c2;have c3:W1.drew.cell? ⟨w.heap.size,3,none⟩=_:=r1.c3
  refine pool_list [.val (.pointer (some ⟨w.heap.size,1,none⟩)),
      .val (.agg #[int u64 (px b),int u64 (py b),.bool (pb b)]),
      .val (.iface 86 (.agg #[int u64 (px b),int u64 (py b),.bool (pb b)])),
      .val (.pointer (some ⟨w.heap.size,0,none⟩)),
      .val (.string (ctxB k)),
      .val (.string ST),
      .val (.iface 191 (.string ST)),
      .new (.cells #[.iface 86 (.agg #[int u64 (px b),int u64 (py b),.bool (pb b)]),.iface 191 (.string ST)] 234) (.cells #[.iface 86 (.agg #[int u64 (px b),int u64 (py b),.bool (pb b)]),.iface 191 (.string ST)] 234) 1002,
      .val (.string SM),
      .new (.cells #[.string SM] 9) (.cells #[.string SM] 9) 1001,
      .val (.string (seedB k b)),
      .val (.string (seedB k b))] [[1],[7],[8],[1],[10],[11],[12],[9,13],[14],[15],[16],[17]] (fun f=> [(some 7,.pointer (some ⟨w.heap.size,1,none⟩)),(some 8,.agg #[int u64 (px b),int u64 (py b),.bool (pb b)]),(some 9,.iface 86 (.agg #[int u64 (px b),int u64 (py b),.bool (pb b)])),(some 10,.pointer (some ⟨w.heap.size,0,none⟩)),(some 11,.string (ctxB k)),(some 12,.string ST),(some 13,.iface 191 (.string ST)),(some 14,.slice (some ⟨f 7,0,none⟩) 2 2),(some 15,.string SM),(some 16,.slice (some ⟨f 9,0,none⟩) 1 1),(some 17,.string (seedB k b)),(some 3,.string (seedB k b))]) (by kernel_rfl) (by kernel_rfl) (by kernel_rfl) (by kernel_rfl) (fun _=>by kernel_rfl) ?_ ?_
  · intro ix hix
    match ix,hix with
    |0,_=>exact obv [(1,.pointer (some ⟨w.heap.size,0,none⟩))] rfl rfl (fun A w ⟨e0,_⟩ hB=>fa_bat1 e0)
    |1,_=>exact obv [(7,.pointer (some ⟨w.heap.size,1,none⟩))] rfl rfl (fun A w ⟨e0,_⟩ hB=>ld_cp e0 (keepC c1 hB) (keepC c2 hB) (keepC c3 hB))
    |2,_=>exact obv [(8,.agg #[int u64 (px b),int u64 (py b),.bool (pb b)])] rfl rfl (fun A w ⟨e0,_⟩ hB=>mi_cp e0)
    |3,_=>exact obv [(1,.pointer (some ⟨w.heap.size,0,none⟩))] rfl rfl (fun A w ⟨e0,_⟩ hB=>fa_bat0 e0)
    |4,_=>exact obv [(10,.pointer (some ⟨w.heap.size,0,none⟩))] rfl rfl (fun A w ⟨e0,_⟩ hB=>ld_ctx e0 (keepC c0 hB))
    |5,_=>exact obv [(11,.string (ctxB k))] rfl rfl (fun A w ⟨e0,_⟩ hB=>cl2 cf_impl_context_tag e0 rfl (hTG w))
    |6,_=>exact obv [(12,.string ST)] rfl rfl (fun A w ⟨e0,_⟩ hB=>mi_sized e0)
    |7,_=>exact ob_slc 2 [(9,.iface 86 (.agg #[int u64 (px b),int u64 (py b),.bool (pb b)])),(13,.iface 191 (.string ST))] rfl rfl (fun _=>by kernel_rfl) (fun A w ⟨e0,e1,_⟩=>sl_parts2 e0 e1)
    |8,_=>exact ob_use 14 7 1002 (.cells #[.iface 86 (.agg #[int u64 (px b),int u64 (py b),.bool (pb b)]),.iface 191 (.string ST)] 234) (fun f=> [(14,.slice (some ⟨f 7,0,none⟩) 2 2)]) rfl rfl (by decide) (by kernel_rfl) rfl (fun _=>by kernel_rfl) (fun f A w ⟨e0,_⟩ hB hr=>cl2 cf_impl_transcript_with rfl e0 (hWI 0 _ w hr))
    |9,_=>exact ob_slc 1 [(15,.string SM)] rfl rfl (fun _=>by kernel_rfl) (fun A w ⟨e0,_⟩=>sl_strs1 e0)
    |10,_=>exact ob_use 16 9 1001 (.cells #[.string SM] 9) (fun f=> [(16,.slice (some ⟨f 9,0,none⟩) 1 1)]) rfl rfl (by decide) (by kernel_rfl) rfl (fun _=>by kernel_rfl) (fun f A w ⟨e0,_⟩ hB hr=>cl1 cf_impl_hashOf e0 (hHS _ w (keepT hT1 hg1 hB) hr))
    |11,_=>exact obv [(17,.string (seedB k b))] rfl rfl (fun A w ⟨e0,_⟩ hB=>doV_assign e0)
    |ix+12,h=>exact absurd h (by simp)
  intro f W2 hb2 _ _;have hb2':Bl W1 W2:=(Below.refl _ W1).drew.trans hb2;replace r1:=r1.keep hb2';replace hb:=hb.tr hb2';clear c0 c1 c2 c3 hWI hHS hTG hb2 hb2' hT1 hg1;simp only [puts,List.foldl,Act.put,List.setIfInBounds_toArray,List.set_cons_zero,List.set_cons_succ];go_wp2_with fail;refine(hW1 _ _ (heap_alloc_new W2 _)).mono ?_;rintro e W3 ⟨rfl,b3⟩;replace r1:=(r1.alloc (Obj.cells #[.iface 191 (.string (seedB k b))] 234)).keep b3;replace hb:=hb.alloc hb.size (Obj.cells #[.iface 191 (.string (seedB k b))] 234);replace hb:=hb.tr b3;clear hW1 b3;have d4:=r1.c4;go_wp2;clear d4
  go_loopw [5,25] (fun ov iv wr=>∃j:Nat,j≤n∧iv= .int .i64 (j:Int)∧wr.ownsRow w.heap.size 97 1 ov j ((WS j).map (Value.int .u64))∧B6 wr w.heap.size (ctxB k) (px b) (py b) (pb b) (some ⟨g1,0,none⟩) n k1 (some ⟨g2,0,none⟩) n k2∧(∀t:TypeId,t≠89→True)∧Bl w wr) (fun _ i _=>n-(intOf i).toNat)
  case atStart=>exact ⟨0,by omega,rfl,by rw [hW0];exact World.ownsRow_nil _ _ _ _,r1,fun _ _=>trivial,hb⟩
  case round=>
    clear hW0 r1 hb;obtain⟨j,hj,rfl,hown,r1,-,hbl⟩:=hrel;have hsz:=hbl.size;by_cases hlt:j<n
    · have hli:(j:Int)<(n:Int):=by omega
      obtain⟨cp,dp,hcp,hdp,hnx⟩:=hst.out j hlt;have pc:=(hc.below hbl hc.lt).drew;have pd:=(hd.below hbl hd.lt).drew;have c0:=pc.c0 j cp hcp;have c1:=pc.c1 j cp hcp;have c2:=pc.c2 j cp hcp;have d0:=pd.c0 j dp hdp;have d1:=pd.c1 j dp hdp;have d2:=pd.c2 j dp hdp;have s0:wr.drew.cell? ⟨w.heap.size,0,none⟩=_:=r1.c0;have s4:wr.drew.cell? ⟨w.heap.size,4,none⟩=_:=r1.c4;have s5:wr.drew.cell? ⟨w.heap.size,5,none⟩=_:=r1.c5;have hTr:TabK wr.drew:=fun i hi=>(hbl.cell (p:=⟨6,i,none⟩) hgw).trans (hT i hi)
      have hgr0:6<wr.drew.heap.size:=Nat.lt_of_lt_of_le hgw hsz;have hWX:=writX j (by omega);have hWC:=writC cp;have hWD:=writC dp
      have hTX:(sizB (seedB k b)++numB j++sizB (ptB cp)++sizB (ptB dp)++compB).size=65:=by
        simp only [ByteArray.size_append,sizB_size,numB_size,ptB_size,hss];rw [show compB.size=9 from rfl]
      have hWT:∀(i:Nat) (w:World),w.heap[i]? =some (.cells #[.iface 247 (.int .i64 (j:Int)),.iface 86 (.agg #[int u64 (px cp),int u64 (py cp),.bool (pb cp)]),.iface 86 (.agg #[int u64 (px dp),int u64 (py dp),.bool (pb dp)]),.iface 193 (.string compB)] 234)→
          Cr 109 #[.string (sizB (seedB k b)),.slice (some ⟨i,0,none⟩) 4 4] w (.string (sizB (seedB k b)++numB j++sizB (ptB cp)++sizB (ptB dp)++compB)):=fun i w hr=>
        with_blk (sizB (seedB k b)) [(.iface 247 (.int .i64 (j:Int)),numB j),(.iface 86 (.agg #[int u64 (px cp),int u64 (py cp),.bool (pb cp)]),sizB (ptB cp)),(.iface 86 (.agg #[int u64 (px dp),int u64 (py dp),.bool (pb dp)]),sizB (ptB dp)),(.iface 193 (.string compB),compB)] i 4 _ _ w hr rfl rfl (by omega) (by
          intro vs hvs;simp only [List.mem_cons,List.not_mem_nil,or_false] at hvs;rcases hvs with rfl|rfl|rfl|rfl
          · exact hWX
          · exact hWC
          · exact hWD
          · exact writP compB) (Nat.le_trans (Nat.le_of_eq hTX) (by decide))
      have hSC:∀w:World,TabK w→Cr 126 #[.string (ctxB k),.string (sizB (seedB k b)++numB j++sizB (ptB cp)++sizB (ptB dp)++compB)] w (.agg #[int u64 (scaN (sizB (seedB k b)++numB j++sizB (ptB cp)++sizB (ptB dp)++compB) k:Nat)]):=fun w hT=>scaI_any _ k w hT hk (by rw [hTX];omega)
      clear hWX hWC hWD hTX hcp hdp pc pd;generalize hz:((scaN (sizB (seedB k b)++numB j++sizB (ptB cp)++sizB (ptB dp)++compB) k:Nat):Int)=z at*;clear hz;generalize hTXT:sizB (seedB k b)++numB j++sizB (ptB cp)++sizB (ptB dp)++compB=TXT at*;clear hTXT;generalize hSB:sizB (seedB k b)=SB at*;clear hSB;go_wp2
      refine pool_prT 23 [.val (u5),
          .val (.pointer (some ⟨w.heap.size,0,none⟩)),
          .val (.string (ctxB k)),
          .val (.string SB),
          .val (.int .i64 (j:Int)),
          .val (.iface 247 (.int .i64 (j:Int))),
          .val (.pointer (some ⟨w.heap.size,4,none⟩)),
          .val (.slice (some ⟨g1,0,none⟩) n k1),
          .val (.int .i64 (j:Int)),
          .val (.pointer (some ⟨g1,0+j*3,none⟩)),
          .val (.agg #[int u64 (px cp),int u64 (py cp),.bool (pb cp)]),
          .val (.iface 86 (.agg #[int u64 (px cp),int u64 (py cp),.bool (pb cp)])),
          .val (.pointer (some ⟨w.heap.size,5,none⟩)),
          .val (.slice (some ⟨g2,0,none⟩) n k2),
          .val (.int .i64 (j:Int)),
          .val (.pointer (some ⟨g2,0+j*3,none⟩)),
          .val (.agg #[int u64 (px dp),int u64 (py dp),.bool (pb dp)]),
          .val (.iface 86 (.agg #[int u64 (px dp),int u64 (py dp),.bool (pb dp)])),
          .val (.iface 193 (.string compB)),
          .new (.cells #[.iface 247 (.int .i64 (j:Int)),.iface 86 (.agg #[int u64 (px cp),int u64 (py cp),.bool (pb cp)]),.iface 86 (.agg #[int u64 (px dp),int u64 (py dp),.bool (pb dp)]),.iface 193 (.string compB)] 234) (.cells #[.iface 247 (.int .i64 (j:Int)),.iface 86 (.agg #[int u64 (px cp),int u64 (py cp),.bool (pb cp)]),.iface 86 (.agg #[int u64 (px dp),int u64 (py dp),.bool (pb dp)]),.iface 193 (.string compB)] 234) 1004,
          .val (.string TXT),
          .val (.agg #[int u64 z]),
          .new (.cells #[int u64 z] 97) (.cells #[int u64 z] 97) 1001] [[5],[1],[29],[4],[6],[32],[1],[34],[6],[35,36],[37],[38],[1],[40],[6],[41,42],[43],[44],[],[33,39,45,46],[31,47],[30,48],[49]] (fun f=> [(some 28,u5),(some 29,.pointer (some ⟨w.heap.size,0,none⟩)),(some 30,.string (ctxB k)),(some 31,.string SB),(some 32,.int .i64 (j:Int)),(some 33,.iface 247 (.int .i64 (j:Int))),(some 34,.pointer (some ⟨w.heap.size,4,none⟩)),(some 35,.slice (some ⟨g1,0,none⟩) n k1),(some 36,.int .i64 (j:Int)),(some 37,.pointer (some ⟨g1,0+j*3,none⟩)),(some 38,.agg #[int u64 (px cp),int u64 (py cp),.bool (pb cp)]),(some 39,.iface 86 (.agg #[int u64 (px cp),int u64 (py cp),.bool (pb cp)])),(some 40,.pointer (some ⟨w.heap.size,5,none⟩)),(some 41,.slice (some ⟨g2,0,none⟩) n k2),(some 42,.int .i64 (j:Int)),(some 43,.pointer (some ⟨g2,0+j*3,none⟩)),(some 44,.agg #[int u64 (px dp),int u64 (py dp),.bool (pb dp)]),(some 45,.iface 86 (.agg #[int u64 (px dp),int u64 (py dp),.bool (pb dp)])),(some 46,.iface 193 (.string compB)),(some 47,.slice (some ⟨f 19,0,none⟩) 4 4),(some 48,.string TXT),(some 49,.agg #[int u64 z]),(some 50,.slice (some ⟨f 22,0,none⟩) 1 1)]) (by kernel_rfl) (by kernel_rfl) (by kernel_rfl) (by kernel_rfl) (by decide) (by kernel_rfl) (fun _=>by kernel_rfl) ?_ ?_
      · intro ix hix
        match ix,hix with
        |0,_=>exact obv [(5,u5)] rfl rfl (fun A w ⟨e0,_⟩ hB=>doV_move e0)
        |1,_=>exact obv [(1,.pointer (some ⟨w.heap.size,0,none⟩))] rfl rfl (fun A w ⟨e0,_⟩ hB=>fa_bat0 e0)
        |2,_=>exact obv [(29,.pointer (some ⟨w.heap.size,0,none⟩))] rfl rfl (fun A w ⟨e0,_⟩ hB=>ld_ctx e0 (keepC s0 hB))
        |3,_=>exact obv [(4,.string SB)] rfl rfl (fun A w ⟨e0,_⟩ hB=>doV_move e0)
        |4,_=>exact obv [(6,.int .i64 (j:Int))] rfl rfl (fun A w ⟨e0,_⟩ hB=>doV_move e0)
        |5,_=>exact obv [(32,.int .i64 (j:Int))] rfl rfl (fun A w ⟨e0,_⟩ hB=>mi_index e0)
        |6,_=>exact obv [(1,.pointer (some ⟨w.heap.size,0,none⟩))] rfl rfl (fun A w ⟨e0,_⟩ hB=>fa_bat2 e0)
        |7,_=>exact obv [(34,.pointer (some ⟨w.heap.size,4,none⟩))] rfl rfl (fun A w ⟨e0,_⟩ hB=>ld_cpsl e0 (keepC s4 hB))
        |8,_=>exact obv [(6,.int .i64 (j:Int))] rfl rfl (fun A w ⟨e0,_⟩ hB=>doV_move e0)
        |9,_=>exact obv [(35,.slice (some ⟨g1,0,none⟩) n k1),(36,.int .i64 (j:Int))] rfl rfl (fun A w ⟨e0,e1,_⟩ hB=>ix_cps e0 e1 (by omega))
        |10,_=>exact obv [(37,.pointer (some ⟨g1,0+j*3,none⟩))] rfl rfl (fun A w ⟨e0,_⟩ hB=>ld_cp e0 (keepC c0 hB) (keepC c1 hB) (keepC c2 hB))
        |11,_=>exact obv [(38,.agg #[int u64 (px cp),int u64 (py cp),.bool (pb cp)])] rfl rfl (fun A w ⟨e0,_⟩ hB=>mi_cp e0)
        |12,_=>exact obv [(1,.pointer (some ⟨w.heap.size,0,none⟩))] rfl rfl (fun A w ⟨e0,_⟩ hB=>fa_bat3 e0)
        |13,_=>exact obv [(40,.pointer (some ⟨w.heap.size,5,none⟩))] rfl rfl (fun A w ⟨e0,_⟩ hB=>ld_cpsl e0 (keepC s5 hB))
        |14,_=>exact obv [(6,.int .i64 (j:Int))] rfl rfl (fun A w ⟨e0,_⟩ hB=>doV_move e0)
        |15,_=>exact obv [(41,.slice (some ⟨g2,0,none⟩) n k2),(42,.int .i64 (j:Int))] rfl rfl (fun A w ⟨e0,e1,_⟩ hB=>ix_cps e0 e1 (by omega))
        |16,_=>exact obv [(43,.pointer (some ⟨g2,0+j*3,none⟩))] rfl rfl (fun A w ⟨e0,_⟩ hB=>ld_cp e0 (keepC d0 hB) (keepC d1 hB) (keepC d2 hB))
        |17,_=>exact obv [(44,.agg #[int u64 (px dp),int u64 (py dp),.bool (pb dp)])] rfl rfl (fun A w ⟨e0,_⟩ hB=>mi_cp e0)
        |18,_=>exact obv [] rfl rfl (fun A w _ hB=>mi_plain rfl)
        |19,_=>exact ob_slc 4 [(33,.iface 247 (.int .i64 (j:Int))),(39,.iface 86 (.agg #[int u64 (px cp),int u64 (py cp),.bool (pb cp)])),(45,.iface 86 (.agg #[int u64 (px dp),int u64 (py dp),.bool (pb dp)])),(46,.iface 193 (.string compB))] rfl rfl (fun _=>by kernel_rfl) (fun A w ⟨e0,e1,e2,e3,_⟩=>sl_parts4 e0 e1 e2 e3)
        |20,_=>exact ob_use 47 19 1004 (.cells #[.iface 247 (.int .i64 (j:Int)),.iface 86 (.agg #[int u64 (px cp),int u64 (py cp),.bool (pb cp)]),.iface 86 (.agg #[int u64 (px dp),int u64 (py dp),.bool (pb dp)]),.iface 193 (.string compB)] 234) (fun f=> [(31,.string SB),(47,.slice (some ⟨f 19,0,none⟩) 4 4)]) rfl rfl (by decide) (by kernel_rfl) rfl (fun _=>by kernel_rfl) (fun f A w ⟨e0,e1,_⟩ hB hr=>cl2 cf_impl_transcript_with e0 e1 (hWT _ w hr))
        |21,_=>exact obv [(30,.string (ctxB k)),(48,.string TXT)] rfl rfl (fun A w ⟨e0,e1,_⟩ hB=>cl2 cf_impl_context_scalar e0 e1 (hSC w (keepT hTr hgr0 hB)))
        |22,_=>exact ob_slc 1 [(49,.agg #[int u64 z])] rfl rfl (fun _=>by kernel_rfl) (fun A w ⟨e0,_⟩=>sl_nN1 e0)
        |ix+23,h=>exact absurd h (by simp)
      intro f W4 hb4 hnew fuel hfuel;have hb4':Bl wr W4:=(Below.refl _ wr).drew.trans hb4;replace r1:=r1.keep hb4';have hown4:=below_own3 hown hb4';replace hbl:=hbl.tr hb4';have hs4:=hbl.size;have hcell:=(hnew 22 _ _ _ rfl (by decide)).2;clear c0 c1 c2 d0 d1 d2 s0 s4 s5 hTr hgr0 hWT hSC hb4 hb4' hown hsz;simp only [puts,List.foldl,Act.put,List.setIfInBounds_toArray,List.set_cons_zero,List.set_cons_succ]
      refine last_do2 23 24 hfuel (by kernel_rfl) (by kernel_rfl) (by kernel_rfl) rfl rfl rfl rfl
        (does_append_ow _ _ 204 rfl w.heap.size 97 i0 (.agg #[int u64 0]) 1 8 underlying204 hi hz0 hz1 hz2 rfl (by decide) u5 j ((WS j).map (Value.int .u64)) rfl hown4 ⟨f 22,0,none⟩ 1 1 [int u64 z] rfl rfl (World.news_of_block (cs:=#[int u64 z]) hcell) (by simp [Value.oneCell']) (by decide) (by unfold maxLen;omega) (by omega) hs4) ?_
      rintro v w' ⟨g3,cap3,rfl,hown5,hgr⟩;refine does_value (execS_assign rfl) ?_;have R1:w'.ownsRow w.heap.size 97 1 (.slice (some ⟨g3,0,none⟩) (j+1) cap3) (j+1) ((WS (j+1)).map (Value.int .u64)):=by rw [hnx,List.map_append];exact hown5
      have R2:Bl w w':=hbl.grown hgr hs4 (fun r hr=>(hown4.lt r hr).1)
      have R3':B6 w' w.heap.size (ctxB k) (px b) (py b) (pb b) (some ⟨g1,0,none⟩) n k1 (some ⟨g2,0,none⟩) n k2:=by
        exact(hgr.block w.heap.size r1.lt (fun e=>own_ne hown4 r1 (by decide) e.symm)).trans r1
      clear hown5 hgr hnew hcell hown4 hbl r1;simp only [Act.put,List.setIfInBounds_toArray];go_wp2;go_roundw
      case rel=>
        first
          |exact ⟨j+1,by omega,by go_num,R1,R3',fun _ _=>trivial,R2⟩
          |((repeat apply Exists.intro);exact⟨⟨j+1,by omega,by go_num,R1,R3',fun _ _=>trivial,R2⟩,rfl⟩)
      case measure=>simp [intOf];omega
    · obtain rfl:j=n:=by omega
      obtain⟨g,cap,rfl⟩:∃g cap,u5= .slice (some ⟨g,0,none⟩) j cap:=by
        rcases hown.2 with ⟨_,h0⟩|⟨g,cap,cur,hv,-⟩
        · omega
        · exact⟨g,cap,hv⟩
      go_wp2;go_ret;exact⟨g,cap,rfl,hown,hbl⟩
theorem sumW_any (ws:List Int)(gw nw cw:Nat)(ps:List Pt)(n gp cp:Nat)(w:World)(hn:n≤200)(hwl:n≤nw)(hws:∀i,i<n→0≤lk ws i∧lk ws i<18446744073709551616)
    (hgw:gw<w.heap.size)(hwc:∀i,i<n→w.cell? ⟨gw,i,none⟩=some (int u64 (lk ws i)))(hl:ps.length=n)(hon:∀p∈ps,on p)(hp:Cps w gp ps):
    Cr 124 #[.slice (some ⟨gw,0,none⟩) nw cw,.slice (some ⟨gp,0,none⟩) n cp] w (.agg #[int u64 (px (mixTo ws ps n)),int u64 (py (mixTo ws ps n)),.bool (pb (mixTo ws ps n))]):=by
  obtain⟨MX,hMX⟩:∃MX,Hid (MX=mixTo ws ps):=⟨_,rfl⟩;rw [←hMX.out]
  have hst:Hid (∀j,j<n→∃(p:Pt) (k:Nat),ps[j]? =some p∧on p∧k<18446744073709551616∧lk ws j=(k:Int)∧MX (j+1)=ad (MX j) (nt k p)∧on (MX j)):=fun j hj=>by
    obtain⟨p,hp⟩:∃p,ps[j]? =some p:=⟨_,List.getElem?_eq_getElem (by omega)⟩;have h1:=hws j hj;refine⟨p,(lk ws j).toNat,hp,hon p (List.mem_of_getElem? hp),by omega,by omega,?_,?_⟩
    · rw [hMX.out,mixTo];have e1:ps.getD j none=p:=by rw [List.getD_eq_getElem?_getD,hp];rfl
      rw [e1]
    · rw [hMX.out];exact mixTo_on hon j
  have hM0:MX 0=none:=by rw [hMX.out];rfl
  have hwc':Hid (∀i,i<n→w.cell? ⟨gw,i,none⟩=some (int u64 (lk ws i))):=hwc;clear hMX hws hwc hon;have r4:=K3.new w 86 0 0 false;have b4:=balc w (Obj.cells #[int u64 0,int u64 0,.bool false] 86);have TN:=triV none;rw [ptW_eq] at TN;change∀w,Calls _ _ #[.agg #[int u64 0,int u64 0,.bool true]] _ _ at TN;go_enter func124,ntmps124;go_wp2_with fail;refine(zpP _).mono ?_;rintro e w1 ⟨rfl,b1⟩;replace r4:=r4.keep b1;replace b4:=b4.tr b1;clear b1;go_wp2_with fail;refine(TN _).mono ?_;rintro e w2 ⟨rfl,b2⟩;replace r4:=(r4.keep b2).alloc (Obj.cells #[int u64 (fv (pX none)),int u64 (fv (pY none)),int u64 (fv (pZ none))] 186);replace b4:=b4.tr b2;have hs2:=b4.size;replace b4:=b4.alloc b4.size (Obj.cells #[int u64 (fv (pX none)),int u64 (fv (pY none)),int u64 (fv (pZ none))] 186);have t5:=T3.new w2 (fv (pX none)) (fv (pY none)) (fv (pZ none));have hne:w.heap.size≠w2.heap.size:=by have h1:=r4.lt;have h2:=b2.size;simp at h1;intro h;have:=r4;unfold K3 at this;rw [h,heap_alloc_new] at this;cases this
  clear TN b2;go_wp2;generalize w2.heap.size=B5 at*
  go_loopw [12] (fun iv wr=>∃(j:Nat) (q:Pt) (X Y Z:Fp),j≤n∧iv= .int .i64 (j:Int)∧Hid (q=MX j)∧Hid (rep X Y Z q)∧T3 wr B5 (fv X) (fv Y) (fv Z)∧K3 wr 86 w.heap.size 0 0 false∧Bl w wr) (fun i _=>n-(intOf i).toNat)
  case atStart=>exact ⟨0,none,pX none,pY none,pZ none,by omega,rfl,hM0.symm,rep_self none,t5,r4,b4⟩
  case round=>
    clear t5 r4 b4 hM0;obtain⟨j,q,X,Y,Z,hj,rfl,hq,hrep,t5,r4,hbl⟩:=hrel;by_cases hlt:j<n
    · have hli:(j:Int)<(n:Int):=by omega
      obtain⟨p,k,hpj,hop,hk,hlk,hnx,hoq⟩:=hst.out j hlt;rw [←hq.out] at hnx hoq;have pp:=hp.below hbl hp.lt;have c0:=pp.c0 j p hpj;have c1:=pp.c1 j p hpj;have c2:=pp.c2 j p hpj;rw [Nat.zero_add] at c0 c1 c2;have hr:=trB_rep (t:=(pX p,pY p,pZ p)) hop (rep_self p) (bitsF k (Lib.bitLen k) (Lib.bitLen k));rw [valB_all k (by omega)] at hr;have K1:=triV p;rw [ptW_eq] at K1;have K2:=fun w=>mulP (pX p) (pY p) (pZ p) k w hk _ rfl
      obtain⟨T,hT⟩:∃T,T=trB (pX p,pY p,pZ p) (bitsF k (Lib.bitLen k) (Lib.bitLen k)):=⟨_,rfl⟩;rw [←hT] at hr K2;obtain⟨tX,tY,tZ⟩:=T;have K3':=trV X Y Z tX tY tZ
      have hrn:Hid (rep (cX X Y Z tX tY tZ) (cY X Y Z tX tY tZ) (cZ X Y Z tX tY tZ) (MX (j+1))):=by
        simp only [Hid];rw [hnx];exact rep_c hoq (nt_on hop k) hrep.out hr
      dsimp only at K2;generalize cX X Y Z tX tY tZ=NX at*;generalize cY X Y Z tX tY tZ=NY at*;generalize cZ X Y Z tX tY tZ=NZ at*;have a0:=hwc'.out j hlt;rw [hlk] at a0;replace a0:=(hbl.cell (p:=⟨gw,j,none⟩) hgw).trans a0;have hgw':gw<wr.heap.size:=Nat.lt_of_lt_of_le hgw hbl.size;clear hT hr hrep hq hnx hoq hpj pp hlk hop;go_wp2;have hal:=balc wr (Obj.cells #[int u64 (px p),int u64 (py p),.bool (pb p)] 86);have rp:=K3.new wr 86 (px p) (py p) (pb p);replace a0:=(hal.cell (p:=⟨gw,j,none⟩) hgw').trans a0;replace t5:=t5.alloc (Obj.cells #[int u64 (px p),int u64 (py p),.bool (pb p)] 86);replace r4:=r4.alloc (Obj.cells #[int u64 (px p),int u64 (py p),.bool (pb p)] 86);replace hbl:=hbl.tr hal;clear c0 c1 c2 hal;generalize wr.alloc (Obj.cells #[int u64 (px p),int u64 (py p),.bool (pb p)] 86)=W3 at*;generalize wr.heap.size=B7 at*;have w0:W3.drew.cell? ⟨gw,0+j,none⟩=some (int u64 (k:Int)):=by rw [Nat.zero_add];exact a0
      have c0:W3.drew.cell? ⟨B7,0,none⟩=_:=rp.c0;have c1:W3.drew.cell? ⟨B7,1,none⟩=_:=rp.c1;have c2:W3.drew.cell? ⟨B7,2,none⟩=_:=rp.c2;have d0:W3.drew.cell? ⟨B5,0,none⟩=_:=t5.c0;have d1:W3.drew.cell? ⟨B5,1,none⟩=_:=t5.c1;have d2:W3.drew.cell? ⟨B5,2,none⟩=_:=t5.c2
      refine pool_prT 10 [.val (.agg #[int u64 (fv X),int u64 (fv Y),int u64 (fv Z)]),
          .val (.agg #[int u64 (px p),int u64 (py p),.bool (pb p)]),
          .val (.agg #[int u64 (fv (pX p)),int u64 (fv (pY p)),int u64 (fv (pZ p))]),
          .val (.slice (some ⟨gw,0,none⟩) nw cw),
          .val (.int .i64 (j:Int)),
          .val (.pointer (some ⟨gw,0+j,none⟩)),
          .val (.pointer (some ⟨gw,0+j,none⟩)),
          .val (int u64 (k:Int)),
          .val (.agg #[int u64 (fv tX),int u64 (fv tY),int u64 (fv tZ)]),
          .val (.agg #[int u64 (fv NX),int u64 (fv NY),int u64 (fv NZ)])] [[5],[7],[18],[0],[6],[20,21],[22],[23],[19,24],[17,25]] (fun f=> [(some 17,.agg #[int u64 (fv X),int u64 (fv Y),int u64 (fv Z)]),(some 18,.agg #[int u64 (px p),int u64 (py p),.bool (pb p)]),(some 19,.agg #[int u64 (fv (pX p)),int u64 (fv (pY p)),int u64 (fv (pZ p))]),(some 20,.slice (some ⟨gw,0,none⟩) nw cw),(some 21,.int .i64 (j:Int)),(some 22,.pointer (some ⟨gw,0+j,none⟩)),(some 23,.pointer (some ⟨gw,0+j,none⟩)),(some 24,int u64 (k:Int)),(some 25,.agg #[int u64 (fv tX),int u64 (fv tY),int u64 (fv tZ)]),(some 26,.agg #[int u64 (fv NX),int u64 (fv NY),int u64 (fv NZ)])]) (by kernel_rfl) (by kernel_rfl) (by kernel_rfl) (by kernel_rfl) (by decide) (by kernel_rfl) (fun _=>by kernel_rfl) ?_ ?_
      · intro ix hix
        match ix,hix with
        |0,_=>exact obv [(5,.pointer (some ⟨B5,0,none⟩))] rfl rfl (fun A w ⟨e0,_⟩ hB=>ld_tr e0 (keepC d0 hB) (keepC d1 hB) (keepC d2 hB))
        |1,_=>exact obv [(7,.pointer (some ⟨B7,0,none⟩))] rfl rfl (fun A w ⟨e0,_⟩ hB=>ld_cp e0 (keepC c0 hB) (keepC c1 hB) (keepC c2 hB))
        |2,_=>exact obv [(18,.agg #[int u64 (px p),int u64 (py p),.bool (pb p)])] rfl rfl (fun A w ⟨e0,_⟩ hB=>cl1 cf_impl_curvePoint_triple e0 (K1 w))
        |3,_=>exact obv [(0,.slice (some ⟨gw,0,none⟩) nw cw)] rfl rfl (fun A w ⟨e0,_⟩ hB=>doV_move e0)
        |4,_=>exact obv [(6,.int .i64 (j:Int))] rfl rfl (fun A w ⟨e0,_⟩ hB=>doV_move e0)
        |5,_=>exact obv [(20,.slice (some ⟨gw,0,none⟩) nw cw),(21,.int .i64 (j:Int))] rfl rfl (fun A w ⟨e0,e1,_⟩ hB=>ix_nNs e0 e1 (by omega))
        |6,_=>exact obv [(22,.pointer (some ⟨gw,0+j,none⟩))] rfl rfl (fun A w ⟨e0,_⟩ hB=>fa_nN1 e0)
        |7,_=>exact obv [(23,.pointer (some ⟨gw,0+j,none⟩))] rfl rfl (fun A w ⟨e0,_⟩ hB=>ld_u64 e0 (keepC w0 hB))
        |8,_=>exact obv [(19,.agg #[int u64 (fv (pX p)),int u64 (fv (pY p)),int u64 (fv (pZ p))]),(24,int u64 (k:Int))] rfl rfl (fun A w ⟨e0,e1,_⟩ hB=>cl2 cf_impl_triple_multiple e0 e1 (K2 w))
        |9,_=>exact obv [(17,.agg #[int u64 (fv X),int u64 (fv Y),int u64 (fv Z)]),(25,.agg #[int u64 (fv tX),int u64 (fv tY),int u64 (fv tZ)])] rfl rfl (fun A w ⟨e0,e1,_⟩ hB=>cl2 cf_impl_triple_plus e0 e1 (K3' w))
        |ix+10,h=>exact absurd h (by simp)
      intro f W4 hb4 _ fuel hfuel;have hb4':Bl W3 W4:=(Below.refl _ W3).drew.trans hb4;replace t5:=t5.keep hb4';replace r4:=r4.keep hb4';replace hbl:=hbl.tr hb4';simp only [puts,List.foldl,Act.put,List.setIfInBounds_toArray,List.set_cons_zero,List.set_cons_succ];refine last_do1 10 hfuel (by kernel_rfl) (by kernel_rfl) rfl rfl ?_;refine fun Q K hK=>st_tr (z0:=fv NX) (z1:=fv NY) (z2:=fv NZ) rfl rfl t5 Q K (fun v w' e=>hK v w' ?_)
      subst e;have R1:=t5.set (fv NX) (fv NY) (fv NZ)
      have R2:K3 (setT W4 B5 (fv NX) (fv NY) (fv NZ)) 86 w.heap.size 0 0 false:=by
        unfold K3 setT;rw [setCell_heap3 _ _ _ _ _ hne,setCell_heap3 _ _ _ _ _ hne,setCell_heap3 _ _ _ _ _ hne];exact r4
      have R3':Bl w (setT W4 B5 (fv NX) (fv NY) (fv NZ)):=setT_below hbl hs2;change Bl w (((W4.setCell _ _).setCell _ _).setCell _ _) at R3';change T3 (((W4.setCell _ _).setCell _ _).setCell _ _) _ _ _ _ at R1;change K3 (((W4.setCell _ _).setCell _ _).setCell _ _) _ _ _ _ _ at R2;clear c0 c1 c2 d0 d1 d2 a0 w0 K1 K2 K3' hb4 hb4' t5 r4 hbl rp;generalize ((W4.setCell _ _).setCell _ _).setCell _ _=W5 at*;go_wp2;go_roundw
      case rel=>
        first
          |exact ⟨j+1,MX (j+1),NX,NY,NZ,by omega,by go_num,rfl,hrn,R1,R2,R3'⟩
          |((repeat apply Exists.intro);exact⟨⟨j+1,MX (j+1),NX,NY,NZ,by omega,by go_num,rfl,hrn,R1,R2,R3'⟩,rfl⟩)
      case measure=>simp [intOf];omega
    · obtain rfl:j=n:=by omega
      have hq':=hq.out;subst hq';have P:=pntV hrep.out;rw [ptW_eq] at P;have c0:=t5.c0;have c1:=t5.c1;have c2:=t5.c2;clear hrep hst;go_wp2_with fail;refine(P _).mono ?_;rintro e w6 ⟨rfl,b6⟩;replace r4:=r4.keep b6;replace hbl:=hbl.tr b6;clear c0 c1 c2 P;have d0:=r4.c0;have d1:=r4.c1;have d2:=r4.c2;have f0:=r4.frz;go_wp2;exact bodyPost_ret (v:= .agg #[int u64 (px (MX j)),int u64 (py (MX j)),.bool (pb (MX j))]) (cp_res (fn:=Tryz.f124) (p:=4) results124 _ rfl (r4.set (px (MX j)) (py (MX j)) (pb (MX j)))) rfl ⟨rfl,set3_below hbl (Nat.le_refl _)⟩
end
end Go.Proofs.YtjmhmajfkdglnabGreatDoor
