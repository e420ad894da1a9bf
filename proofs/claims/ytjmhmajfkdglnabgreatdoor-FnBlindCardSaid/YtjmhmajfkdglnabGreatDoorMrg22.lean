import Derived.Test.YtjmhmajfkdglnabGreatDoorMrg21
set_option linter.unusedVariables false
set_option maxRecDepth 100000
set_option maxHeartbeats 16000000
namespace Go.Proofs.YtjmhmajfkdglnabGreatDoor
open Go.Proofs.Tryz Go.RowKit
open Go.Value (int)
open Go.IntKind (u64)
section
open M
theorem mapB_of (U a0 a b z s0 s s2 t za iz x g1 y1 x2 g2 y2 n1 n2:Int)(fd fd2 od:Bool)(w:World)
    (K_a0:CalN 121 #[int u64 3,.agg #[]] a0)
    (K_a:CalN 163 #[.agg #[int u64 a0]] a)
    (K_b:CalN 121 #[int u64 111,.agg #[]] b)
    (K_z:CalN 121 #[int u64 2305843009213693949,.agg #[]] z)
    (K_s0:CalN 88 #[.agg #[int u64 z],.agg #[int u64 U]] s0)
    (K_s:CalN 88 #[.agg #[int u64 s0],.agg #[int u64 U]] s)
    (K_s2:CalN 88 #[.agg #[int u64 s],.agg #[int u64 s]] s2)
    (K_t:CalN 122 #[.agg #[int u64 s2],.agg #[int u64 s]] t)
    (K_za:CalN 88 #[.agg #[int u64 z],.agg #[int u64 a]] za)
    (K_iz:CalN 152 #[.agg #[int u64 za]] iz)
    (K_x:CalN 88 #[.agg #[int u64 b],.agg #[int u64 iz]] x)
    (ht:(t==0)=true)(hU:0≤U)(ho:(U%2==1)=od)
    (C1:CalN 89 #[.agg #[int u64 x]] g1)
    (E1:∀w:World,Cr 171 #[.agg #[int u64 g1]] w (.tuple #[.agg #[int u64 y1],.bool fd]))
    (K_x2:CalN 88 #[.agg #[int u64 s],.agg #[int u64 x]] x2)
    (C2:CalN 89 #[.agg #[int u64 x2]] g2)
    (E2:∀w:World,Cr 171 #[.agg #[int u64 g2]] w (.tuple #[.agg #[int u64 y2],.bool fd2]))
    (N1:CalN 163 #[.agg #[int u64 y1]] n1)(N2:CalN 163 #[.agg #[int u64 y2]] n2):
    Cr 150 #[.agg #[int u64 U]] w (.agg #[int u64 (if fd then x else x2),int u64 (if od then (if fd then n1 else n2) else (if fd then y1 else y2)),.bool false]):=by
  obtain⟨X,hX⟩:∃X,X=((w.alloc (Obj.cells #[int u64 U] 158)).alloc (Obj.cells #[int u64 0,int u64 0,.bool false] 86)).alloc (Obj.cells #[] 156):=⟨_,rfl⟩;have hu:R1 X w.heap.size U:=by rw [hX];exact((R1.new w U).alloc _).alloc _
  have hk:K3 X 86 (w.heap.size+1) 0 0 false:=by rw [hX];exact((K3.new _ _ 0 0 false).at (by simp)).alloc _
  have hb:Bl w X:=by rw [hX];exact(((Below.refl _ w).alloc (Nat.le_refl _) _).alloc (by simp) _).alloc (by simp;omega) _
  rw [hX] at hu hk hb;clear hX;go_enter func150,ntmps150;go_wp2;refine wp_scope_hops 3 ?_;go_wp2
  refine pool_list [.val (.agg #[]),
    .val (.agg #[int u64 a0]),
    .val (.agg #[int u64 a]),
    .val (.agg #[]),
    .val (.agg #[int u64 b]),
    .val (.agg #[]),
    .val (.agg #[int u64 z]),
    .new (.cells #[int u64 0] 158) (.cells #[int u64 a] 158) 10,
    .new (.cells #[int u64 0] 158) (.cells #[int u64 b] 158) 11,
    .new (.cells #[int u64 0] 158) (.cells #[int u64 z] 158) 12,
    .put 7,
    .put 8,
    .put 9] [[3],[13],[14],[3],[16],[3],[18],[],[],[],[4,15],[5,17],[6,19]] (fun f=> [(some 13,.agg #[]),(some 14,.agg #[int u64 a0]),(some 15,.agg #[int u64 a]),(some 16,.agg #[]),(some 17,.agg #[int u64 b]),(some 18,.agg #[]),(some 19,.agg #[int u64 z]),(some 4,.pointer (some ⟨f 7,0,none⟩)),(some 5,.pointer (some ⟨f 8,0,none⟩)),(some 6,.pointer (some ⟨f 9,0,none⟩)),(none,undef),(none,undef),(none,undef)]) (by kernel_rfl) (by kernel_rfl) (by kernel_rfl) (by kernel_rfl) (fun _=>by kernel_rfl) ?_ ?_
  · intro ix hix
    match ix,hix with
    |0,_=>exact obv [(3,.pointer (some ⟨w.heap.size+1+1,0,none⟩))] rfl rfl (fun A w ⟨e0,_⟩ hB=>do_load0 e0)
    |1,_=>exact obv [(13,.agg #[])] rfl rfl (fun A w ⟨e0,_⟩ hB=>do_call2 cf_reduced rfl e0 (K_a0 w))
    |2,_=>exact obv [(14,.agg #[int u64 a0])] rfl rfl (fun A w ⟨e0,_⟩ hB=>do_call1 cf_negative e0 (K_a w))
    |3,_=>exact obv [(3,.pointer (some ⟨w.heap.size+1+1,0,none⟩))] rfl rfl (fun A w ⟨e0,_⟩ hB=>do_load0 e0)
    |4,_=>exact obv [(16,.agg #[])] rfl rfl (fun A w ⟨e0,_⟩ hB=>do_call2 cf_reduced rfl e0 (K_b w))
    |5,_=>exact obv [(3,.pointer (some ⟨w.heap.size+1+1,0,none⟩))] rfl rfl (fun A w ⟨e0,_⟩ hB=>do_load0 e0)
    |6,_=>exact obv [(18,.agg #[])] rfl rfl (fun A w ⟨e0,_⟩ hB=>do_call2 cf_reduced rfl e0 (K_z w))
    |7,_=>exact ob_new rfl rfl (fun A w=>do_new)
    |8,_=>exact ob_new rfl rfl (fun A w=>do_new)
    |9,_=>exact ob_new rfl rfl (fun A w=>do_new)
    |10,_=>exact ob_put 4 (fun f=> [(4,.pointer (some ⟨f 7,0,none⟩)),(15,.agg #[int u64 a])]) rfl rfl rfl (by decide) (by kernel_rfl) rfl (fun _=>by kernel_rfl) (fun f A w ⟨e0,e1,_⟩ hr=>do_put e0 e1 hr)
    |11,_=>exact ob_put 5 (fun f=> [(5,.pointer (some ⟨f 8,0,none⟩)),(17,.agg #[int u64 b])]) rfl rfl rfl (by decide) (by kernel_rfl) rfl (fun _=>by kernel_rfl) (fun f A w ⟨e0,e1,_⟩ hr=>do_put e0 e1 hr)
    |12,_=>exact ob_put 6 (fun f=> [(6,.pointer (some ⟨f 9,0,none⟩)),(19,.agg #[int u64 z])]) rfl rfl rfl (by decide) (by kernel_rfl) rfl (fun _=>by kernel_rfl) (fun f A w ⟨e0,e1,_⟩ hr=>do_put e0 e1 hr)
    |ix+13,h=>exact absurd h (by simp)
  intro f w2 hB hN hne;have n4:=(hN 7 _ _ _ rfl (by simp)).2;rw [if_pos (by simp)] at n4;have n5:=(hN 8 _ _ _ rfl (by simp)).2;rw [if_pos (by simp)] at n5;have n6:=(hN 9 _ _ _ rfl (by simp)).2;rw [if_pos (by simp)] at n6;replace hu:=(hu.drew).keep hB;replace hk:=(hk.drew).keep hB;replace hb:=keepB hb.drew hb.size hB;clear hN hB hne;generalize f 7=q4 at*;replace n4:R1 w2 q4 a:=n4;generalize f 8=q5 at*;replace n5:R1 w2 q5 b:=n5;generalize f 9=q6 at*;replace n6:R1 w2 q6 z:=n6;simp only [puts,List.foldl,Act.put,List.setIfInBounds_toArray,List.set_cons_zero,List.set_cons_succ];go_wp2
  refine pool_list [.val (.agg #[int u64 z]),
    .val (.agg #[int u64 U]),
    .val (.agg #[int u64 s0]),
    .val (.agg #[int u64 U]),
    .val (.agg #[int u64 s]),
    .new (.cells #[int u64 0] 158) (.cells #[int u64 s] 158) 6,
    .put 5] [[6],[1],[20,21],[1],[22,23],[],[7,24]] (fun f=> [(some 20,.agg #[int u64 z]),(some 21,.agg #[int u64 U]),(some 22,.agg #[int u64 s0]),(some 23,.agg #[int u64 U]),(some 24,.agg #[int u64 s]),(some 7,.pointer (some ⟨f 5,0,none⟩)),(none,undef)]) (by kernel_rfl) (by kernel_rfl) (by kernel_rfl) (by kernel_rfl) (fun _=>by kernel_rfl) ?_ ?_
  · intro ix hix
    match ix,hix with
    |0,_=>exact obv [(6,.pointer (some ⟨q6,0,none⟩))] rfl rfl (fun A w ⟨e0,_⟩ hB=>do_loadN e0 n6.drew hB)
    |1,_=>exact obv [(1,.pointer (some ⟨w.heap.size,0,none⟩))] rfl rfl (fun A w ⟨e0,_⟩ hB=>do_loadN e0 hu.drew hB)
    |2,_=>exact obv [(20,.agg #[int u64 z]),(21,.agg #[int u64 U])] rfl rfl (fun A w ⟨e0,e1,_⟩ hB=>do_call2 cf_times e0 e1 (K_s0 w))
    |3,_=>exact obv [(1,.pointer (some ⟨w.heap.size,0,none⟩))] rfl rfl (fun A w ⟨e0,_⟩ hB=>do_loadN e0 hu.drew hB)
    |4,_=>exact obv [(22,.agg #[int u64 s0]),(23,.agg #[int u64 U])] rfl rfl (fun A w ⟨e0,e1,_⟩ hB=>do_call2 cf_times e0 e1 (K_s w))
    |5,_=>exact ob_new rfl rfl (fun A w=>do_new)
    |6,_=>exact ob_put 7 (fun f=> [(7,.pointer (some ⟨f 5,0,none⟩)),(24,.agg #[int u64 s])]) rfl rfl rfl (by decide) (by kernel_rfl) rfl (fun _=>by kernel_rfl) (fun f A w ⟨e0,e1,_⟩ hr=>do_put e0 e1 hr)
    |ix+7,h=>exact absurd h (by simp)
  intro f w3 hB hN hne;have n7:=(hN 5 _ _ _ rfl (by simp)).2;rw [if_pos (by simp)] at n7;replace hu:=(hu.drew).keep hB;replace hk:=(hk.drew).keep hB;replace n4:=(n4.drew).keep hB;replace n5:=(n5.drew).keep hB;replace n6:=(n6.drew).keep hB;replace hb:=keepB hb.drew hb.size hB;clear hN hB hne;generalize f 5=q7 at*;replace n7:R1 w3 q7 s:=n7;simp only [puts,List.foldl,Act.put,List.setIfInBounds_toArray,List.set_cons_zero,List.set_cons_succ];go_wp2
  refine pool_list [.val (.agg #[int u64 s]),
    .val (.agg #[int u64 s]),
    .val (.agg #[int u64 s2]),
    .val (.agg #[int u64 s]),
    .val (.agg #[int u64 t]),
    .new (.cells #[int u64 0] 158) (.cells #[int u64 t] 158) 6,
    .put 5] [[7],[7],[25,26],[7],[27,28],[],[8,29]] (fun f=> [(some 25,.agg #[int u64 s]),(some 26,.agg #[int u64 s]),(some 27,.agg #[int u64 s2]),(some 28,.agg #[int u64 s]),(some 29,.agg #[int u64 t]),(some 8,.pointer (some ⟨f 5,0,none⟩)),(none,undef)]) (by kernel_rfl) (by kernel_rfl) (by kernel_rfl) (by kernel_rfl) (fun _=>by kernel_rfl) ?_ ?_
  · intro ix hix
    match ix,hix with
    |0,_=>exact obv [(7,.pointer (some ⟨q7,0,none⟩))] rfl rfl (fun A w ⟨e0,_⟩ hB=>do_loadN e0 n7.drew hB)
    |1,_=>exact obv [(7,.pointer (some ⟨q7,0,none⟩))] rfl rfl (fun A w ⟨e0,_⟩ hB=>do_loadN e0 n7.drew hB)
    |2,_=>exact obv [(25,.agg #[int u64 s]),(26,.agg #[int u64 s])] rfl rfl (fun A w ⟨e0,e1,_⟩ hB=>do_call2 cf_times e0 e1 (K_s2 w))
    |3,_=>exact obv [(7,.pointer (some ⟨q7,0,none⟩))] rfl rfl (fun A w ⟨e0,_⟩ hB=>do_loadN e0 n7.drew hB)
    |4,_=>exact obv [(27,.agg #[int u64 s2]),(28,.agg #[int u64 s])] rfl rfl (fun A w ⟨e0,e1,_⟩ hB=>do_call2 cf_plus e0 e1 (K_t w))
    |5,_=>exact ob_new rfl rfl (fun A w=>do_new)
    |6,_=>exact ob_put 8 (fun f=> [(8,.pointer (some ⟨f 5,0,none⟩)),(29,.agg #[int u64 t])]) rfl rfl rfl (by decide) (by kernel_rfl) rfl (fun _=>by kernel_rfl) (fun f A w ⟨e0,e1,_⟩ hr=>do_put e0 e1 hr)
    |ix+7,h=>exact absurd h (by simp)
  intro f w4 hB hN hne;have n8:=(hN 5 _ _ _ rfl (by simp)).2;rw [if_pos (by simp)] at n8;replace hu:=(hu.drew).keep hB;replace hk:=(hk.drew).keep hB;replace n4:=(n4.drew).keep hB;replace n5:=(n5.drew).keep hB;replace n6:=(n6.drew).keep hB;replace n7:=(n7.drew).keep hB;replace hb:=keepB hb.drew hb.size hB;clear hN hB hne;generalize f 5=q8 at*;replace n8:R1 w4 q8 t:=n8;simp only [puts,List.foldl,Act.put,List.setIfInBounds_toArray,List.set_cons_zero,List.set_cons_succ];have c8:=n8.cell;have l2:=hk.lt;have l7:=n7.lt;obtain⟨Y,hY⟩:∃Y,Y=(w4.alloc (Obj.cells #[int u64 0] 158)).alloc (Obj.cells #[int u64 0] 158):=⟨_,rfl⟩;replace hu:=(hu.alloc (Obj.cells #[int u64 0] 158)).alloc (Obj.cells #[int u64 0] 158);replace hk:=(hk.alloc (Obj.cells #[int u64 0] 158)).alloc (Obj.cells #[int u64 0] 158);replace n4:=(n4.alloc (Obj.cells #[int u64 0] 158)).alloc (Obj.cells #[int u64 0] 158);replace n5:=(n5.alloc (Obj.cells #[int u64 0] 158)).alloc (Obj.cells #[int u64 0] 158);replace n6:=(n6.alloc (Obj.cells #[int u64 0] 158)).alloc (Obj.cells #[int u64 0] 158);replace n7:=(n7.alloc (Obj.cells #[int u64 0] 158)).alloc (Obj.cells #[int u64 0] 158);replace n8:=(n8.alloc (Obj.cells #[int u64 0] 158)).alloc (Obj.cells #[int u64 0] 158);have n9:R1 Y w4.heap.size 0:=by rw [hY];exact(R1.new w4 0).alloc _
  have n10:R1 Y (w4.heap.size+1) 0:=by rw [hY];exact(R1.new _ 0).at (by simp)
  rw [hY] at n9 n10;clear hY;replace hb:=(hb.alloc hb.size (Obj.cells #[int u64 0] 158)).alloc (by have:=hb.size;simp;omega) (Obj.cells #[int u64 0] 158);have c8':=n8.cell;go_wp2
  go_step3
  refine hops_goto rfl ?_;go_wp2
  refine pool_tail [.val (.agg #[int u64 b]),
    .val (.agg #[int u64 z]),
    .val (.agg #[int u64 a]),
    .val (.agg #[int u64 za]),
    .val (.agg #[int u64 iz]),
    .val (.agg #[int u64 x]),
    .val undef] [[5],[6],[4],[45,46],[47],[44,48],[9,49]] (fun f=> [(some 44,.agg #[int u64 b]),(some 45,.agg #[int u64 z]),(some 46,.agg #[int u64 a]),(some 47,.agg #[int u64 za]),(some 48,.agg #[int u64 iz]),(some 49,.agg #[int u64 x])]) (fun f=> [(9,.pointer (some ⟨w4.heap.size,0,none⟩)),(49,.agg #[int u64 x])]) (by kernel_rfl) (by kernel_rfl) (by kernel_rfl) (by kernel_rfl) (by kernel_rfl) (fun _=>by kernel_rfl) ?_ rfl (fun _=>by kernel_rfl) ?_
  · intro ix hix
    match ix,hix with
    |0,_=>exact obv [(5,.pointer (some ⟨q5,0,none⟩))] rfl rfl (fun A w ⟨e0,_⟩ hB=>do_loadN e0 n5.drew hB)
    |1,_=>exact obv [(6,.pointer (some ⟨q6,0,none⟩))] rfl rfl (fun A w ⟨e0,_⟩ hB=>do_loadN e0 n6.drew hB)
    |2,_=>exact obv [(4,.pointer (some ⟨q4,0,none⟩))] rfl rfl (fun A w ⟨e0,_⟩ hB=>do_loadN e0 n4.drew hB)
    |3,_=>exact obv [(45,.agg #[int u64 z]),(46,.agg #[int u64 a])] rfl rfl (fun A w ⟨e0,e1,_⟩ hB=>do_call2 cf_times e0 e1 (K_za w))
    |4,_=>exact obv [(47,.agg #[int u64 za])] rfl rfl (fun A w ⟨e0,_⟩ hB=>do_call1 cf_inverse e0 (K_iz w))
    |5,_=>exact obv [(44,.agg #[int u64 b]),(48,.agg #[int u64 iz])] rfl rfl (fun A w ⟨e0,e1,_⟩ hB=>do_call2 cf_times e0 e1 (K_x w))
    |ix+6,h=>exact absurd h (by simp)
  rintro f A w8 ⟨e0,e1,_⟩ hB _;replace hu:=(hu.drew).keep hB;replace hk:=(hk.drew).keep hB;replace n4:=(n4.drew).keep hB;replace n5:=(n5.drew).keep hB;replace n6:=(n6.drew).keep hB;replace n7:=(n7.drew).keep hB;replace n8:=(n8.drew).keep hB;replace n9:=(n9.drew).keep hB;replace n10:=(n10.drew).keep hB;replace hb:=keepB hb.drew hb.size hB;refine does_skip (exec_store e0 e1 n9) ?_;clear e0 e1 hB;have hu9:=hu.other (b':=w4.heap.size) (by omega) 0 (int u64 x);have hk9:=hk.oth (b':=w4.heap.size) (by omega) 0 (int u64 x);have n79:=n7.other (b':=w4.heap.size) (by omega) 0 (int u64 x);have n99:=n9.set x;have n109:=n10.other (b':=w4.heap.size) (by omega) 0 (int u64 x);have hb9:=hb.setCell (p:=⟨w4.heap.size,0,none⟩) (by simp;omega) (int u64 x);generalize hW9:w8.setCell (⟨w4.heap.size,0,none⟩:Addr) (int u64 x)=W9 at*;clear hW9 n9 n10 n7 hu hk hb n4 n5 n6 n8 c8 c8';generalize w4.heap.size=q9 at*;simp only [puts,List.foldl,Act.put,List.setIfInBounds_toArray,List.set_cons_zero,List.set_cons_succ];have c9:=n99.cell;go_wp2
  go_step3
  go_wp2_with fail;refine(C1 _).mono ?_;rintro e w10 ⟨rfl,b10⟩;clear c9;replace hu9:=hu9.keep b10;replace hk9:=hk9.keep b10;replace n79:=n79.keep b10;replace n99:=n99.keep b10;replace n109:=n109.keep b10;replace hb9:=keepB hb9 hb9.size b10;clear b10;go_wp2_with fail;refine(E1 _).mono ?_;rintro e w11 ⟨rfl,b11⟩;replace hu9:=hu9.keep b11;replace hk9:=hk9.keep b11;replace n79:=n79.keep b11;replace n99:=n99.keep b11;replace n109:=n109.keep b11;replace hb9:=keepB hb9 hb9.size b11;clear b11;have g10:=n109.cell;have h10:=n109.frz;have ho':(U.tmod 2==1)=od:=by rw [←ho,Int.tmod_eq_emod_of_nonneg hU]
  have hu10:=hu9.other (b':=q9+1) (by omega) 0 (int u64 y1);have hk10:=hk9.oth (b':=q9+1) (by omega) 0 (int u64 y1);have n710:=n79.other (b':=q9+1) (by omega) 0 (int u64 y1);have n910:=n99.other (b':=q9+1) (by omega) 0 (int u64 y1);have n1010:=n109.set y1;have hb10:=hb9.setCell (p:=⟨q9+1,0,none⟩) (by simp;omega) (int u64 y1);clear hu9 hk9 n79 n99 n109 hb9;have cu:=hu10.cell;have c7:=n710.cell;have c9:=n910.cell;have f9:=n910.frz;have c10':=n1010.cell;have f10':=n1010.frz;have k0:=hk10.c0;have k1:=hk10.c1;have k2:=hk10.c2;have kf:=hk10.frz;have c10:=c10';have f10:=f10';clear c10' f10'
  cases fd with
  | true=>
    go_wp2
    go_step3
    refine hops_goto rfl ?_
    cases od with
    | true=>
      go_wp2_with fail;refine(N1 _).mono ?_;rintro e w20 ⟨rfl,b20⟩;clear cu c7 c9 f9 c10 f10 k0 k1 k2 kf;replace hu10:=hu10.keep b20;replace hk10:=hk10.keep b20;replace n710:=n710.keep b20;replace n910:=n910.keep b20;replace n1010:=n1010.keep b20;replace hb10:=keepB hb10 hb10.size b20;clear b20;have g10:=n1010.cell;have h10:=n1010.frz;replace hu10:=hu10.other (b':=q9+1) (by omega) 0 (int u64 n1);replace hk10:=hk10.oth (b':=q9+1) (by omega) 0 (int u64 n1);replace n710:=n710.other (b':=q9+1) (by omega) 0 (int u64 n1);replace n910:=n910.other (b':=q9+1) (by omega) 0 (int u64 n1);replace n1010:=n1010.set n1;replace hb10:=hb10.setCell (p:=⟨q9+1,0,none⟩) (by simp;omega) (int u64 n1);have cu:=hu10.cell;have c7:=n710.cell;have c9:=n910.cell;have f9:=n910.frz;have c10:=n1010.cell;have f10:=n1010.frz;have k0:=hk10.c0;have k1:=hk10.c1;have k2:=hk10.c2;have kf:=hk10.frz;go_wp2
      first|rw [hops_ret]|skip
      exact bodyPost_ret (v:= .agg #[int u64 x,int u64 n1,.bool false]) (cp_res (fn:=Tryz.f150) (p:=2) results150 _ rfl (hk10.set x n1 false)) rfl ⟨rfl,set3_below hb10 (by omega)⟩
    | false=>
      go_wp2
      first|rw [hops_ret]|skip
      exact bodyPost_ret (v:= .agg #[int u64 x,int u64 y1,.bool false]) (cp_res (fn:=Tryz.f150) (p:=2) results150 _ rfl (hk10.set x y1 false)) rfl ⟨rfl,set3_below hb10 (by omega)⟩
  | false=>
    go_wp2_with fail;refine(K_x2 _).mono ?_;rintro e w12 ⟨rfl,b12⟩;clear cu c7 c9 f9 c10 f10 k0 k1 k2 kf;replace hu10:=hu10.keep b12;replace hk10:=hk10.keep b12;replace n710:=n710.keep b12;replace n910:=n910.keep b12;replace n1010:=n1010.keep b12;replace hb10:=keepB hb10 hb10.size b12;clear b12;have g9:=n910.cell;have h9:=n910.frz;replace hu10:=hu10.other (b':=q9) (by omega) 0 (int u64 x2);replace hk10:=hk10.oth (b':=q9) (by omega) 0 (int u64 x2);replace n710:=n710.other (b':=q9) (by omega) 0 (int u64 x2);replace n910:=n910.set x2;replace n1010:=n1010.other (b':=q9) (by omega) 0 (int u64 x2);replace hb10:=hb10.setCell (p:=⟨q9,0,none⟩) (by simp;omega) (int u64 x2);have c9:=n910.cell;go_wp2_with fail;refine(C2 _).mono ?_;rintro e w13 ⟨rfl,b13⟩;clear c9 g9 h9;replace hu10:=hu10.keep b13;replace hk10:=hk10.keep b13;replace n710:=n710.keep b13;replace n910:=n910.keep b13;replace n1010:=n1010.keep b13;replace hb10:=keepB hb10 hb10.size b13;clear b13;go_wp2_with fail;refine(E2 _).mono ?_;rintro e w14 ⟨rfl,b14⟩;replace hu10:=hu10.keep b14;replace hk10:=hk10.keep b14;replace n710:=n710.keep b14;replace n910:=n910.keep b14;replace n1010:=n1010.keep b14;replace hb10:=keepB hb10 hb10.size b14;clear b14;have g10:=n1010.cell;have h10:=n1010.frz;replace hu10:=hu10.other (b':=q9+1) (by omega) 0 (int u64 y2);replace hk10:=hk10.oth (b':=q9+1) (by omega) 0 (int u64 y2);replace n710:=n710.other (b':=q9+1) (by omega) 0 (int u64 y2);replace n910:=n910.other (b':=q9+1) (by omega) 0 (int u64 y2);replace n1010:=n1010.set y2;replace hb10:=hb10.setCell (p:=⟨q9+1,0,none⟩) (by simp;omega) (int u64 y2);have cu:=hu10.cell;have c7:=n710.cell;have c9:=n910.cell;have f9:=n910.frz;have c10:=n1010.cell;have f10:=n1010.frz;have k0:=hk10.c0;have k1:=hk10.c1;have k2:=hk10.c2;have kf:=hk10.frz;go_wp2
    go_step3
    cases od with
    | true=>
      go_wp2_with fail;refine(N2 _).mono ?_;rintro e w20 ⟨rfl,b20⟩;clear cu c7 c9 f9 c10 f10 k0 k1 k2 kf;replace hu10:=hu10.keep b20;replace hk10:=hk10.keep b20;replace n710:=n710.keep b20;replace n910:=n910.keep b20;replace n1010:=n1010.keep b20;replace hb10:=keepB hb10 hb10.size b20;clear b20;have g10:=n1010.cell;have h10:=n1010.frz;replace hu10:=hu10.other (b':=q9+1) (by omega) 0 (int u64 n2);replace hk10:=hk10.oth (b':=q9+1) (by omega) 0 (int u64 n2);replace n710:=n710.other (b':=q9+1) (by omega) 0 (int u64 n2);replace n910:=n910.other (b':=q9+1) (by omega) 0 (int u64 n2);replace n1010:=n1010.set n2;replace hb10:=hb10.setCell (p:=⟨q9+1,0,none⟩) (by simp;omega) (int u64 n2);have cu:=hu10.cell;have c7:=n710.cell;have c9:=n910.cell;have f9:=n910.frz;have c10:=n1010.cell;have f10:=n1010.frz;have k0:=hk10.c0;have k1:=hk10.c1;have k2:=hk10.c2;have kf:=hk10.frz;go_wp2
      first|rw [hops_ret]|skip
      exact bodyPost_ret (v:= .agg #[int u64 x2,int u64 n2,.bool false]) (cp_res (fn:=Tryz.f150) (p:=2) results150 _ rfl (hk10.set x2 n2 false)) rfl ⟨rfl,set3_below hb10 (by omega)⟩
    | false=>
      go_wp2
      first|rw [hops_ret]|skip
      exact bodyPost_ret (v:= .agg #[int u64 x2,int u64 y2,.bool false]) (cp_res (fn:=Tryz.f150) (p:=2) results150 _ rfl (hk10.set x2 y2 false)) rfl ⟨rfl,set3_below hb10 (by omega)⟩
theorem mapS_of (V U u2 s s2 t za iz x0 ia m1 it p1 x1 x g1 y1 x2 g2 y2 n1 n2:Int)(fd fd2 od tz:Bool)(w:World)
    (hV:V.tmod 2305843009213693951=U)(hU:0≤U)(ho:(U%2==1)=od)(ht:(t==0)=tz)(hx:x=if tz then x0 else x1)
    (hn1:(2305843009213693951-y1)%2305843009213693951=n1)(hn2:(2305843009213693951-y2)%2305843009213693951=n2)(hy1:0≤y1)(hy1':y1<2305843009213693951)(hy2:0≤y2)(hy2':y2<2305843009213693951)
    (L1:∀w,Calls prog 57 #[int u64 U,int u64 U] w fun e w'=>e= .returned (int u64 u2)∧w=w')
    (L2:∀w,Calls prog 57 #[int u64 2305843009213693949,int u64 u2] w fun e w'=>e= .returned (int u64 s)∧w=w')
    (L3:∀w,Calls prog 57 #[int u64 s,int u64 s] w fun e w'=>e= .returned (int u64 s2)∧w=w')
    (L4:∀w,Calls prog 60 #[int u64 s2,int u64 s,int u64 2305843009213693951] w fun e w'=>e= .returned (int u64 t)∧w=w')
    (L5:∀w,Calls prog 57 #[int u64 2305843009213693949,int u64 2305843009213693948] w fun e w'=>e= .returned (int u64 za)∧w=w')
    (L6:∀w,Calls prog 47 #[int u64 za,int u64 2305843009213693951] w fun e w'=>e= .returned (int u64 iz)∧w=w')
    (L7:∀w,Calls prog 57 #[int u64 111,int u64 iz] w fun e w'=>e= .returned (int u64 x0)∧w=w')
    (L8:∀w,Calls prog 47 #[int u64 2305843009213693948,int u64 2305843009213693951] w fun e w'=>e= .returned (int u64 ia)∧w=w')
    (L9:∀w,Calls prog 57 #[int u64 2305843009213693840,int u64 ia] w fun e w'=>e= .returned (int u64 m1)∧w=w')
    (L10:∀w,Calls prog 47 #[int u64 t,int u64 2305843009213693951] w fun e w'=>e= .returned (int u64 it)∧w=w')
    (L11:∀w,Calls prog 60 #[int u64 1,int u64 it,int u64 2305843009213693951] w fun e w'=>e= .returned (int u64 p1)∧w=w')
    (L12:∀w,Calls prog 57 #[int u64 m1,int u64 p1] w fun e w'=>e= .returned (int u64 x1)∧w=w')
    (L13:∀w,Calls prog 57 #[int u64 s,int u64 x] w fun e w'=>e= .returned (int u64 x2)∧w=w')
    (R1:∀w,Calls prog 58 #[int u64 x] w fun e w'=>e= .returned (int u64 g1)∧w=w')
    (R2:∀w,Calls prog 58 #[int u64 x2] w fun e w'=>e= .returned (int u64 g2)∧w=w')
    (Q1:∀w,Calls prog 129 #[int u64 g1] w fun e w'=>e= .returned (.tuple #[int u64 y1,.bool fd])∧w=w')
    (Q2:∀w,Calls prog 129 #[int u64 g2] w fun e w'=>e= .returned (.tuple #[int u64 y2,.bool fd2])∧w=w'):
    Cr 97 #[int u64 V] w (.agg #[int u64 (if fd then x else x2),int u64 (if od then (if fd then n1 else n2) else (if fd then y1 else y2)),.bool false]):=by
  have z1:0≤2305843009213693951-y1:=by omega
  have z2:2305843009213693951-y1<18446744073709551616:=by omega
  have z3:0≤2305843009213693951-y2:=by omega
  have z4:2305843009213693951-y2<18446744073709551616:=by omega
  go_enter func97,ntmps97;go_wp2_with fail;refine(L1 _).mono ?_;rintro e w' ⟨rfl,rfl⟩;go_wp2_with fail;refine(L2 _).mono ?_;rintro e w' ⟨rfl,rfl⟩;go_wp2_with fail;refine(L3 _).mono ?_;rintro e w' ⟨rfl,rfl⟩;go_wp2_with fail;refine(L4 _).mono ?_;rintro e w' ⟨rfl,rfl⟩;go_wp2_with fail;refine(L5 _).mono ?_;rintro e w' ⟨rfl,rfl⟩;go_wp2_with fail;refine(L6 _).mono ?_;rintro e w' ⟨rfl,rfl⟩;go_wp2_with fail;refine(L7 _).mono ?_;rintro e w' ⟨rfl,rfl⟩;clear L1 L2 L3 L4 L5 L6 L7
  cases tz with
  | true=>
    simp only [if_true] at hx;subst hx;go_wp2_with fail;refine(R1 _).mono ?_;rintro e w' ⟨rfl,rfl⟩;go_wp2_with fail;refine(Q1 _).mono ?_;rintro e w' ⟨rfl,rfl⟩
    cases fd with
    | true=>
      cases od with
      | true=>
        go_wp2;exact bodyPost_ret (by simp [results,results97,go_sem]) rfl ⟨rfl,(Below.refl _ _).alloc (Nat.le_refl _) _⟩
      | false=>
        go_wp2;exact bodyPost_ret (by simp [results,results97,go_sem]) rfl ⟨rfl,(Below.refl _ _).alloc (Nat.le_refl _) _⟩
    | false=>
      go_wp2_with fail;refine(L13 _).mono ?_;rintro e w' ⟨rfl,rfl⟩;go_wp2_with fail;refine(R2 _).mono ?_;rintro e w' ⟨rfl,rfl⟩;go_wp2_with fail;refine(Q2 _).mono ?_;rintro e w' ⟨rfl,rfl⟩
      cases od with
      | true=>
        go_wp2;exact bodyPost_ret (by simp [results,results97,go_sem]) rfl ⟨rfl,(Below.refl _ _).alloc (Nat.le_refl _) _⟩
      | false=>
        go_wp2;exact bodyPost_ret (by simp [results,results97,go_sem]) rfl ⟨rfl,(Below.refl _ _).alloc (Nat.le_refl _) _⟩
  | false=>
    simp only [if_false,Bool.false_eq_true] at hx;subst hx;go_wp2_with fail;refine(L8 _).mono ?_;rintro e w' ⟨rfl,rfl⟩;go_wp2_with fail;refine(L9 _).mono ?_;rintro e w' ⟨rfl,rfl⟩;go_wp2_with fail;refine(L10 _).mono ?_;rintro e w' ⟨rfl,rfl⟩;go_wp2_with fail;refine(L11 _).mono ?_;rintro e w' ⟨rfl,rfl⟩;go_wp2_with fail;refine(L12 _).mono ?_;rintro e w' ⟨rfl,rfl⟩;go_wp2_with fail;refine(R1 _).mono ?_;rintro e w' ⟨rfl,rfl⟩;go_wp2_with fail;refine(Q1 _).mono ?_;rintro e w' ⟨rfl,rfl⟩
    cases fd with
    | true=>
      cases od with
      | true=>
        go_wp2;exact bodyPost_ret (by simp [results,results97,go_sem]) rfl ⟨rfl,(Below.refl _ _).alloc (Nat.le_refl _) _⟩
      | false=>
        go_wp2;exact bodyPost_ret (by simp [results,results97,go_sem]) rfl ⟨rfl,(Below.refl _ _).alloc (Nat.le_refl _) _⟩
    | false=>
      go_wp2_with fail;refine(L13 _).mono ?_;rintro e w' ⟨rfl,rfl⟩;go_wp2_with fail;refine(R2 _).mono ?_;rintro e w' ⟨rfl,rfl⟩;go_wp2_with fail;refine(Q2 _).mono ?_;rintro e w' ⟨rfl,rfl⟩
      cases od with
      | true=>
        go_wp2;exact bodyPost_ret (by simp [results,results97,go_sem]) rfl ⟨rfl,(Below.refl _ _).alloc (Nat.le_refl _) _⟩
      | false=>
        go_wp2;exact bodyPost_ret (by simp [results,results97,go_sem]) rfl ⟨rfl,(Below.refl _ _).alloc (Nat.le_refl _) _⟩
theorem rt_ex (x:Fp):∃rb:Fp×Bool,
    (∀w,Calls prog 129 #[int u64 (fv x)] w fun e w'=>e= .returned (.tuple #[int u64 (fv rb.1),.bool rb.2])∧w=w')∧
    (Cc 171 #[.agg #[int u64 (fv x)]] (.tuple #[.agg #[int u64 (fv rb.1)],.bool rb.2]))∧
    (rb.2=false→∀y:Fp,y*y≠x)∧(rb.2=true→rb.1*rb.1=x):=by
  obtain⟨r,b,h1,h2,h3,h4,h5⟩:=ev_both x.val (val_lt x);refine⟨(⟨r,h3⟩,b),h1,h2,fun hb y hy=>(h4 hb).2 y.val ?_,fun hb=> ?_⟩
  · rw [←hy,Fin.val_mul]
  · apply Fin.ext;rw [Fin.val_mul];exact(h5 hb).2
noncomputable def rtV (x:Fp):Fp:=(Classical.choose (rt_ex x)).1
noncomputable def rtB (x:Fp):Bool:=(Classical.choose (rt_ex x)).2
theorem rtS (x:Fp)(w:World):Calls prog 129 #[int u64 (fv x)] w fun e w'=>e= .returned (.tuple #[int u64 (fv (rtV x)),.bool (rtB x)])∧w=w':=(Classical.choose_spec (rt_ex x)).1 w
theorem rtI (x:Fp)(w:World):Cr 171 #[.agg #[int u64 (fv x)]] w (.tuple #[.agg #[int u64 (fv (rtV x))],.bool (rtB x)]):=(Classical.choose_spec (rt_ex x)).2.1 w
theorem rt_no (x:Fp)(h:rtB x=false)(y:Fp):y*y≠x:=(Classical.choose_spec (rt_ex x)).2.2.1 h y
theorem rt_yes (x:Fp)(h:rtB x=true):rtV x*rtV x=x:=(Classical.choose_spec (rt_ex x)).2.2.2 h
noncomputable def mXX (u:Fp):Fp:=if rtB (crv (mX u)) then mX u else mS u*mX u
noncomputable def mYY (u:Fp):Fp:=rtV (crv (mXX u))
noncomputable def mYo (u:Fp):Fp:=if (fv u%2==1) then 0-mYY u else mYY u
theorem mXX_sq (u:Fp):mYY u*mYY u=crv (mXX u):=by
  apply rt_yes;unfold mXX
  cases h:rtB (crv (mX u)) with
  |true=>rw [if_pos rfl];exact h
  | false=>
    rw [if_neg (by simp)];rcases has_one u with ⟨y,hy⟩|⟨y,hy⟩
    · exact absurd hy (rt_no _ h y)
    · cases h2:rtB (crv (mS u*mX u)) with
      |true=>rfl
      |false=>exact absurd hy (rt_no _ h2 y)
theorem map_on (u:Fp):on (some (mXX u,mYo u)):=by
  show mYo u*mYo u=crv (mXX u);rw [←mXX_sq];unfold mYo;split
  · grobner
  · rfl
theorem map_ifs (f o:Bool)(x x2 y1 y2:Fp)(X Y:Fp)(hX:X=if f then x else x2)(hY:Y=if o then 0-(if f then y1 else y2) else (if f then y1 else y2)):
    (.agg #[int u64 (if f then fv x else fv x2),int u64 (if o then (if f then fv (0-y1) else fv (0-y2)) else (if f then fv y1 else fv y2)),.bool false]:Value)= .agg #[int u64 (fv X),int u64 (fv Y),.bool false]:=by
  subst hX hY;cases f<;>cases o<;>rfl
theorem map_Y (u:Fp):mYo u=if (fv u%2==1) then 0-(if rtB (crv (mX u)) then rtV (crv (mX u)) else rtV (crv (mS u*mX u))) else (if rtB (crv (mX u)) then rtV (crv (mX u)) else rtV (crv (mS u*mX u))):=by
  unfold mYo mYY mXX;cases rtB (crv (mX u))<;>simp
theorem fv_ng0 (y:Fp):(2305843009213693951-fv y)%2305843009213693951=fv (0-y):=by
  have h:=val_lt y;unfold fv;rw [Fin.val_sub];show _=(((2305843009213693951-y.val+0)%2305843009213693951:Nat):Int);omega
theorem n111:(0-111:Fp)=2305843009213693840:=by decide
theorem nm3:(0-3:Fp)=2305843009213693948:=by decide
theorem rdZ (w:World):Cr 121 #[int u64 2305843009213693949,.agg #[]] w (.agg #[int u64 (fv 2305843009213693949)]):=rdV 2305843009213693949 w
theorem mapI_in (u:Fp)(w:World):
    Cr 150 #[.agg #[int u64 (fv u)]] w (.agg #[int u64 (fv (mXX u)),int u64 (fv (mYo u)),.bool false]):=by
  have es:(2305843009213693949:Fp)*u*u=mS u:=by unfold mS;grobner
  have et:mS u*mS u+mS u=mT u:=rfl;rw [←map_ifs (rtB (crv (mX u))) (fv u%2==1) (mX u) (mS u*mX u) (rtV (crv (mX u))) (rtV (crv (mS u*mX u))) (mXX u) (mYo u) rfl (map_Y u)];by_cases ht:mT u=0
  · have ex:(111:Fp)*fi (2305843009213693949*(0-3))=mX u:=by rw [mX,if_pos ht,nm3]
    have h1:=tmV (2305843009213693949*u) u;rw [es] at h1;have h2:=plV (mS u*mS u) (mS u);rw [et] at h2;have h3:=tmV 111 (fi (2305843009213693949*(0-3)));rw [ex] at h3
    exact mapB_of (fv u) (fv 3) (fv (0-3)) (fv 111) (fv 2305843009213693949) (fv (2305843009213693949*u)) (fv (mS u)) (fv (mS u*mS u)) (fv (mT u)) (fv (2305843009213693949*(0-3))) (fv (fi (2305843009213693949*(0-3)))) (fv (mX u))
      (fv (crv (mX u))) (fv (rtV (crv (mX u)))) (fv (mS u*mX u)) (fv (crv (mS u*mX u))) (fv (rtV (crv (mS u*mX u)))) (fv (0-rtV (crv (mX u)))) (fv (0-rtV (crv (mS u*mX u)))) _ _ _ w
      rd3 (ngV 3) rd111 rdZ (tmV 2305843009213693949 u) h1 (tmV (mS u) (mS u)) h2 (tmV 2305843009213693949 (0-3)) (ivV (2305843009213693949*(0-3))) h3
      (by rw [fv_zero];simp [ht]) (fv_ge u) rfl (csqV (mX u)) (rtI (crv (mX u))) (tmV (mS u) (mX u)) (csqV (mS u*mX u)) (rtI (crv (mS u*mX u))) (ngV (rtV (crv (mX u)))) (ngV (rtV (crv (mS u*mX u))))
  · have ex:(fi (mT u)+1)*(0-111)*fi (0-3)=mX u:=by rw [mX,if_neg ht,nm3,n111];grobner
    have h1:=tmV (2305843009213693949*u) u;rw [es] at h1;have h2:=plV (mS u*mS u) (mS u);rw [et] at h2;have h3:=tmV ((fi (mT u)+1)*(0-111)) (fi (0-3));rw [ex] at h3
    exact mapA_of (fv u) (fv 3) (fv (0-3)) (fv 111) (fv 2305843009213693949) (fv (2305843009213693949*u)) (fv (mS u)) (fv (mS u*mS u)) (fv (mT u)) (fv (fi (mT u))) (fv 1) (fv (fi (mT u)+1)) (fv (0-111)) (fv ((fi (mT u)+1)*(0-111))) (fv (fi (0-3))) (fv (mX u))
      (fv (crv (mX u))) (fv (rtV (crv (mX u)))) (fv (mS u*mX u)) (fv (crv (mS u*mX u))) (fv (rtV (crv (mS u*mX u)))) (fv (0-rtV (crv (mX u)))) (fv (0-rtV (crv (mS u*mX u)))) _ _ _ w
      rd3 (ngV 3) rd111 rdZ (tmV 2305843009213693949 u) h1 (tmV (mS u) (mS u)) h2 (ivV (mT u)) rd1 (plV (fi (mT u)) 1) (ngV 111) (tmV (fi (mT u)+1) (0-111)) (ivV (0-3)) h3
      (by rw [fv_zero];simp [ht]) (fv_ge u) rfl (csqV (mX u)) (rtI (crv (mX u))) (tmV (mS u) (mX u)) (csqV (mS u*mX u)) (rtI (crv (mS u*mX u))) (ngV (rtV (crv (mX u)))) (ngV (rtV (crv (mS u*mX u))))
def toF (v:Nat):Fp:=Fin.ofNat _ v
theorem toF_val (v:Nat):((v:Int)).tmod 2305843009213693951=fv (toF v):=by
  rw [Int.tmod_eq_emod_of_nonneg (by omega)];rfl
theorem mapS_any (v:Nat)(w:World):
    Cr 97 #[int u64 v] w (.agg #[int u64 (fv (mXX (toF v))),int u64 (fv (mYo (toF v))),.bool false]):=by
  obtain⟨u,hu⟩:∃u,u=toF v:=⟨_,rfl⟩;have hv:=toF_val v;rw [←hu] at hv⊢;have et:mS u*mS u+mS u=mT u:=rfl;rw [←map_ifs (rtB (crv (mX u))) (fv u%2==1) (mX u) (mS u*mX u) (rtV (crv (mX u))) (rtV (crv (mS u*mX u))) (mXX u) (mYo u) rfl (map_Y u)];have h2:=vadd (mS u*mS u) (mS u);rw [et] at h2
  refine mapS_of v (fv u) (fv (u*u)) (fv (mS u)) (fv (mS u*mS u)) (fv (mT u)) (fv (2305843009213693949*2305843009213693948)) (fv (fi (2305843009213693949*2305843009213693948))) (fv (111*fi (2305843009213693949*2305843009213693948)))
    (fv (fi 2305843009213693948)) (fv (2305843009213693840*fi 2305843009213693948)) (fv (fi (mT u))) (fv (1+fi (mT u))) (fv (2305843009213693840*fi 2305843009213693948*(1+fi (mT u)))) (fv (mX u))
    (fv (crv (mX u))) (fv (rtV (crv (mX u)))) (fv (mS u*mX u)) (fv (crv (mS u*mX u))) (fv (rtV (crv (mS u*mX u)))) (fv (0-rtV (crv (mX u)))) (fv (0-rtV (crv (mS u*mX u)))) _ _ _ (decide (mT u=0)) w
    hv (fv_ge u) rfl (fv_zero _) ?_ (fv_ng0 _) (fv_ng0 _) (fv_ge _) (fv_lt _) (fv_ge _) (fv_lt _)
    (vmul u u) (vmul 2305843009213693949 (u*u)) (vmul (mS u) (mS u)) h2 (vmul 2305843009213693949 2305843009213693948) (vinv (2305843009213693949*2305843009213693948)) (vmul 111 (fi (2305843009213693949*2305843009213693948)))
    (vinv 2305843009213693948) (vmul 2305843009213693840 (fi 2305843009213693948)) (vinv (mT u)) (vadd 1 (fi (mT u))) (vmul (2305843009213693840*fi 2305843009213693948) (1+fi (mT u))) (vmul (mS u) (mX u))
    (rightS (mX u)) (rightS (mS u*mX u)) (rtS (crv (mX u))) (rtS (crv (mS u*mX u)))
  unfold mX;by_cases ht:mT u=0
  · rw [if_pos ht,if_pos (by simp [ht])]
  · rw [if_neg ht,if_neg (by simp [ht])]
end
def preOk (ops:Array Oper)(md:Region.Mode)(m:Nat):Bool:=(List.range ops.size).all fun i=>decide (i<m)||(match ops[i]? with
  |none=>true
  |some o=>(List.range m).all fun j=>o.after.toList.any fun e=>e.on==j&&Region.binds md e)
section
variable {P:Program}{ops:Array Oper}{Q:Exit→Act→World→Prop}{md:Region.Mode}{kind:Nat→Knd}{a0:Act}{uses:Nat→List Nat}
theorem preOk_lt {m i:Nat}(h:preOk ops md m=true){l:Array Bool}(hi:i∈Region.ready md ops l)(hn: ¬ ∀j,j<m→l.getD j false=true):i<m:=by
  obtain⟨h1,-,-,o,ho,hedge⟩:=ready_get hi;by_cases hl:i<m
  · exact hl
  · exfalso;apply hn;intro j hj;unfold preOk at h;rw [List.all_eq_true] at h;have h2:=h i (List.mem_range.2 (Array.getElem?_eq_some_iff.1 ho).1);rw [decide_eq_false hl,Bool.false_or,ho] at h2;simp only [List.all_eq_true] at h2;have h3:=h2 j (List.mem_range.2 hj);rw [List.any_eq_true] at h3;obtain⟨e,he,h4⟩:=h3;rw [Bool.and_eq_true] at h4;have h5:e.on=j:=by simpa using h4.1
    exact h5▸hedge e he h4.2
theorem any_until (m:Nat)(I:Array Bool→Act→World→Prop)
    (stop:∀fuel l a w,I l a w→(∀j,j<m→l.getD j false=true)→l.toList.count false≤fuel→wpAny P md ops Q fuel l a w)
    (stuck:∀l a w,I l a w→(¬ ∀j,j<m→l.getD j false=true)→Region.ready md ops l≠ [])
    (step:∀l a w i,I l a w→(¬ ∀j,j<m→l.getD j false=true)→i∈Region.ready md ops l→wpOp P ops Q i (I (l.setIfInBounds i true)) a w):
    ∀fuel l a w,l.toList.count false≤fuel→I l a w→wpAny P md ops Q fuel l a w:=by
  intro fuel
  induction fuel with
  | zero=>
    intro l a w hc hI;by_cases hm:∀j,j<m→l.getD j false=true
    · exact stop 0 l a w hI hm hc
    · exfalso
      cases hr:Region.ready md ops l with
      |nil=>exact stuck l a w hI hm hr
      | cons i r=>
        obtain⟨h1,h2,-,-⟩:=ready_get (i:=i) (md:=md) (ops:=ops) (l:=l) (by rw [hr];simp)
        have:false∈l.toList:=by
          rw [Array.getD_eq_getD_getElem?,Array.getElem?_eq_getElem h1] at h2;rw [←show l[i]=false from h2];exact Array.mem_toList_iff.2 (Array.getElem_mem h1)
        have:=List.count_pos_iff.2 this;omega
  | succ fuel ih=>
    intro l a w hc hI;by_cases hm:∀j,j<m→l.getD j false=true
    · exact stop _ l a w hI hm hc
    · refine⟨fun hr=>absurd hr (stuck l a w hI hm),fun i hi=> ?_⟩;refine wpOp_mono (fun a w hI'=>ih _ a w ?_ hI') (step l a w i hI hm hi);obtain⟨h1,h2,-,-⟩:=ready_get hi
      have h3:l.toList[i]? =some false:=by
        rw [Array.getD_eq_getD_getElem?] at h2;rw [Array.getElem?_toList,Array.getElem?_eq_getElem h1] at*;simpa using h2
      have:=count_set h3;rw [Array.toList_setIfInBounds];omega
theorem upto_eq {l:Array Bool}{n m:Nat}(hs:l.size=n)(h1:∀j,j<m→l.getD j false=true)(h2:∀j,m≤j→l.getD j false=false):l=upto n m:=by
  apply Array.ext
  · rw [hs];simp [upto]
  · intro i hi _;have h3:l.getD i false=l[i]:=by rw [Array.getD_eq_getD_getElem?,Array.getElem?_eq_getElem hi];rfl
    have h4:(upto n m)[i]=decide (i<m):=by simp [upto]
    rw [h4,←h3];by_cases h:i<m
    · rw [h1 i h,decide_eq_true h]
    · rw [h2 i (by omega),decide_eq_false h]
theorem count_upto (n m:Nat)(h:m≤n):(upto n m).toList.count false=n-m:=by
  have:(upto n m).toList=List.replicate m true++List.replicate (n-m) false:=by
    apply List.ext_getElem
    · simp [upto];omega
    · intro i h1 h2;by_cases hi:i<m
      · simp [upto,hi]
      · simp [upto,hi,List.getElem_append]
  rw [this];simp [List.count_append,List.count_replicate]
theorem pool_pre {id:Nat}{W:World}(m:Nat)(kinds:List Knd)(us:List (List Nat))(dl:(Nat→Nat)→List (Option Tmp×Value))(hm:P.follows .mixedOrders=true)(hok:(okOps ops a0 .any (usesOf us)&&okG ops (kindOf kinds) .any)=true)(hdag:dag ops=true)(hkk:okK kinds ops.size=true)(hmn:decide (m<ops.size)=true)(hpre:preOk ops .any m=true)
    (hdl:∀f,((List.range m).map fun i=>((ops[i]?).bind (·.dst),vl (kindOf kinds) f i))=dl f)
    (hob:∀i,i<m→Ob P ops (kindOf kinds) (usesOf us) a0 W.drew i)
    (fin:∀(f:Nat→Nat) (w:World),Below W.drew.heap.size W.drew w→
      (∀i ob ob' k,kindOf kinds i= .new ob ob' k→i<m→W.drew.heap.size≤f i∧w.heap[f i]? =some (if k<m then ob' else ob))→
      ∀fuel,ops.size-m≤fuel→wpAny P .any ops Q fuel (upto ops.size m) (puts (dl f) a0) w):
    (Code.region id ops true).wp P Q a0 W:=by
  have hmn':=of_decide_eq_true hmn;refine wp_region_any hm ?_;refine any_until m (fun l a w=>(∀j,m≤j→l.getD j false=false)∧PInv .any ops (kindOf kinds) a0 W.drew l a w) ?_ ?_ ?_ _ _ _ _ ?_ ?_
  · rintro fuel l a w ⟨h1,hs,f,rfl,hB,hN,-,-,-⟩ h2 hc;obtain rfl:=upto_eq hs h2 h1;rw [count_upto _ _ (by omega)] at hc;rw [canon_upto (and_l hok) f m (by omega),hdl f];refine fin f w hB (fun i ob ob' k hk hi=> ?_) fuel hc;obtain⟨g1,-,g3⟩:=hN i ob ob' k hk (h2 i hi);refine⟨g1,g3.trans ?_⟩;by_cases hkm:k<m
    · rw [if_pos (h2 k hkm),if_pos hkm]
    · rw [h1 k (by omega),if_neg hkm];rfl
  · rintro l a w ⟨h1,hs,-⟩ hn hr;have:=all_listed hdag l hs hr (m+1) m (by omega) (by omega);rw [h1 m (Nat.le_refl _)] at this;cases this
  · rintro l a w i ⟨h1,hI⟩ hn hi;have him:=preOk_lt hpre hi hn;refine wpOp_mono (fun a w h=>⟨fun j hj=> ?_,h⟩) (pinv_step (and_l hok) (and_r hok) (okK_is hkk) (hob i him) hI hi);obtain⟨hil,-⟩:=ready_get hi;rw [getD_set l i j hil,if_neg (by omega)];exact h1 j hj
  · simp
  · exact⟨fun j _=>by rw [Array.getD_eq_getD_getElem?,Array.getElem?_replicate];split<;>rfl,pinv_start _⟩
theorem op_go {i:Nat}{o:Oper}{a:Act}{w:World}{K:Act→World→Prop}{R:Value→World→Prop}(ho:ops[i]? =some o)(hg:o.guard=none)
    (hd:Does P o a w R)(h:∀v w',R v w'→K (a.put o.dst v) w'):wpOp P ops Q i K a w:=by
  unfold wpOp;simp only [ho];rw [if_pos (by unfold Region.wanted;rw [hg])];exact .inl (hd _ _ h)
theorem last_two {fuel:Nat}{l:Array Bool}{A:Act}{w w1:World}(p q:Nat){op oq:Oper}{vq:Value}(hf:2≤fuel)
    (hr:Region.ready md ops l= [p,q])(hrp:Region.ready md ops (l.setIfInBounds p true)= [q])(hrq:Region.ready md ops (l.setIfInBounds q true)= [p])
    (hpq:Region.ready md ops ((l.setIfInBounds p true).setIfInBounds q true)= [])(hqp:Region.ready md ops ((l.setIfInBounds q true).setIfInBounds p true)= [])
    (hop:ops[p]? =some op)(hgp:op.guard=none)(hdp:op.dst=none)(hoq:ops[q]? =some oq)(hgq:oq.guard=none)(d:Option Tmp)(hdq:oq.dst=d)
    (dp:Does P op A w fun _ w'=>w'=w1)(dp':Does P op (A.put d vq) w fun _ w'=>w'=w1)
    (dq:∀w,Does P oq A w fun v w'=>v=vq∧w'=w)(fin:Q .normal (A.put d vq) w1):wpAny P md ops Q fuel l A w:=by
  subst hdq;obtain⟨n,rfl⟩:∃n,fuel=n+1+1:=⟨fuel-2,by omega⟩
  have done:∀(l:Array Bool),Region.ready md ops l= []→wpAny P md ops Q n l (A.put oq.dst vq) w1:=fun l hl=>by
    cases n with
    |zero=>exact ⟨hl,fin⟩
    |succ n=>exact ⟨fun _=>fin,fun i hi=>by rw [hl] at hi;cases hi⟩
  refine⟨fun h=>(by rw [hr] at h;cases h),fun i hi=> ?_⟩;rw [hr] at hi;rcases List.mem_cons.1 hi with rfl|hi
  · refine op_go hop hgp dp ?_;rintro v w' rfl;rw [hdp];refine⟨fun h=>(by rw [hrp] at h;cases h),fun i hi=> ?_⟩;rw [hrp] at hi;obtain rfl:=List.mem_singleton.1 hi;refine op_go hoq hgq (dq _) ?_;rintro v w' ⟨rfl,rfl⟩;exact done _ hpq
  · obtain rfl:=List.mem_singleton.1 hi;refine op_go hoq hgq (dq _) ?_;rintro v w' ⟨rfl,rfl⟩;refine⟨fun h=>(by rw [hrq] at h;cases h),fun i hi=> ?_⟩;rw [hrq] at hi;obtain rfl:=List.mem_singleton.1 hi;refine op_go hop hgp dp' ?_;rintro v w' rfl;rw [hdp];exact done _ hqp
theorem last_seq {fuel:Nat}{l:Array Bool}{A:Act}{w w1:World}(p q:Nat){op oq:Oper}{vq:Value}(hf:2≤fuel)
    (hr:Region.ready md ops l= [p])(hrp:Region.ready md ops (l.setIfInBounds p true)= [q])
    (hpq:Region.ready md ops ((l.setIfInBounds p true).setIfInBounds q true)= [])
    (hop:ops[p]? =some op)(hgp:op.guard=none)(hdp:op.dst=none)(hoq:ops[q]? =some oq)(hgq:oq.guard=none)(d:Option Tmp)(hdq:oq.dst=d)
    (dp:Does P op A w fun _ w'=>w'=w1)
    (dq:∀w,Does P oq A w fun v w'=>v=vq∧w'=w)(fin:Q .normal (A.put d vq) w1):wpAny P md ops Q fuel l A w:=by
  subst hdq;obtain⟨n,rfl⟩:∃n,fuel=n+1+1:=⟨fuel-2,by omega⟩
  have done:∀(l:Array Bool),Region.ready md ops l= []→wpAny P md ops Q n l (A.put oq.dst vq) w1:=fun l hl=>by
    cases n with
    |zero=>exact ⟨hl,fin⟩
    |succ n=>exact ⟨fun _=>fin,fun i hi=>by rw [hl] at hi;cases hi⟩
  refine⟨fun h=>(by rw [hr] at h;cases h),fun i hi=> ?_⟩;rw [hr] at hi;obtain rfl:=List.mem_singleton.1 hi;refine op_go hop hgp dp ?_;rintro v w' rfl;rw [hdp];refine⟨fun h=>(by rw [hrp] at h;cases h),fun i hi=> ?_⟩;rw [hrp] at hi;obtain rfl:=List.mem_singleton.1 hi;refine op_go hoq hgq (dq _) ?_;rintro v w' ⟨rfl,rfl⟩;exact done _ hpq
end
end Go.Proofs.YtjmhmajfkdglnabGreatDoor
