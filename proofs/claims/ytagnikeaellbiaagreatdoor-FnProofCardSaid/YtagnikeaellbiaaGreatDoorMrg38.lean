import Derived.Test.YtagnikeaellbiaaGreatDoorMrg35
import Derived.Test.YtagnikeaellbiaaGreatDoorMrg37
import Derived.Test.YtagnikeaellbiaaGreatDoorMrg29
import Derived.Test.YtagnikeaellbiaaGreatDoorMrg34
/-
  The walk over laws.FnProof. Written by walks/mkfnp.py.
-/
namespace Go.Proofs.YtagnikeaellbiaaGreatDoor
open Go.RowKit M
set_option linter.unusedVariables false
theorem cut_off (g k : Nat) : ∃ o, (if k = 1 then some (⟨g, 0, none⟩ : Addr) else some ⟨g, 3, none⟩) = some ⟨g, o, none⟩ := by
  by_cases h : k = 1
  · exact ⟨0, by rw [if_pos h]⟩
  · exact ⟨3, by rw [if_neg h]⟩
set_option maxRecDepth 100000 in
set_option maxHeartbeats 16000000 in
theorem prfW_of (Q : World → Nat → Nat → Prop) (md k gx gy qx qy r0 r c s mx my zx zy x8 x9 s2 c2 : Int) (gb qb mb zb ok1 ok2 : Bool) (S : ByteArray) (n l0 cap0 l1 cap1 : Nat) (a0 a1 : Option Addr) (w : World) (hT : TabK w)
    (h0 : ¬ (1048576 : Int) < (l0 : Int)) (h1 : ¬ (1048576 : Int) < (l1 : Int)) (hr : r0.tmod 2305843010818082053 = r) (h9 : 0 ≤ x9)
    (f8 : IntKind.u64.wrap x8 = x8) (fs1 : IntKind.u64.wrap (s + 1) = s + 1) (fs2 : IntKind.u64.wrap (s + 1 + x8) = s + 1 + x8) (fs3 : (s + 1 + x8).tmod 2305843010818082053 = s2)
    (fc1 : IntKind.u64.wrap (c + 1) = c + 1) (fc2 : IntKind.u64.wrap (c + 1 + x8) = c + 1 + x8) (fc3 : (c + 1 + x8).tmod 2305843010818082053 = c2)
    (hQ : ∀ w w' g1 g2, Q w g1 g2 → Below w.heap.size w w' → Q w' g1 g2)
    (BT : ∀ w', Below w.heap.size w w' → Calls Tryz.prog 20 #[.slice a0 l0 cap0] w' fun e w'' => ∃ g1 k1 g2 k2, e = .returned (.tuple #[.int .i64 md, .int .u64 k, .slice (some ⟨g1, 0, none⟩) (n + 1) k1, .slice (some ⟨g2, 0, none⟩) (n + 1) k2]) ∧ (n + 1 ≤ k1 ∧ n + 1 ≤ k2) ∧ Q w'' g1 g2 ∧ Below w'.heap.size w' w'')
    (BP : ∀ w', Calls Tryz.prog 21 #[] w' fun e w'' => e = .returned (.agg #[.int .u64 gx, .int .u64 gy, .bool gb]) ∧ Below w'.heap.size w' w'')
    (TP : ∀ w', Calls Tryz.prog 22 #[.int .u64 k, .agg #[.int .u64 gx, .int .u64 gy, .bool gb]] w' fun e w'' => e = .returned (.agg #[.int .u64 qx, .int .u64 qy, .bool qb]) ∧ Below w'.heap.size w' w'')
    (WW : ∀ w', Below w.heap.size w w' → Calls Tryz.prog 23 #[.slice a1 l1 cap1, .int .i64 0] w' fun e w'' => e = .returned (.int .u64 r0) ∧ Below w'.heap.size w' w'')
    (P9 : ∀ w', Below w.heap.size w w' → Calls Tryz.prog 27 #[.slice a1 l1 cap1, .int .i64 9] w' fun e w'' => e = .returned (.int .i64 x9) ∧ Below w'.heap.size w' w'')
    (P8 : ∀ w', Below w.heap.size w w' → Calls Tryz.prog 27 #[.slice a1 l1 cap1, .int .i64 8] w' fun e w'' => e = .returned (.int .i64 x8) ∧ Below w'.heap.size w' w'')
    (PV : ∀ w' g1 k1 g2 k2, TabK w' → Q w' g1 g2 → Calls Tryz.prog 15 #[.int .i64 md, .int .u64 k, .agg #[.int .u64 gx, .int .u64 gy, .bool gb], .agg #[.int .u64 qx, .int .u64 qy, .bool qb], .slice (some ⟨g1, 0, none⟩) (n + 1) k1, .slice (some ⟨g2, 0, none⟩) (n + 1) k2, .int .u64 r] w' fun e w'' => e = .returned (.tuple #[.agg #[.int .u64 c, .int .u64 s], .bool true]) ∧ Below w'.heap.size w' w'')
    (CK : ∀ w' g1 k1 g2 k2, TabK w' → Q w' g1 g2 → Calls Tryz.prog 19 #[.int .i64 md, .agg #[.int .u64 gx, .int .u64 gy, .bool gb], .agg #[.int .u64 qx, .int .u64 qy, .bool qb], .slice (some ⟨g1, 0, none⟩) (n + 1) k1, .slice (some ⟨g2, 0, none⟩) (n + 1) k2, .agg #[.int .u64 c, .int .u64 s]] w' fun e w'' => e = .returned (.bool true) ∧ Below w'.heap.size w' w'')
    (PP : ∀ w', Calls Tryz.prog 25 #[.agg #[.int .u64 c, .int .u64 s]] w' fun e w'' => e = .returned (.string S) ∧ Below w'.heap.size w' w'')
    (GP : ∀ w', Calls Tryz.prog 24 #[.string S] w' fun e w'' => e = .returned (.tuple #[.agg #[.int .u64 c, .int .u64 s], .bool true]) ∧ Below w'.heap.size w' w'')
    (CI : ∀ w' g1 k1 g2 k2, TabK w' → Q w' g1 g2 → Calls Tryz.prog 11 #[.int .i64 md, .agg #[.int .u64 qx, .int .u64 qy, .bool qb], .slice (some ⟨g1, 0, none⟩) (n + 1) k1, .slice (some ⟨g2, 0, none⟩) (n + 1) k2] w' fun e w'' => e = .returned (.tuple #[.agg #[.int .u64 mx, .int .u64 my, .bool mb], .agg #[.int .u64 zx, .int .u64 zy, .bool zb], .bool true]) ∧ Below w'.heap.size w' w'')
    (CO : ∀ w' g1 k1 g2 k2, Q w' g1 g2 → Calls Tryz.prog 8 #[.int .i64 md, .agg #[.int .u64 qx, .int .u64 qy, .bool qb], .slice (some ⟨g1, 0, none⟩) (n + 1) k1, .slice (some ⟨g2, 0, none⟩) (n + 1) k2] w' fun e w'' => e = .returned (.tuple #[.agg #[.int .u64 mx, .int .u64 my, .bool mb], .agg #[.int .u64 zx, .int .u64 zy, .bool zb], .bool true]) ∧ Below w'.heap.size w' w'')
    (TI : ∀ w', Calls Tryz.prog 26 #[.int .u64 k, .agg #[.int .u64 mx, .int .u64 my, .bool mb]] w' fun e w'' => e = .returned (.agg #[.int .u64 zx, .int .u64 zy, .bool zb]) ∧ Below w'.heap.size w' w'')
    (KA : ∀ w' g1 k1 g2 k2, TabK w' → Q w' g1 g2 → Calls Tryz.prog 19 #[.int .i64 md, .agg #[.int .u64 gx, .int .u64 gy, .bool gb], .agg #[.int .u64 qx, .int .u64 qy, .bool qb], .slice (some ⟨g1, 0, none⟩) (n + 1) k1, .slice (some ⟨g2, 0, none⟩) (n + 1) k2, .agg #[.int .u64 c, .int .u64 s2]] w' fun e w'' => e = .returned (.bool ok1) ∧ Below w'.heap.size w' w'')
    (KB : ∀ w' g1 k1 g2 k2, Q w' g1 g2 → Calls Tryz.prog 17 #[.int .i64 md, .agg #[.int .u64 gx, .int .u64 gy, .bool gb], .agg #[.int .u64 qx, .int .u64 qy, .bool qb], .slice (some ⟨g1, 0, none⟩) (n + 1) k1, .slice (some ⟨g2, 0, none⟩) (n + 1) k2, .agg #[.int .u64 c, .int .u64 s2]] w' fun e w'' => e = .returned (.bool ok1) ∧ Below w'.heap.size w' w'')
    (KC : ∀ w' g1 k1 g2 k2, TabK w' → Q w' g1 g2 → Calls Tryz.prog 19 #[.int .i64 md, .agg #[.int .u64 gx, .int .u64 gy, .bool gb], .agg #[.int .u64 qx, .int .u64 qy, .bool qb], .slice (some ⟨g1, 0, none⟩) (n + 1) k1, .slice (some ⟨g2, 0, none⟩) (n + 1) k2, .agg #[.int .u64 c2, .int .u64 s]] w' fun e w'' => e = .returned (.bool ok2) ∧ Below w'.heap.size w' w'')
    (KD : ∀ w' g1 k1 g2 k2, Q w' g1 g2 → Calls Tryz.prog 17 #[.int .i64 md, .agg #[.int .u64 gx, .int .u64 gy, .bool gb], .agg #[.int .u64 qx, .int .u64 qy, .bool qb], .slice (some ⟨g1, 0, none⟩) (n + 1) k1, .slice (some ⟨g2, 0, none⟩) (n + 1) k2, .agg #[.int .u64 c2, .int .u64 s]] w' fun e w'' => e = .returned (.bool ok2) ∧ Below w'.heap.size w' w'')
    (PU : ∀ w' g1 k1 g2 k2 (o : Nat), (if k1 = 1 then some (⟨g1, 0, none⟩ : Addr) else some ⟨g1, 3, none⟩) = some ⟨g1, o, none⟩ → n + 1 ≤ k1 → TabK w' → Q w' g1 g2 → Calls Tryz.prog 15 #[.int .i64 md, .int .u64 k, .agg #[.int .u64 gx, .int .u64 gy, .bool gb], .agg #[.int .u64 qx, .int .u64 qy, .bool qb], .slice (some ⟨g1, o, none⟩) n (k1 - 1), .slice (some ⟨g2, 0, none⟩) (n + 1) k2, .int .u64 1] w' fun e w'' => e = .returned (.tuple #[.agg #[.int .u64 0, .int .u64 0], .bool false]) ∧ Below w'.heap.size w' w'')
    (CU : ∀ w' g1 k1 g2 k2 (o : Nat), (if k2 = 1 then some (⟨g2, 0, none⟩ : Addr) else some ⟨g2, 3, none⟩) = some ⟨g2, o, none⟩ → n + 1 ≤ k2 → TabK w' → Q w' g1 g2 → Calls Tryz.prog 19 #[.int .i64 md, .agg #[.int .u64 gx, .int .u64 gy, .bool gb], .agg #[.int .u64 qx, .int .u64 qy, .bool qb], .slice (some ⟨g1, 0, none⟩) (n + 1) k1, .slice (some ⟨g2, o, none⟩) n (k2 - 1), .agg #[.int .u64 c, .int .u64 s]] w' fun e w'' => e = .returned (.bool false) ∧ Below w'.heap.size w' w'') :
    Calls Tryz.prog 6 #[.slice a0 l0 cap0, .slice a1 l1 cap1] w fun e w' => e = .returned (.bool true) ∧ Below w.heap.size w w' := by
  have hgw : 3 < w.heap.size := World.block_lt_of_cell? w _ (hT 0 (by omega))
  go_enter Tryz.func6, Tryz.ntmps6
  go_wp2_with fail
  refine (BT _ (Below.refl _ _)).mono ?_
  rintro e w1 ⟨g1, k1, g2, k2, rfl, ⟨hk1, hk2⟩, q1, hb⟩
  go_wp2_with fail
  refine (BT _ hb).mono ?_
  rintro e w2 ⟨g3, k3, g4, k4, rfl, -, q2, b2⟩
  replace q1 := hQ _ _ _ _ q1 b2
  replace hb := hb.trans (b2.mono hb.size)
  clear b2 BT
  go_wp2_with fail
  refine (BP _).mono ?_
  rintro e w3 ⟨rfl, b3⟩
  replace b3 := b3.alloc b3.size (Obj.cells #[.int .u64 gx, .int .u64 gy, .bool gb] 27)
  replace q1 := hQ _ _ _ _ q1 b3
  replace q2 := hQ _ _ _ _ q2 b3
  replace hb := hb.trans (b3.mono hb.size)
  have rg := K3.new w3 27 gx gy gb
  clear b3 BP
  go_wp2_with fail
  refine (TP _).mono ?_
  rintro e w4 ⟨rfl, b4⟩
  replace b4 := b4.alloc b4.size (Obj.cells #[.int .u64 qx, .int .u64 qy, .bool qb] 27)
  replace q1 := hQ _ _ _ _ q1 b4
  replace q2 := hQ _ _ _ _ q2 b4
  replace hb := hb.trans (b4.mono hb.size)
  replace rg := rg.keep b4
  have rq := K3.new w4 27 qx qy qb
  generalize w3.heap.size = BG at *
  clear b4 TP
  go_wp2
  generalize w4.heap.size = BQ at *
  generalize w4.alloc (Obj.cells #[.int .u64 qx, .int .u64 qy, .bool qb] 27) = X at *
  have ag0 : X.drew.cell? ⟨BG, 0, none⟩ = _ := rg.c0
  have ag1 : X.drew.cell? ⟨BG, 1, none⟩ = _ := rg.c1
  have ag2 : X.drew.cell? ⟨BG, 2, none⟩ = _ := rg.c2
  have aq0 : X.drew.cell? ⟨BQ, 0, none⟩ = _ := rq.c0
  have aq1 : X.drew.cell? ⟨BQ, 1, none⟩ = _ := rq.c1
  have aq2 : X.drew.cell? ⟨BQ, 2, none⟩ = _ := rq.c2
  have hbX : ∀ w', Below X.drew.heap.size X.drew w' → Below w.heap.size w w' := fun w' h => hb.drew.trans (h.mono hb.size)
  have hTX : ∀ w', Below X.drew.heap.size X.drew w' → TabK w' := fun w' h => keepT hT hgw (hbX w' h)
  replace q1 := hQ _ X.drew _ _ q1 (Below.refl _ X).drew
  replace q2 := hQ _ X.drew _ _ q2 (Below.refl _ X).drew
  refine G.pool_list (W := X) [] [.val (.int .i64 md),
      .val (.int .u64 k),
      .val (.agg #[.int .u64 gx, .int .u64 gy, .bool gb]),
      .val (.agg #[.int .u64 qx, .int .u64 qy, .bool qb]),
      .val (.slice (some ⟨g1, 0, none⟩) (n + 1) k1),
      .val (.slice (some ⟨g2, 0, none⟩) (n + 1) k2),
      .val (.slice a1 l1 cap1),
      .val (.int .u64 r0),
      .val (.int .u64 r),
      .val (.tuple #[.agg #[.int .u64 c, .int .u64 s], .bool true]),
      .val (.tuple #[.agg #[.int .u64 c, .int .u64 s], .bool true]),
      .val (.agg #[.int .u64 c, .int .u64 s]),
      .val (.bool true),
      .new (.cells #[.int .u64 0, .int .u64 0] 37) (.cells #[.int .u64 c, .int .u64 s] 37) 14,
      .put 13,
      .val (.bool true)] [[5], [6], [13], [14], [7], [8], [1], [61], [62], [55, 56, 57, 58, 59, 60, 63], [64], [54], [54], [], [15, 65], [66]] (fun f => [(some 55, .int .i64 md), (some 56, .int .u64 k), (some 57, .agg #[.int .u64 gx, .int .u64 gy, .bool gb]), (some 58, .agg #[.int .u64 qx, .int .u64 qy, .bool qb]), (some 59, .slice (some ⟨g1, 0, none⟩) (n + 1) k1), (some 60, .slice (some ⟨g2, 0, none⟩) (n + 1) k2), (some 61, .slice a1 l1 cap1), (some 62, .int .u64 r0), (some 63, .int .u64 r), (some 64, .tuple #[.agg #[.int .u64 c, .int .u64 s], .bool true]), (some 54, .tuple #[.agg #[.int .u64 c, .int .u64 s], .bool true]), (some 65, .agg #[.int .u64 c, .int .u64 s]), (some 66, .bool true), (some 15, .pointer (some ⟨f 13, 0, none⟩)), (none, undef), (some 16, .bool true)]) (by kernel_rfl) (by kernel_rfl) (by kernel_rfl) (by kernel_rfl) (fun _ => by kernel_rfl) (G.last_of [.cells #[.int .u64 0, .int .u64 0] 37] (fun F R hm => by simp at hm) (fun ob ob' k hm => by simp at hm; simp [hm]) (fun b ob ob' hm => by simp at hm)) (fun b ob ob' hm => by simp at hm) ?_ ?_
  · intro ix hix
    match ix, hix with
    | 0, _ => exact G.ob_val [(5, .int .i64 md)] rfl rfl (fun _ => by kernel_rfl) (fun A w ⟨e0, _⟩ hB => doV_move e0)
    | 1, _ => exact G.ob_val [(6, .int .u64 k)] rfl rfl (fun _ => by kernel_rfl) (fun A w ⟨e0, _⟩ hB => doV_move e0)
    | 2, _ => exact G.ob_val [(13, .pointer (some ⟨BG, 0, none⟩))] rfl rfl (fun _ => by kernel_rfl) (fun A w ⟨e0, _⟩ hB => ld_pt e0 (hB.cell ag0 (by simp)) (hB.cell ag1 (by simp)) (hB.cell ag2 (by simp)))
    | 3, _ => exact G.ob_val [(14, .pointer (some ⟨BQ, 0, none⟩))] rfl rfl (fun _ => by kernel_rfl) (fun A w ⟨e0, _⟩ hB => ld_pt e0 (hB.cell aq0 (by simp)) (hB.cell aq1 (by simp)) (hB.cell aq2 (by simp)))
    | 4, _ => exact G.ob_val [(7, .slice (some ⟨g1, 0, none⟩) (n + 1) k1)] rfl rfl (fun _ => by kernel_rfl) (fun A w ⟨e0, _⟩ hB => doV_move e0)
    | 5, _ => exact G.ob_val [(8, .slice (some ⟨g2, 0, none⟩) (n + 1) k2)] rfl rfl (fun _ => by kernel_rfl) (fun A w ⟨e0, _⟩ hB => doV_move e0)
    | 6, _ => exact G.ob_val [(1, .slice a1 l1 cap1)] rfl rfl (fun _ => by kernel_rfl) (fun A w ⟨e0, _⟩ hB => doV_move e0)
    | 7, _ => exact G.ob_val [(61, .slice a1 l1 cap1)] rfl rfl (fun _ => by kernel_rfl) (fun A w ⟨e0, _⟩ hB => cl2 cf_laws_wWord e0 rfl (WW w (hbX w hB.below)))
    | 8, _ => exact G.ob_val [(62, .int .u64 r0)] rfl rfl (fun _ => by kernel_rfl) (fun A w ⟨e0, _⟩ hB => Z.rem_u64 e0 rfl (by decide) hr)
    | 9, _ => exact G.ob_val [(55, .int .i64 md), (56, .int .u64 k), (57, .agg #[.int .u64 gx, .int .u64 gy, .bool gb]), (58, .agg #[.int .u64 qx, .int .u64 qy, .bool qb]), (59, .slice (some ⟨g1, 0, none⟩) (n + 1) k1), (60, .slice (some ⟨g2, 0, none⟩) (n + 1) k2), (63, .int .u64 r)] rfl rfl (fun _ => by kernel_rfl) (fun A w ⟨e0, e1, e2, e3, e4, e5, e6, _⟩ hB => cl7 cf_impl_Prove e0 e1 e2 e3 e4 e5 e6 (PV w g1 k1 g2 k2 (hTX w hB.below) (hQ _ _ _ _ q1 hB.below)))
    | 10, _ => exact G.ob_val [(64, .tuple #[.agg #[.int .u64 c, .int .u64 s], .bool true])] rfl rfl (fun _ => by kernel_rfl) (fun A w ⟨e0, _⟩ hB => doV_move e0)
    | 11, _ => exact G.ob_val [(54, .tuple #[.agg #[.int .u64 c, .int .u64 s], .bool true])] rfl rfl (fun _ => by kernel_rfl) (fun A w ⟨e0, _⟩ hB => xt2_0 e0)
    | 12, _ => exact G.ob_val [(54, .tuple #[.agg #[.int .u64 c, .int .u64 s], .bool true])] rfl rfl (fun _ => by kernel_rfl) (fun A w ⟨e0, _⟩ hB => xt2_1 e0)
    | 13, _ => exact G.ob_new rfl rfl (fun A w => al_prf)
    | 14, _ => exact G.ob_put 15 (fun f => [(15, .pointer (some ⟨f 13, 0, none⟩)), (65, .agg #[.int .u64 c, .int .u64 s])]) rfl rfl rfl (by decide) (by kernel_rfl) rfl (fun _ => by kernel_rfl) (fun f A w ⟨e0, e1, _⟩ hr => pu_prf e0 e1 hr)
    | 15, _ => exact G.ob_val [(66, .bool true)] rfl rfl (fun _ => by kernel_rfl) (fun A w ⟨e0, _⟩ hB => doV_assign e0)
    | ix + 16, h => exact absurd h (by simp)
  intro f W1 hS1 hnew _ _ _
  have hb1 := hS1.below
  have hb1' : Below X.heap.size X W1 := (Below.refl _ X).drew.trans hb1
  have rp : P2 W1 37 (f 13) c s := (hnew 13 _ _ _ rfl (by decide)).2
  generalize f 13 = BP at *
  replace rg := rg.keep hb1'
  replace rq := rq.keep hb1'
  replace q1 := hQ _ _ _ _ q1 hb1
  replace q2 := hQ _ _ _ _ q2 hb1
  replace hb := hb.trans (hb1'.mono hb.size)
  clear ag0 ag1 ag2 aq0 aq1 aq2 hb1 hb1' hnew hbX hTX WW PV
  simp only [puts, List.foldl, Act.put, List.setIfInBounds_toArray, List.set_cons_zero, List.set_cons_succ]
  have ag0 := rg.c0
  have ag1 := rg.c1
  have ag2 := rg.c2
  have aq0 := rq.c0
  have aq1 := rq.c1
  have aq2 := rq.c2
  have ap0 := rp.c0
  have ap1 := rp.c1
  go_wp2_with fail
  refine (CK _ _ _ _ _ (keepT hT hgw hb) q1).mono ?_
  rintro e w5 ⟨rfl, b5⟩
  replace rg := rg.keep b5
  replace rq := rq.keep b5
  replace rp := rp.keep b5
  replace q1 := hQ _ _ _ _ q1 b5
  replace q2 := hQ _ _ _ _ q2 b5
  replace hb := hb.trans (b5.mono hb.size)
  clear b5 CK ag0 ag1 ag2 aq0 aq1 aq2 ap0 ap1
  have ap0 := rp.c0
  have ap1 := rp.c1
  go_wp2_with fail
  refine (PP _).mono ?_
  rintro e w6 ⟨rfl, b6⟩
  go_wp2_with fail
  refine (GP _).mono ?_
  rintro e w7 ⟨rfl, b7⟩
  replace b6 := b6.trans (b7.mono b6.size)
  replace b6 := b6.alloc b6.size (Obj.cells #[.int .u64 c, .int .u64 s] 37)
  have rb := P2.new w7 37 c s
  replace rg := rg.keep b6
  replace rq := rq.keep b6
  replace rp := rp.keep b6
  replace q1 := hQ _ _ _ _ q1 b6
  replace q2 := hQ _ _ _ _ q2 b6
  replace hb := hb.trans (b6.mono hb.size)
  clear b6 b7 PP GP ap0 ap1
  have aq0 := rq.c0
  have aq1 := rq.c1
  have aq2 := rq.c2
  go_wp2_with fail
  generalize w7.heap.size = BB at *
  generalize w7.alloc (Obj.cells #[.int .u64 c, .int .u64 s] 37) = X1 at *
  refine (CI _ _ _ _ _ (keepT hT hgw hb) q1).mono ?_
  rintro e w8 ⟨rfl, b8⟩
  replace b8 := (b8.alloc b8.size (Obj.cells #[.int .u64 mx, .int .u64 my, .bool mb] 27)).alloc (by have := b8.size; simp; omega) (Obj.cells #[.int .u64 zx, .int .u64 zy, .bool zb] 27)
  have rm : K3 ((w8.alloc (Obj.cells #[.int .u64 mx, .int .u64 my, .bool mb] 27)).alloc (Obj.cells #[.int .u64 zx, .int .u64 zy, .bool zb] 27)) 27 w8.heap.size mx my mb := (K3.new _ _ _ _ _).alloc _
  have rz : K3 ((w8.alloc (Obj.cells #[.int .u64 mx, .int .u64 my, .bool mb] 27)).alloc (Obj.cells #[.int .u64 zx, .int .u64 zy, .bool zb] 27)) 27 (w8.heap.size + 1) zx zy zb := (K3.new _ _ _ _ _).at (by simp)
  replace rg := rg.keep b8
  replace rq := rq.keep b8
  replace rp := rp.keep b8
  replace rb := rb.keep b8
  replace q1 := hQ _ _ _ _ q1 b8
  replace q2 := hQ _ _ _ _ q2 b8
  replace hb := hb.trans (b8.mono hb.size)
  clear b8 CI aq0 aq1 aq2
  have aq0 := rq.c0
  have aq1 := rq.c1
  have aq2 := rq.c2
  go_wp2_with fail
  generalize (w8.alloc (Obj.cells #[.int .u64 mx, .int .u64 my, .bool mb] 27)).alloc (Obj.cells #[.int .u64 zx, .int .u64 zy, .bool zb] 27) = X8 at *
  generalize w8.heap.size = BM at *
  refine (CO _ _ _ _ _ q2).mono ?_
  rintro e w9 ⟨rfl, b9⟩
  replace b9 := (b9.alloc b9.size (Obj.cells #[.int .u64 mx, .int .u64 my, .bool mb] 27)).alloc (by have := b9.size; simp; omega) (Obj.cells #[.int .u64 zx, .int .u64 zy, .bool zb] 27)
  have rm2 : K3 ((w9.alloc (Obj.cells #[.int .u64 mx, .int .u64 my, .bool mb] 27)).alloc (Obj.cells #[.int .u64 zx, .int .u64 zy, .bool zb] 27)) 27 w9.heap.size mx my mb := (K3.new _ _ _ _ _).alloc _
  have rz2 : K3 ((w9.alloc (Obj.cells #[.int .u64 mx, .int .u64 my, .bool mb] 27)).alloc (Obj.cells #[.int .u64 zx, .int .u64 zy, .bool zb] 27)) 27 (w9.heap.size + 1) zx zy zb := (K3.new _ _ _ _ _).at (by simp)
  replace rg := rg.keep b9
  replace rq := rq.keep b9
  replace rp := rp.keep b9
  replace rb := rb.keep b9
  replace rm := rm.keep b9
  replace rz := rz.keep b9
  replace q1 := hQ _ _ _ _ q1 b9
  replace q2 := hQ _ _ _ _ q2 b9
  replace hb := hb.trans (b9.mono hb.size)
  clear b9 CO aq0 aq1 aq2
  go_wp2
  generalize (w9.alloc (Obj.cells #[.int .u64 mx, .int .u64 my, .bool mb] 27)).alloc (Obj.cells #[.int .u64 zx, .int .u64 zy, .bool zb] 27) = X2 at *
  generalize BM + 1 = BZ at *
  generalize w9.heap.size + 1 = BZ2 at *
  generalize w9.heap.size = BM2 at *
  have ap0 : X2.drew.cell? ⟨BP, 0, none⟩ = _ := rp.c0
  have ap1 : X2.drew.cell? ⟨BP, 1, none⟩ = _ := rp.c1
  have ab0 : X2.drew.cell? ⟨BB, 0, none⟩ = _ := rb.c0
  have ab1 : X2.drew.cell? ⟨BB, 1, none⟩ = _ := rb.c1
  have aBM0 : X2.drew.cell? ⟨BM, 0, none⟩ = _ := rm.c0
  have aBM1 : X2.drew.cell? ⟨BM, 1, none⟩ = _ := rm.c1
  have aBM2 : X2.drew.cell? ⟨BM, 2, none⟩ = _ := rm.c2
  have aBZ0 : X2.drew.cell? ⟨BZ, 0, none⟩ = _ := rz.c0
  have aBZ1 : X2.drew.cell? ⟨BZ, 1, none⟩ = _ := rz.c1
  have aBZ2 : X2.drew.cell? ⟨BZ, 2, none⟩ = _ := rz.c2
  have aBM20 : X2.drew.cell? ⟨BM2, 0, none⟩ = _ := rm2.c0
  have aBM21 : X2.drew.cell? ⟨BM2, 1, none⟩ = _ := rm2.c1
  have aBM22 : X2.drew.cell? ⟨BM2, 2, none⟩ = _ := rm2.c2
  have aBZ20 : X2.drew.cell? ⟨BZ2, 0, none⟩ = _ := rz2.c0
  have aBZ21 : X2.drew.cell? ⟨BZ2, 1, none⟩ = _ := rz2.c1
  have aBZ22 : X2.drew.cell? ⟨BZ2, 2, none⟩ = _ := rz2.c2
  refine G.pool_list (W := X2) [] [.val (.bool true),
      .val (.bool false),
      .val (.bool false),
      .val (.agg #[.int .u64 c, .int .u64 s]),
      .val (.agg #[.int .u64 c, .int .u64 s]),
      .val (.bool false),
      .val (.bool false),
      .val (.bool false),
      .val (.bool true),
      .val (.bool false),
      .val (.bool false),
      .val (.bool false),
      .val (.agg #[.int .u64 mx, .int .u64 my, .bool mb]),
      .val (.agg #[.int .u64 mx, .int .u64 my, .bool mb]),
      .val (.bool false),
      .val (.bool false),
      .val (.bool false),
      .val (.agg #[.int .u64 zx, .int .u64 zy, .bool zb]),
      .val (.agg #[.int .u64 zx, .int .u64 zy, .bool zb]),
      .val (.bool false),
      .val (.bool false),
      .val (.bool false),
      .val (.agg #[.int .u64 zx, .int .u64 zy, .bool zb]),
      .val (.int .u64 k),
      .val (.agg #[.int .u64 mx, .int .u64 my, .bool mb]),
      .val (.agg #[.int .u64 zx, .int .u64 zy, .bool zb]),
      .val (.bool false),
      .val (.bool false)] [[18], [103], [104], [17], [15], [106, 107], [105, 108], [109], [21], [111], [110, 112], [113], [19], [22], [115, 116], [114, 117], [118], [20], [23], [120, 121], [119, 122], [123], [20], [6], [19], [126, 127], [125, 128], [124, 129]] (fun f => [(some 103, .bool true), (some 104, .bool false), (some 105, .bool false), (some 106, .agg #[.int .u64 c, .int .u64 s]), (some 107, .agg #[.int .u64 c, .int .u64 s]), (some 108, .bool false), (some 109, .bool false), (some 110, .bool false), (some 111, .bool true), (some 112, .bool false), (some 113, .bool false), (some 114, .bool false), (some 115, .agg #[.int .u64 mx, .int .u64 my, .bool mb]), (some 116, .agg #[.int .u64 mx, .int .u64 my, .bool mb]), (some 117, .bool false), (some 118, .bool false), (some 119, .bool false), (some 120, .agg #[.int .u64 zx, .int .u64 zy, .bool zb]), (some 121, .agg #[.int .u64 zx, .int .u64 zy, .bool zb]), (some 122, .bool false), (some 123, .bool false), (some 124, .bool false), (some 125, .agg #[.int .u64 zx, .int .u64 zy, .bool zb]), (some 126, .int .u64 k), (some 127, .agg #[.int .u64 mx, .int .u64 my, .bool mb]), (some 128, .agg #[.int .u64 zx, .int .u64 zy, .bool zb]), (some 129, .bool false), (some 130, .bool false)]) (by kernel_rfl) (by kernel_rfl) (by kernel_rfl) (by kernel_rfl) (fun _ => by kernel_rfl) (G.last_of [] (fun F R hm => by simp at hm) (fun ob ob' k hm => by simp at hm) (fun b ob ob' hm => by simp at hm)) (fun b ob ob' hm => by simp at hm) ?_ ?_
  · intro ix hix
    match ix, hix with
    | 0, _ => exact G.ob_val [(18, .bool true)] rfl rfl (fun _ => by kernel_rfl) (fun A w ⟨e0, _⟩ hB => doV_move e0)
    | 1, _ => exact G.ob_val [(103, .bool true)] rfl rfl (fun _ => by kernel_rfl) (fun A w ⟨e0, _⟩ hB => Z.notT e0)
    | 2, _ => exact G.ob_val [(104, .bool false)] rfl rfl (fun _ => by kernel_rfl) (fun A w ⟨e0, _⟩ hB => doV_move e0)
    | 3, _ => exact G.ob_val [(17, .pointer (some ⟨BB, 0, none⟩))] rfl rfl (fun _ => by kernel_rfl) (fun A w ⟨e0, _⟩ hB => ld_prf e0 (hB.cell ab0 (by simp)) (hB.cell ab1 (by simp)))
    | 4, _ => exact G.ob_val [(15, .pointer (some ⟨BP, 0, none⟩))] rfl rfl (fun _ => by kernel_rfl) (fun A w ⟨e0, _⟩ hB => ld_prf e0 (hB.cell ap0 (by simp)) (hB.cell ap1 (by simp)))
    | 5, _ => exact G.ob_val [(106, .agg #[.int .u64 c, .int .u64 s]), (107, .agg #[.int .u64 c, .int .u64 s])] rfl rfl (fun _ => by kernel_rfl) (fun A w ⟨e0, e1, _⟩ hB => Z.ne_prf e0 e1)
    | 6, _ => exact G.ob_val [(105, .bool false), (108, .bool false)] rfl rfl (fun _ => by kernel_rfl) (fun A w ⟨e0, e1, _⟩ hB => Z.pkF e0 e1)
    | 7, _ => exact G.ob_val [(109, .bool false)] rfl rfl (fun _ => by kernel_rfl) (fun A w ⟨e0, _⟩ hB => doV_move e0)
    | 8, _ => exact G.ob_val [(21, .bool true)] rfl rfl (fun _ => by kernel_rfl) (fun A w ⟨e0, _⟩ hB => doV_move e0)
    | 9, _ => exact G.ob_val [(111, .bool true)] rfl rfl (fun _ => by kernel_rfl) (fun A w ⟨e0, _⟩ hB => Z.notT e0)
    | 10, _ => exact G.ob_val [(110, .bool false), (112, .bool false)] rfl rfl (fun _ => by kernel_rfl) (fun A w ⟨e0, e1, _⟩ hB => Z.pkF e0 e1)
    | 11, _ => exact G.ob_val [(113, .bool false)] rfl rfl (fun _ => by kernel_rfl) (fun A w ⟨e0, _⟩ hB => doV_move e0)
    | 12, _ => exact G.ob_val [(19, .pointer (some ⟨BM, 0, none⟩))] rfl rfl (fun _ => by kernel_rfl) (fun A w ⟨e0, _⟩ hB => ld_pt e0 (hB.cell aBM0 (by simp)) (hB.cell aBM1 (by simp)) (hB.cell aBM2 (by simp)))
    | 13, _ => exact G.ob_val [(22, .pointer (some ⟨BM2, 0, none⟩))] rfl rfl (fun _ => by kernel_rfl) (fun A w ⟨e0, _⟩ hB => ld_pt e0 (hB.cell aBM20 (by simp)) (hB.cell aBM21 (by simp)) (hB.cell aBM22 (by simp)))
    | 14, _ => exact G.ob_val [(115, .agg #[.int .u64 mx, .int .u64 my, .bool mb]), (116, .agg #[.int .u64 mx, .int .u64 my, .bool mb])] rfl rfl (fun _ => by kernel_rfl) (fun A w ⟨e0, e1, _⟩ hB => Z.ne_pt e0 e1)
    | 15, _ => exact G.ob_val [(114, .bool false), (117, .bool false)] rfl rfl (fun _ => by kernel_rfl) (fun A w ⟨e0, e1, _⟩ hB => Z.pkF e0 e1)
    | 16, _ => exact G.ob_val [(118, .bool false)] rfl rfl (fun _ => by kernel_rfl) (fun A w ⟨e0, _⟩ hB => doV_move e0)
    | 17, _ => exact G.ob_val [(20, .pointer (some ⟨BZ, 0, none⟩))] rfl rfl (fun _ => by kernel_rfl) (fun A w ⟨e0, _⟩ hB => ld_pt e0 (hB.cell aBZ0 (by simp)) (hB.cell aBZ1 (by simp)) (hB.cell aBZ2 (by simp)))
    | 18, _ => exact G.ob_val [(23, .pointer (some ⟨BZ2, 0, none⟩))] rfl rfl (fun _ => by kernel_rfl) (fun A w ⟨e0, _⟩ hB => ld_pt e0 (hB.cell aBZ20 (by simp)) (hB.cell aBZ21 (by simp)) (hB.cell aBZ22 (by simp)))
    | 19, _ => exact G.ob_val [(120, .agg #[.int .u64 zx, .int .u64 zy, .bool zb]), (121, .agg #[.int .u64 zx, .int .u64 zy, .bool zb])] rfl rfl (fun _ => by kernel_rfl) (fun A w ⟨e0, e1, _⟩ hB => Z.ne_pt e0 e1)
    | 20, _ => exact G.ob_val [(119, .bool false), (122, .bool false)] rfl rfl (fun _ => by kernel_rfl) (fun A w ⟨e0, e1, _⟩ hB => Z.pkF e0 e1)
    | 21, _ => exact G.ob_val [(123, .bool false)] rfl rfl (fun _ => by kernel_rfl) (fun A w ⟨e0, _⟩ hB => doV_move e0)
    | 22, _ => exact G.ob_val [(20, .pointer (some ⟨BZ, 0, none⟩))] rfl rfl (fun _ => by kernel_rfl) (fun A w ⟨e0, _⟩ hB => ld_pt e0 (hB.cell aBZ0 (by simp)) (hB.cell aBZ1 (by simp)) (hB.cell aBZ2 (by simp)))
    | 23, _ => exact G.ob_val [(6, .int .u64 k)] rfl rfl (fun _ => by kernel_rfl) (fun A w ⟨e0, _⟩ hB => doV_move e0)
    | 24, _ => exact G.ob_val [(19, .pointer (some ⟨BM, 0, none⟩))] rfl rfl (fun _ => by kernel_rfl) (fun A w ⟨e0, _⟩ hB => ld_pt e0 (hB.cell aBM0 (by simp)) (hB.cell aBM1 (by simp)) (hB.cell aBM2 (by simp)))
    | 25, _ => exact G.ob_val [(126, .int .u64 k), (127, .agg #[.int .u64 mx, .int .u64 my, .bool mb])] rfl rfl (fun _ => by kernel_rfl) (fun A w ⟨e0, e1, _⟩ hB => cl2 cf_impl_Times e0 e1 (TI w))
    | 26, _ => exact G.ob_val [(125, .agg #[.int .u64 zx, .int .u64 zy, .bool zb]), (128, .agg #[.int .u64 zx, .int .u64 zy, .bool zb])] rfl rfl (fun _ => by kernel_rfl) (fun A w ⟨e0, e1, _⟩ hB => Z.ne_pt e0 e1)
    | 27, _ => exact G.ob_val [(124, .bool false), (129, .bool false)] rfl rfl (fun _ => by kernel_rfl) (fun A w ⟨e0, e1, _⟩ hB => Z.pkF e0 e1)
    | ix + 28, h => exact absurd h (by simp)
  intro f W3 hS3 _ _ _ _
  have hb3 : Below X2.heap.size X2 W3 := (Below.refl _ X2).drew.trans hS3.below
  replace rg := rg.keep hb3
  replace rq := rq.keep hb3
  replace rp := rp.keep hb3
  replace q1 := hQ _ _ _ _ q1 hb3
  replace q2 := hQ _ _ _ _ q2 hb3
  replace hb := hb.trans (hb3.mono hb.size)
  clear ap0 ap1 ab0 ab1 aBM0 aBM1 aBM2 aBZ0 aBZ1 aBZ2 aBM20 aBM21 aBM22 aBZ20 aBZ21 aBZ22 hS3 hb3 TI rb rm rz rm2 rz2
  simp only [puts, List.foldl, Act.put, List.setIfInBounds_toArray, List.set_cons_zero, List.set_cons_succ]
  have ap0 := rp.c0
  have ap1 := rp.c1
  have hD := hb.size
  have b10 := (Below.refl _ W3).alloc (Nat.le_refl _) (Obj.cells #[.int .u64 c, .int .u64 s] 37)
  have rd := P2.new W3 37 c s
  go_wp2_with fail
  refine (P9 _ (hb.trans (b10.mono hD))).mono ?_
  rintro e w10 ⟨rfl, b11⟩
  replace rd := rd.keep b11
  replace b10 := b10.trans (b11.mono b10.size)
  clear b11 P9 ap0 ap1
  have hbX : ∀ w', Below w10.drew.heap.size w10.drew w' → Below w.heap.size w w' := fun w' h => (hb.trans (b10.mono hD)).drew.trans (h.mono (hb.trans (b10.mono hD)).size)
  by_cases hx : x9 % 2 = 0
  · replace hx : (x9 % 2 == 0) = true := by simp [hx]
    go_wp2
    have ad0 : w10.drew.cell? ⟨W3.heap.size, 0, none⟩ = _ := rd.c0
    have ad1 : w10.drew.cell? ⟨W3.heap.size, 1, none⟩ = _ := rd.c1
    refine G.pool_prT (W := w10) [] 9 [.val (.pointer (some ⟨W3.heap.size, 1, none⟩)),
        .val (.int .u64 s),
        .val (.int .u64 (s + 1)),
        .val (.slice a1 l1 cap1),
        .val (.int .i64 x8),
        .val (.int .u64 x8),
        .val (.int .u64 (s + 1 + x8)),
        .val (.int .u64 s2),
        .val (.pointer (some ⟨W3.heap.size, 1, none⟩))] [[25], [136], [137], [1], [139], [140], [138, 141], [142], [25]] (fun f => [(some 136, .pointer (some ⟨W3.heap.size, 1, none⟩)), (some 137, .int .u64 s), (some 138, .int .u64 (s + 1)), (some 139, .slice a1 l1 cap1), (some 140, .int .i64 x8), (some 141, .int .u64 x8), (some 142, .int .u64 (s + 1 + x8)), (some 143, .int .u64 s2), (some 144, .pointer (some ⟨W3.heap.size, 1, none⟩))]) (by kernel_rfl) (by kernel_rfl) (by kernel_rfl) (by kernel_rfl) (by decide) (by kernel_rfl) (fun _ => by kernel_rfl) (G.last_of [] (fun F R hm => by simp at hm) (fun ob ob' k hm => by simp at hm) (fun b ob ob' hm => by simp at hm)) (fun b ob ob' hm => by simp at hm) ?_ ?_
    · intro ix hix
      match ix, hix with
      | 0, _ => exact G.ob_val [(25, .pointer (some ⟨W3.heap.size, 0, none⟩))] rfl rfl (fun _ => by kernel_rfl) (fun A w ⟨e0, _⟩ hB => fa_prf1 e0)
      | 1, _ => exact G.ob_val [(136, .pointer (some ⟨W3.heap.size, 1, none⟩))] rfl rfl (fun _ => by kernel_rfl) (fun A w ⟨e0, _⟩ hB => ld_u64 e0 (hB.cell ad1 (by simp)))
      | 2, _ => exact G.ob_val [(137, .int .u64 s)] rfl rfl (fun _ => by kernel_rfl) (fun A w ⟨e0, _⟩ hB => Z.add_u64 e0 rfl fs1)
      | 3, _ => exact G.ob_val [(1, .slice a1 l1 cap1)] rfl rfl (fun _ => by kernel_rfl) (fun A w ⟨e0, _⟩ hB => doV_move e0)
      | 4, _ => exact G.ob_val [(139, .slice a1 l1 cap1)] rfl rfl (fun _ => by kernel_rfl) (fun A w ⟨e0, _⟩ hB => cl2 cf_laws_wPick e0 rfl (P8 w (hbX w hB.below)))
      | 5, _ => exact G.ob_val [(140, .int .i64 x8)] rfl rfl (fun _ => by kernel_rfl) (fun A w ⟨e0, _⟩ hB => Z.cv_u64 e0 f8)
      | 6, _ => exact G.ob_val [(138, .int .u64 (s + 1)), (141, .int .u64 x8)] rfl rfl (fun _ => by kernel_rfl) (fun A w ⟨e0, e1, _⟩ hB => Z.add_u64 e0 e1 fs2)
      | 7, _ => exact G.ob_val [(142, .int .u64 (s + 1 + x8))] rfl rfl (fun _ => by kernel_rfl) (fun A w ⟨e0, _⟩ hB => Z.rem_u64 e0 rfl (by decide) fs3)
      | 8, _ => exact G.ob_val [(25, .pointer (some ⟨W3.heap.size, 0, none⟩))] rfl rfl (fun _ => by kernel_rfl) (fun A w ⟨e0, _⟩ hB => fa_prf1 e0)
      | ix + 9, h => exact absurd h (by simp)
    intro f W4 hS4 _ _ _ fuel hfuel
    have b4 : Below w10.heap.size w10 W4 := (Below.refl _ w10).drew.trans hS4.below
    replace rd := rd.keep b4
    replace b10 := b10.trans (b4.mono b10.size)
    clear ad0 ad1 hS4 b4 hbX P8
    simp only [puts, List.foldl, Act.put, List.setIfInBounds_toArray, List.set_cons_zero, List.set_cons_succ]
    refine last_do1 9 hfuel (by kernel_rfl) (by kernel_rfl) rfl rfl ?_
    refine fun Q K hK => Z.st_u64 (z := s2) rfl rfl rd.c1 (rd.frz 1) Q K (fun v w' e => hK v w' ?_)
    subst e
    have rd2 : P2 (W4.setCell ⟨W3.heap.size, 1, none⟩ (.int .u64 s2)) 37 W3.heap.size c s2 := by
      unfold P2 at *
      simp [World.setCell, Array.getElem?_modify, rd]
    replace b10 : Below W3.heap.size W3 (W4.setCell ⟨W3.heap.size, 1, none⟩ (.int .u64 s2)) := b10.setCell (p := ⟨W3.heap.size, 1, none⟩) (Nat.le_refl _) _
    clear rd
    generalize W4.setCell ⟨W3.heap.size, 1, none⟩ (.int .u64 s2) = W5 at *

    clear hx fs1 fs2 fs3 fc1 fc2 fc3 f8 hr
    go_wp2
    obtain ⟨o1, ho1⟩ := cut_off g1 k1
    obtain ⟨o2, ho2⟩ := cut_off g2 k2
    have hb5 : Below w.heap.size w W5 := hb.trans (b10.mono hD)
    replace rg := rg.keep b10
    replace rq := rq.keep b10
    replace rp := rp.keep b10
    replace q1 := hQ _ W5.drew _ _ q1 b10.drew
    replace q2 := hQ _ W5.drew _ _ q2 b10.drew
    clear b10 hb hD
    have ag0 : W5.drew.cell? ⟨BG, 0, none⟩ = _ := rg.c0
    have ag1 : W5.drew.cell? ⟨BG, 1, none⟩ = _ := rg.c1
    have ag2 : W5.drew.cell? ⟨BG, 2, none⟩ = _ := rg.c2
    have aq0 : W5.drew.cell? ⟨BQ, 0, none⟩ = _ := rq.c0
    have aq1 : W5.drew.cell? ⟨BQ, 1, none⟩ = _ := rq.c1
    have aq2 : W5.drew.cell? ⟨BQ, 2, none⟩ = _ := rq.c2
    have ad0 : W5.drew.cell? ⟨W3.heap.size, 0, none⟩ = _ := rd2.c0
    have ad1 : W5.drew.cell? ⟨W3.heap.size, 1, none⟩ = _ := rd2.c1
    have hTX : ∀ w', Below W5.drew.heap.size W5.drew w' → TabK w' := fun w' h => keepT hT hgw (hb5.drew.trans (h.mono hb5.size))
    refine G.pool_list (W := W5) [] [.val (.int .i64 md),
        .val (.agg #[.int .u64 gx, .int .u64 gy, .bool gb]),
        .val (.agg #[.int .u64 qx, .int .u64 qy, .bool qb]),
        .val (.slice (some ⟨g1, 0, none⟩) (n + 1) k1),
        .val (.slice (some ⟨g2, 0, none⟩) (n + 1) k2),
        .val (.agg #[.int .u64 c, .int .u64 s2]),
        .val (.bool ok1),
        .val (.int .i64 md),
        .val (.agg #[.int .u64 gx, .int .u64 gy, .bool gb]),
        .val (.agg #[.int .u64 qx, .int .u64 qy, .bool qb]),
        .val (.slice (some ⟨g3, 0, none⟩) (n + 1) k3),
        .val (.slice (some ⟨g4, 0, none⟩) (n + 1) k4),
        .val (.agg #[.int .u64 c, .int .u64 s2]),
        .val (.bool ok1),
        .val (.bool false)] [[5], [13], [14], [7], [8], [25], [154, 155, 156, 157, 158, 159], [9], [13], [14], [11], [12], [25], [161, 162, 163, 164, 165, 166], [160, 167]] (fun f => [(some 154, .int .i64 md), (some 155, .agg #[.int .u64 gx, .int .u64 gy, .bool gb]), (some 156, .agg #[.int .u64 qx, .int .u64 qy, .bool qb]), (some 157, .slice (some ⟨g1, 0, none⟩) (n + 1) k1), (some 158, .slice (some ⟨g2, 0, none⟩) (n + 1) k2), (some 159, .agg #[.int .u64 c, .int .u64 s2]), (some 160, .bool ok1), (some 161, .int .i64 md), (some 162, .agg #[.int .u64 gx, .int .u64 gy, .bool gb]), (some 163, .agg #[.int .u64 qx, .int .u64 qy, .bool qb]), (some 164, .slice (some ⟨g3, 0, none⟩) (n + 1) k3), (some 165, .slice (some ⟨g4, 0, none⟩) (n + 1) k4), (some 166, .agg #[.int .u64 c, .int .u64 s2]), (some 167, .bool ok1), (some 168, .bool false)]) (by kernel_rfl) (by kernel_rfl) (by kernel_rfl) (by kernel_rfl) (fun _ => by kernel_rfl) (G.last_of [] (fun F R hm => by simp at hm) (fun ob ob' k hm => by simp at hm) (fun b ob ob' hm => by simp at hm)) (fun b ob ob' hm => by simp at hm) ?_ ?_
    · intro ix hix
      match ix, hix with
      | 0, _ => exact G.ob_val [(5, .int .i64 md)] rfl rfl (fun _ => by kernel_rfl) (fun A w ⟨e0, _⟩ hB => doV_move e0)
      | 1, _ => exact G.ob_val [(13, .pointer (some ⟨BG, 0, none⟩))] rfl rfl (fun _ => by kernel_rfl) (fun A w ⟨e0, _⟩ hB => ld_pt e0 (hB.cell ag0 (by simp)) (hB.cell ag1 (by simp)) (hB.cell ag2 (by simp)))
      | 2, _ => exact G.ob_val [(14, .pointer (some ⟨BQ, 0, none⟩))] rfl rfl (fun _ => by kernel_rfl) (fun A w ⟨e0, _⟩ hB => ld_pt e0 (hB.cell aq0 (by simp)) (hB.cell aq1 (by simp)) (hB.cell aq2 (by simp)))
      | 3, _ => exact G.ob_val [(7, .slice (some ⟨g1, 0, none⟩) (n + 1) k1)] rfl rfl (fun _ => by kernel_rfl) (fun A w ⟨e0, _⟩ hB => doV_move e0)
      | 4, _ => exact G.ob_val [(8, .slice (some ⟨g2, 0, none⟩) (n + 1) k2)] rfl rfl (fun _ => by kernel_rfl) (fun A w ⟨e0, _⟩ hB => doV_move e0)
      | 5, _ => exact G.ob_val [(25, .pointer (some ⟨W3.heap.size, 0, none⟩))] rfl rfl (fun _ => by kernel_rfl) (fun A w ⟨e0, _⟩ hB => ld_prf e0 (hB.cell ad0 (by simp)) (hB.cell ad1 (by simp)))
      | 6, _ => exact G.ob_val [(154, .int .i64 md), (155, .agg #[.int .u64 gx, .int .u64 gy, .bool gb]), (156, .agg #[.int .u64 qx, .int .u64 qy, .bool qb]), (157, .slice (some ⟨g1, 0, none⟩) (n + 1) k1), (158, .slice (some ⟨g2, 0, none⟩) (n + 1) k2), (159, .agg #[.int .u64 c, .int .u64 s2])] rfl rfl (fun _ => by kernel_rfl) (fun A w ⟨e0, e1, e2, e3, e4, e5, _⟩ hB => cl6 cf_impl_Check e0 e1 e2 e3 e4 e5 (KA w g1 k1 g2 k2 (hTX w hB.below) (hQ _ _ _ _ q1 hB.below)))
      | 7, _ => exact G.ob_val [(9, .int .i64 md)] rfl rfl (fun _ => by kernel_rfl) (fun A w ⟨e0, _⟩ hB => doV_move e0)
      | 8, _ => exact G.ob_val [(13, .pointer (some ⟨BG, 0, none⟩))] rfl rfl (fun _ => by kernel_rfl) (fun A w ⟨e0, _⟩ hB => ld_pt e0 (hB.cell ag0 (by simp)) (hB.cell ag1 (by simp)) (hB.cell ag2 (by simp)))
      | 9, _ => exact G.ob_val [(14, .pointer (some ⟨BQ, 0, none⟩))] rfl rfl (fun _ => by kernel_rfl) (fun A w ⟨e0, _⟩ hB => ld_pt e0 (hB.cell aq0 (by simp)) (hB.cell aq1 (by simp)) (hB.cell aq2 (by simp)))
      | 10, _ => exact G.ob_val [(11, .slice (some ⟨g3, 0, none⟩) (n + 1) k3)] rfl rfl (fun _ => by kernel_rfl) (fun A w ⟨e0, _⟩ hB => doV_move e0)
      | 11, _ => exact G.ob_val [(12, .slice (some ⟨g4, 0, none⟩) (n + 1) k4)] rfl rfl (fun _ => by kernel_rfl) (fun A w ⟨e0, _⟩ hB => doV_move e0)
      | 12, _ => exact G.ob_val [(25, .pointer (some ⟨W3.heap.size, 0, none⟩))] rfl rfl (fun _ => by kernel_rfl) (fun A w ⟨e0, _⟩ hB => ld_prf e0 (hB.cell ad0 (by simp)) (hB.cell ad1 (by simp)))
      | 13, _ => exact G.ob_val [(161, .int .i64 md), (162, .agg #[.int .u64 gx, .int .u64 gy, .bool gb]), (163, .agg #[.int .u64 qx, .int .u64 qy, .bool qb]), (164, .slice (some ⟨g3, 0, none⟩) (n + 1) k3), (165, .slice (some ⟨g4, 0, none⟩) (n + 1) k4), (166, .agg #[.int .u64 c, .int .u64 s2])] rfl rfl (fun _ => by kernel_rfl) (fun A w ⟨e0, e1, e2, e3, e4, e5, _⟩ hB => cl6 cf_spec_Check e0 e1 e2 e3 e4 e5 (KB w g3 k3 g4 k4 (hQ _ _ _ _ q2 hB.below)))
      | 14, _ => exact G.ob_val [(160, .bool ok1), (167, .bool ok1)] rfl rfl (fun _ => by kernel_rfl) (fun A w ⟨e0, e1, _⟩ hB => Z.ne_bool e0 e1)
      | ix + 15, h => exact absurd h (by simp)
    intro f W6 hS6 _ _ _ _
    have b6 : Below W5.heap.size W5 W6 := (Below.refl _ W5).drew.trans hS6.below
    replace rg := rg.keep b6
    replace rq := rq.keep b6
    replace rp := rp.keep b6
    replace q1 := hQ _ W6.drew _ _ q1 hS6.below.drew
    have hb6 : Below w.heap.size w W6 := hb5.trans (b6.mono hb5.size)
    clear hb5 q2 ag0 ag1 ag2 aq0 aq1 aq2 ad0 ad1 hTX hS6 b6 rd2
    simp only [puts, List.foldl, Act.put, List.setIfInBounds_toArray, List.set_cons_zero, List.set_cons_succ]
    go_wp2
    have ag0 : W6.drew.cell? ⟨BG, 0, none⟩ = _ := rg.c0
    have ag1 : W6.drew.cell? ⟨BG, 1, none⟩ = _ := rg.c1
    have ag2 : W6.drew.cell? ⟨BG, 2, none⟩ = _ := rg.c2
    have aq0 : W6.drew.cell? ⟨BQ, 0, none⟩ = _ := rq.c0
    have aq1 : W6.drew.cell? ⟨BQ, 1, none⟩ = _ := rq.c1
    have aq2 : W6.drew.cell? ⟨BQ, 2, none⟩ = _ := rq.c2
    have hTX : ∀ w', Below W6.drew.heap.size W6.drew w' → TabK w' := fun w' h => keepT hT hgw (hb6.drew.trans (h.mono hb6.size))
    refine G.pool_list (W := W6) [] [.val (.int .i64 md),
        .val (.int .u64 k),
        .val (.agg #[.int .u64 gx, .int .u64 gy, .bool gb]),
        .val (.agg #[.int .u64 qx, .int .u64 qy, .bool qb]),
        .val (.slice (some ⟨g1, 0, none⟩) (n + 1) k1),
        .val (.slice (some ⟨g1, o1, none⟩) n (k1 - 1)),
        .val (.slice (some ⟨g2, 0, none⟩) (n + 1) k2),
        .val (.tuple #[.agg #[.int .u64 0, .int .u64 0], .bool false]),
        .val (.tuple #[.agg #[.int .u64 0, .int .u64 0], .bool false]),
        .val (.agg #[.int .u64 0, .int .u64 0]),
        .val (.bool false),
        .new (.cells #[.int .u64 0, .int .u64 0] 37) (.cells #[.int .u64 0, .int .u64 0] 37) 12,
        .put 11,
        .val (.bool false)] [[5], [6], [13], [14], [7], [174], [8], [170, 171, 172, 173, 175, 176], [177], [169], [169], [], [26, 178], [179]] (fun f => [(some 170, .int .i64 md), (some 171, .int .u64 k), (some 172, .agg #[.int .u64 gx, .int .u64 gy, .bool gb]), (some 173, .agg #[.int .u64 qx, .int .u64 qy, .bool qb]), (some 174, .slice (some ⟨g1, 0, none⟩) (n + 1) k1), (some 175, .slice (some ⟨g1, o1, none⟩) n (k1 - 1)), (some 176, .slice (some ⟨g2, 0, none⟩) (n + 1) k2), (some 177, .tuple #[.agg #[.int .u64 0, .int .u64 0], .bool false]), (some 169, .tuple #[.agg #[.int .u64 0, .int .u64 0], .bool false]), (some 178, .agg #[.int .u64 0, .int .u64 0]), (some 179, .bool false), (some 26, .pointer (some ⟨f 11, 0, none⟩)), (none, undef), (some 27, .bool false)]) (by kernel_rfl) (by kernel_rfl) (by kernel_rfl) (by kernel_rfl) (fun _ => by kernel_rfl) (G.last_of [.cells #[.int .u64 0, .int .u64 0] 37] (fun F R hm => by simp at hm) (fun ob ob' k hm => by simp at hm; simp [hm]) (fun b ob ob' hm => by simp at hm)) (fun b ob ob' hm => by simp at hm) ?_ ?_
    · intro ix hix
      match ix, hix with
      | 0, _ => exact G.ob_val [(5, .int .i64 md)] rfl rfl (fun _ => by kernel_rfl) (fun A w ⟨e0, _⟩ hB => doV_move e0)
      | 1, _ => exact G.ob_val [(6, .int .u64 k)] rfl rfl (fun _ => by kernel_rfl) (fun A w ⟨e0, _⟩ hB => doV_move e0)
      | 2, _ => exact G.ob_val [(13, .pointer (some ⟨BG, 0, none⟩))] rfl rfl (fun _ => by kernel_rfl) (fun A w ⟨e0, _⟩ hB => ld_pt e0 (hB.cell ag0 (by simp)) (hB.cell ag1 (by simp)) (hB.cell ag2 (by simp)))
      | 3, _ => exact G.ob_val [(14, .pointer (some ⟨BQ, 0, none⟩))] rfl rfl (fun _ => by kernel_rfl) (fun A w ⟨e0, _⟩ hB => ld_pt e0 (hB.cell aq0 (by simp)) (hB.cell aq1 (by simp)) (hB.cell aq2 (by simp)))
      | 4, _ => exact G.ob_val [(7, .slice (some ⟨g1, 0, none⟩) (n + 1) k1)] rfl rfl (fun _ => by kernel_rfl) (fun A w ⟨e0, _⟩ hB => doV_move e0)
      | 5, _ => exact G.ob_val [(174, .slice (some ⟨g1, 0, none⟩) (n + 1) k1)] rfl rfl (fun _ => by kernel_rfl) (fun A w ⟨e0, _⟩ hB => Z.cut e0 rfl ho1)
      | 6, _ => exact G.ob_val [(8, .slice (some ⟨g2, 0, none⟩) (n + 1) k2)] rfl rfl (fun _ => by kernel_rfl) (fun A w ⟨e0, _⟩ hB => doV_move e0)
      | 7, _ => exact G.ob_val [(170, .int .i64 md), (171, .int .u64 k), (172, .agg #[.int .u64 gx, .int .u64 gy, .bool gb]), (173, .agg #[.int .u64 qx, .int .u64 qy, .bool qb]), (175, .slice (some ⟨g1, o1, none⟩) n (k1 - 1)), (176, .slice (some ⟨g2, 0, none⟩) (n + 1) k2)] rfl rfl (fun _ => by kernel_rfl) (fun A w ⟨e0, e1, e2, e3, e4, e5, _⟩ hB => cl7 cf_impl_Prove e0 e1 e2 e3 e4 e5 rfl (PU w g1 k1 g2 k2 o1 ho1 hk1 (hTX w hB.below) (hQ _ _ _ _ q1 hB.below)))
      | 8, _ => exact G.ob_val [(177, .tuple #[.agg #[.int .u64 0, .int .u64 0], .bool false])] rfl rfl (fun _ => by kernel_rfl) (fun A w ⟨e0, _⟩ hB => doV_move e0)
      | 9, _ => exact G.ob_val [(169, .tuple #[.agg #[.int .u64 0, .int .u64 0], .bool false])] rfl rfl (fun _ => by kernel_rfl) (fun A w ⟨e0, _⟩ hB => xt2_0 e0)
      | 10, _ => exact G.ob_val [(169, .tuple #[.agg #[.int .u64 0, .int .u64 0], .bool false])] rfl rfl (fun _ => by kernel_rfl) (fun A w ⟨e0, _⟩ hB => xt2_1 e0)
      | 11, _ => exact G.ob_new rfl rfl (fun A w => al_prf)
      | 12, _ => exact G.ob_put 26 (fun f => [(26, .pointer (some ⟨f 11, 0, none⟩)), (178, .agg #[.int .u64 0, .int .u64 0])]) rfl rfl rfl (by decide) (by kernel_rfl) rfl (fun _ => by kernel_rfl) (fun f A w ⟨e0, e1, _⟩ hr => pu_prf e0 e1 hr)
      | 13, _ => exact G.ob_val [(179, .bool false)] rfl rfl (fun _ => by kernel_rfl) (fun A w ⟨e0, _⟩ hB => doV_assign e0)
      | ix + 14, h => exact absurd h (by simp)
    intro f W7 hS7 _ _ _ _
    have b7 : Below W6.heap.size W6 W7 := (Below.refl _ W6).drew.trans hS7.below
    replace rg := rg.keep b7
    replace rq := rq.keep b7
    replace rp := rp.keep b7
    replace q1 := hQ _ W7.drew _ _ q1 hS7.below.drew
    have hb7 : Below w.heap.size w W7 := hb6.trans (b7.mono hb6.size)
    clear hb6 ag0 ag1 ag2 aq0 aq1 aq2 hTX hS7 b7 PU
    simp only [puts, List.foldl, Act.put, List.setIfInBounds_toArray, List.set_cons_zero, List.set_cons_succ]
    go_wp2
    have ag0 : W7.drew.cell? ⟨BG, 0, none⟩ = _ := rg.c0
    have ag1 : W7.drew.cell? ⟨BG, 1, none⟩ = _ := rg.c1
    have ag2 : W7.drew.cell? ⟨BG, 2, none⟩ = _ := rg.c2
    have aq0 : W7.drew.cell? ⟨BQ, 0, none⟩ = _ := rq.c0
    have aq1 : W7.drew.cell? ⟨BQ, 1, none⟩ = _ := rq.c1
    have aq2 : W7.drew.cell? ⟨BQ, 2, none⟩ = _ := rq.c2
    have ap0 : W7.drew.cell? ⟨BP, 0, none⟩ = _ := rp.c0
    have ap1 : W7.drew.cell? ⟨BP, 1, none⟩ = _ := rp.c1
    have hTX : ∀ w', Below W7.drew.heap.size W7.drew w' → TabK w' := fun w' h => keepT hT hgw (hb7.drew.trans (h.mono hb7.size))
    refine G.pool_list (W := W7) [] [.val (.bool false),
        .val (.bool true),
        .val (.bool true),
        .val (.int .i64 md),
        .val (.agg #[.int .u64 gx, .int .u64 gy, .bool gb]),
        .val (.agg #[.int .u64 qx, .int .u64 qy, .bool qb]),
        .val (.slice (some ⟨g1, 0, none⟩) (n + 1) k1),
        .val (.slice (some ⟨g2, 0, none⟩) (n + 1) k2),
        .val (.slice (some ⟨g2, o2, none⟩) n (k2 - 1)),
        .val (.agg #[.int .u64 c, .int .u64 s]),
        .val (.bool false),
        .val (.bool true),
        .val (.bool true),
        .val (.bool true)] [[27], [180], [181], [5], [13], [14], [7], [8], [187], [15], [183, 184, 185, 186, 188, 189], [190], [182, 191], [192]] (fun f => [(some 180, .bool false), (some 181, .bool true), (some 182, .bool true), (some 183, .int .i64 md), (some 184, .agg #[.int .u64 gx, .int .u64 gy, .bool gb]), (some 185, .agg #[.int .u64 qx, .int .u64 qy, .bool qb]), (some 186, .slice (some ⟨g1, 0, none⟩) (n + 1) k1), (some 187, .slice (some ⟨g2, 0, none⟩) (n + 1) k2), (some 188, .slice (some ⟨g2, o2, none⟩) n (k2 - 1)), (some 189, .agg #[.int .u64 c, .int .u64 s]), (some 190, .bool false), (some 191, .bool true), (some 192, .bool true), (some 4, .bool true)]) (by kernel_rfl) (by kernel_rfl) (by kernel_rfl) (by kernel_rfl) (fun _ => by kernel_rfl) (G.last_of [] (fun F R hm => by simp at hm) (fun ob ob' k hm => by simp at hm) (fun b ob ob' hm => by simp at hm)) (fun b ob ob' hm => by simp at hm) ?_ ?_
    · intro ix hix
      match ix, hix with
      | 0, _ => exact G.ob_val [(27, .bool false)] rfl rfl (fun _ => by kernel_rfl) (fun A w ⟨e0, _⟩ hB => doV_move e0)
      | 1, _ => exact G.ob_val [(180, .bool false)] rfl rfl (fun _ => by kernel_rfl) (fun A w ⟨e0, _⟩ hB => Z.notF e0)
      | 2, _ => exact G.ob_val [(181, .bool true)] rfl rfl (fun _ => by kernel_rfl) (fun A w ⟨e0, _⟩ hB => doV_move e0)
      | 3, _ => exact G.ob_val [(5, .int .i64 md)] rfl rfl (fun _ => by kernel_rfl) (fun A w ⟨e0, _⟩ hB => doV_move e0)
      | 4, _ => exact G.ob_val [(13, .pointer (some ⟨BG, 0, none⟩))] rfl rfl (fun _ => by kernel_rfl) (fun A w ⟨e0, _⟩ hB => ld_pt e0 (hB.cell ag0 (by simp)) (hB.cell ag1 (by simp)) (hB.cell ag2 (by simp)))
      | 5, _ => exact G.ob_val [(14, .pointer (some ⟨BQ, 0, none⟩))] rfl rfl (fun _ => by kernel_rfl) (fun A w ⟨e0, _⟩ hB => ld_pt e0 (hB.cell aq0 (by simp)) (hB.cell aq1 (by simp)) (hB.cell aq2 (by simp)))
      | 6, _ => exact G.ob_val [(7, .slice (some ⟨g1, 0, none⟩) (n + 1) k1)] rfl rfl (fun _ => by kernel_rfl) (fun A w ⟨e0, _⟩ hB => doV_move e0)
      | 7, _ => exact G.ob_val [(8, .slice (some ⟨g2, 0, none⟩) (n + 1) k2)] rfl rfl (fun _ => by kernel_rfl) (fun A w ⟨e0, _⟩ hB => doV_move e0)
      | 8, _ => exact G.ob_val [(187, .slice (some ⟨g2, 0, none⟩) (n + 1) k2)] rfl rfl (fun _ => by kernel_rfl) (fun A w ⟨e0, _⟩ hB => Z.cut e0 rfl ho2)
      | 9, _ => exact G.ob_val [(15, .pointer (some ⟨BP, 0, none⟩))] rfl rfl (fun _ => by kernel_rfl) (fun A w ⟨e0, _⟩ hB => ld_prf e0 (hB.cell ap0 (by simp)) (hB.cell ap1 (by simp)))
      | 10, _ => exact G.ob_val [(183, .int .i64 md), (184, .agg #[.int .u64 gx, .int .u64 gy, .bool gb]), (185, .agg #[.int .u64 qx, .int .u64 qy, .bool qb]), (186, .slice (some ⟨g1, 0, none⟩) (n + 1) k1), (188, .slice (some ⟨g2, o2, none⟩) n (k2 - 1)), (189, .agg #[.int .u64 c, .int .u64 s])] rfl rfl (fun _ => by kernel_rfl) (fun A w ⟨e0, e1, e2, e3, e4, e5, _⟩ hB => cl6 cf_impl_Check e0 e1 e2 e3 e4 e5 (CU w g1 k1 g2 k2 o2 ho2 hk2 (hTX w hB.below) (hQ _ _ _ _ q1 hB.below)))
      | 11, _ => exact G.ob_val [(190, .bool false)] rfl rfl (fun _ => by kernel_rfl) (fun A w ⟨e0, _⟩ hB => Z.notF e0)
      | 12, _ => exact G.ob_val [(182, .bool true), (191, .bool true)] rfl rfl (fun _ => by kernel_rfl) (fun A w ⟨e0, e1, _⟩ hB => Z.pkT e0 e1)
      | 13, _ => exact G.ob_val [(192, .bool true)] rfl rfl (fun _ => by kernel_rfl) (fun A w ⟨e0, _⟩ hB => doV_assign e0)
      | ix + 14, h => exact absurd h (by simp)
    intro f W8 hS8 _ _ _ _
    have b8 : Below W7.heap.size W7 W8 := (Below.refl _ W7).drew.trans hS8.below
    have hb8 : Below w.heap.size w W8 := hb7.trans (b8.mono hb7.size)
    simp only [puts, List.foldl, Act.put, List.setIfInBounds_toArray, List.set_cons_zero, List.set_cons_succ]
    go_wp2
    go_ret
    exact ⟨rfl, hb8⟩

  · replace hx : (x9 % 2 == 0) = false := by simp [hx]
    go_wp2
    have ad0 : w10.drew.cell? ⟨W3.heap.size, 0, none⟩ = _ := rd.c0
    have ad1 : w10.drew.cell? ⟨W3.heap.size, 1, none⟩ = _ := rd.c1
    refine G.pool_prT (W := w10) [] 9 [.val (.pointer (some ⟨W3.heap.size, 0, none⟩)),
        .val (.int .u64 c),
        .val (.int .u64 (c + 1)),
        .val (.slice a1 l1 cap1),
        .val (.int .i64 x8),
        .val (.int .u64 x8),
        .val (.int .u64 (c + 1 + x8)),
        .val (.int .u64 c2),
        .val (.pointer (some ⟨W3.heap.size, 0, none⟩))] [[25], [145], [146], [1], [148], [149], [147, 150], [151], [25]] (fun f => [(some 145, .pointer (some ⟨W3.heap.size, 0, none⟩)), (some 146, .int .u64 c), (some 147, .int .u64 (c + 1)), (some 148, .slice a1 l1 cap1), (some 149, .int .i64 x8), (some 150, .int .u64 x8), (some 151, .int .u64 (c + 1 + x8)), (some 152, .int .u64 c2), (some 153, .pointer (some ⟨W3.heap.size, 0, none⟩))]) (by kernel_rfl) (by kernel_rfl) (by kernel_rfl) (by kernel_rfl) (by decide) (by kernel_rfl) (fun _ => by kernel_rfl) (G.last_of [] (fun F R hm => by simp at hm) (fun ob ob' k hm => by simp at hm) (fun b ob ob' hm => by simp at hm)) (fun b ob ob' hm => by simp at hm) ?_ ?_
    · intro ix hix
      match ix, hix with
      | 0, _ => exact G.ob_val [(25, .pointer (some ⟨W3.heap.size, 0, none⟩))] rfl rfl (fun _ => by kernel_rfl) (fun A w ⟨e0, _⟩ hB => fa_prf0 e0)
      | 1, _ => exact G.ob_val [(145, .pointer (some ⟨W3.heap.size, 0, none⟩))] rfl rfl (fun _ => by kernel_rfl) (fun A w ⟨e0, _⟩ hB => ld_u64 e0 (hB.cell ad0 (by simp)))
      | 2, _ => exact G.ob_val [(146, .int .u64 c)] rfl rfl (fun _ => by kernel_rfl) (fun A w ⟨e0, _⟩ hB => Z.add_u64 e0 rfl fc1)
      | 3, _ => exact G.ob_val [(1, .slice a1 l1 cap1)] rfl rfl (fun _ => by kernel_rfl) (fun A w ⟨e0, _⟩ hB => doV_move e0)
      | 4, _ => exact G.ob_val [(148, .slice a1 l1 cap1)] rfl rfl (fun _ => by kernel_rfl) (fun A w ⟨e0, _⟩ hB => cl2 cf_laws_wPick e0 rfl (P8 w (hbX w hB.below)))
      | 5, _ => exact G.ob_val [(149, .int .i64 x8)] rfl rfl (fun _ => by kernel_rfl) (fun A w ⟨e0, _⟩ hB => Z.cv_u64 e0 f8)
      | 6, _ => exact G.ob_val [(147, .int .u64 (c + 1)), (150, .int .u64 x8)] rfl rfl (fun _ => by kernel_rfl) (fun A w ⟨e0, e1, _⟩ hB => Z.add_u64 e0 e1 fc2)
      | 7, _ => exact G.ob_val [(151, .int .u64 (c + 1 + x8))] rfl rfl (fun _ => by kernel_rfl) (fun A w ⟨e0, _⟩ hB => Z.rem_u64 e0 rfl (by decide) fc3)
      | 8, _ => exact G.ob_val [(25, .pointer (some ⟨W3.heap.size, 0, none⟩))] rfl rfl (fun _ => by kernel_rfl) (fun A w ⟨e0, _⟩ hB => fa_prf0 e0)
      | ix + 9, h => exact absurd h (by simp)
    intro f W4 hS4 _ _ _ fuel hfuel
    have b4 : Below w10.heap.size w10 W4 := (Below.refl _ w10).drew.trans hS4.below
    replace rd := rd.keep b4
    replace b10 := b10.trans (b4.mono b10.size)
    clear ad0 ad1 hS4 b4 hbX P8
    simp only [puts, List.foldl, Act.put, List.setIfInBounds_toArray, List.set_cons_zero, List.set_cons_succ]
    refine last_do1 9 hfuel (by kernel_rfl) (by kernel_rfl) rfl rfl ?_
    refine fun Q K hK => Z.st_u64 (z := c2) rfl rfl rd.c0 (rd.frz 0) Q K (fun v w' e => hK v w' ?_)
    subst e
    have rd2 : P2 (W4.setCell ⟨W3.heap.size, 0, none⟩ (.int .u64 c2)) 37 W3.heap.size c2 s := by
      unfold P2 at *
      simp [World.setCell, Array.getElem?_modify, rd]
    replace b10 : Below W3.heap.size W3 (W4.setCell ⟨W3.heap.size, 0, none⟩ (.int .u64 c2)) := b10.setCell (p := ⟨W3.heap.size, 0, none⟩) (Nat.le_refl _) _
    clear rd
    generalize W4.setCell ⟨W3.heap.size, 0, none⟩ (.int .u64 c2) = W5 at *

    clear hx fs1 fs2 fs3 fc1 fc2 fc3 f8 hr
    go_wp2
    obtain ⟨o1, ho1⟩ := cut_off g1 k1
    obtain ⟨o2, ho2⟩ := cut_off g2 k2
    have hb5 : Below w.heap.size w W5 := hb.trans (b10.mono hD)
    replace rg := rg.keep b10
    replace rq := rq.keep b10
    replace rp := rp.keep b10
    replace q1 := hQ _ W5.drew _ _ q1 b10.drew
    replace q2 := hQ _ W5.drew _ _ q2 b10.drew
    clear b10 hb hD
    have ag0 : W5.drew.cell? ⟨BG, 0, none⟩ = _ := rg.c0
    have ag1 : W5.drew.cell? ⟨BG, 1, none⟩ = _ := rg.c1
    have ag2 : W5.drew.cell? ⟨BG, 2, none⟩ = _ := rg.c2
    have aq0 : W5.drew.cell? ⟨BQ, 0, none⟩ = _ := rq.c0
    have aq1 : W5.drew.cell? ⟨BQ, 1, none⟩ = _ := rq.c1
    have aq2 : W5.drew.cell? ⟨BQ, 2, none⟩ = _ := rq.c2
    have ad0 : W5.drew.cell? ⟨W3.heap.size, 0, none⟩ = _ := rd2.c0
    have ad1 : W5.drew.cell? ⟨W3.heap.size, 1, none⟩ = _ := rd2.c1
    have hTX : ∀ w', Below W5.drew.heap.size W5.drew w' → TabK w' := fun w' h => keepT hT hgw (hb5.drew.trans (h.mono hb5.size))
    refine G.pool_list (W := W5) [] [.val (.int .i64 md),
        .val (.agg #[.int .u64 gx, .int .u64 gy, .bool gb]),
        .val (.agg #[.int .u64 qx, .int .u64 qy, .bool qb]),
        .val (.slice (some ⟨g1, 0, none⟩) (n + 1) k1),
        .val (.slice (some ⟨g2, 0, none⟩) (n + 1) k2),
        .val (.agg #[.int .u64 c2, .int .u64 s]),
        .val (.bool ok2),
        .val (.int .i64 md),
        .val (.agg #[.int .u64 gx, .int .u64 gy, .bool gb]),
        .val (.agg #[.int .u64 qx, .int .u64 qy, .bool qb]),
        .val (.slice (some ⟨g3, 0, none⟩) (n + 1) k3),
        .val (.slice (some ⟨g4, 0, none⟩) (n + 1) k4),
        .val (.agg #[.int .u64 c2, .int .u64 s]),
        .val (.bool ok2),
        .val (.bool false)] [[5], [13], [14], [7], [8], [25], [154, 155, 156, 157, 158, 159], [9], [13], [14], [11], [12], [25], [161, 162, 163, 164, 165, 166], [160, 167]] (fun f => [(some 154, .int .i64 md), (some 155, .agg #[.int .u64 gx, .int .u64 gy, .bool gb]), (some 156, .agg #[.int .u64 qx, .int .u64 qy, .bool qb]), (some 157, .slice (some ⟨g1, 0, none⟩) (n + 1) k1), (some 158, .slice (some ⟨g2, 0, none⟩) (n + 1) k2), (some 159, .agg #[.int .u64 c2, .int .u64 s]), (some 160, .bool ok2), (some 161, .int .i64 md), (some 162, .agg #[.int .u64 gx, .int .u64 gy, .bool gb]), (some 163, .agg #[.int .u64 qx, .int .u64 qy, .bool qb]), (some 164, .slice (some ⟨g3, 0, none⟩) (n + 1) k3), (some 165, .slice (some ⟨g4, 0, none⟩) (n + 1) k4), (some 166, .agg #[.int .u64 c2, .int .u64 s]), (some 167, .bool ok2), (some 168, .bool false)]) (by kernel_rfl) (by kernel_rfl) (by kernel_rfl) (by kernel_rfl) (fun _ => by kernel_rfl) (G.last_of [] (fun F R hm => by simp at hm) (fun ob ob' k hm => by simp at hm) (fun b ob ob' hm => by simp at hm)) (fun b ob ob' hm => by simp at hm) ?_ ?_
    · intro ix hix
      match ix, hix with
      | 0, _ => exact G.ob_val [(5, .int .i64 md)] rfl rfl (fun _ => by kernel_rfl) (fun A w ⟨e0, _⟩ hB => doV_move e0)
      | 1, _ => exact G.ob_val [(13, .pointer (some ⟨BG, 0, none⟩))] rfl rfl (fun _ => by kernel_rfl) (fun A w ⟨e0, _⟩ hB => ld_pt e0 (hB.cell ag0 (by simp)) (hB.cell ag1 (by simp)) (hB.cell ag2 (by simp)))
      | 2, _ => exact G.ob_val [(14, .pointer (some ⟨BQ, 0, none⟩))] rfl rfl (fun _ => by kernel_rfl) (fun A w ⟨e0, _⟩ hB => ld_pt e0 (hB.cell aq0 (by simp)) (hB.cell aq1 (by simp)) (hB.cell aq2 (by simp)))
      | 3, _ => exact G.ob_val [(7, .slice (some ⟨g1, 0, none⟩) (n + 1) k1)] rfl rfl (fun _ => by kernel_rfl) (fun A w ⟨e0, _⟩ hB => doV_move e0)
      | 4, _ => exact G.ob_val [(8, .slice (some ⟨g2, 0, none⟩) (n + 1) k2)] rfl rfl (fun _ => by kernel_rfl) (fun A w ⟨e0, _⟩ hB => doV_move e0)
      | 5, _ => exact G.ob_val [(25, .pointer (some ⟨W3.heap.size, 0, none⟩))] rfl rfl (fun _ => by kernel_rfl) (fun A w ⟨e0, _⟩ hB => ld_prf e0 (hB.cell ad0 (by simp)) (hB.cell ad1 (by simp)))
      | 6, _ => exact G.ob_val [(154, .int .i64 md), (155, .agg #[.int .u64 gx, .int .u64 gy, .bool gb]), (156, .agg #[.int .u64 qx, .int .u64 qy, .bool qb]), (157, .slice (some ⟨g1, 0, none⟩) (n + 1) k1), (158, .slice (some ⟨g2, 0, none⟩) (n + 1) k2), (159, .agg #[.int .u64 c2, .int .u64 s])] rfl rfl (fun _ => by kernel_rfl) (fun A w ⟨e0, e1, e2, e3, e4, e5, _⟩ hB => cl6 cf_impl_Check e0 e1 e2 e3 e4 e5 (KC w g1 k1 g2 k2 (hTX w hB.below) (hQ _ _ _ _ q1 hB.below)))
      | 7, _ => exact G.ob_val [(9, .int .i64 md)] rfl rfl (fun _ => by kernel_rfl) (fun A w ⟨e0, _⟩ hB => doV_move e0)
      | 8, _ => exact G.ob_val [(13, .pointer (some ⟨BG, 0, none⟩))] rfl rfl (fun _ => by kernel_rfl) (fun A w ⟨e0, _⟩ hB => ld_pt e0 (hB.cell ag0 (by simp)) (hB.cell ag1 (by simp)) (hB.cell ag2 (by simp)))
      | 9, _ => exact G.ob_val [(14, .pointer (some ⟨BQ, 0, none⟩))] rfl rfl (fun _ => by kernel_rfl) (fun A w ⟨e0, _⟩ hB => ld_pt e0 (hB.cell aq0 (by simp)) (hB.cell aq1 (by simp)) (hB.cell aq2 (by simp)))
      | 10, _ => exact G.ob_val [(11, .slice (some ⟨g3, 0, none⟩) (n + 1) k3)] rfl rfl (fun _ => by kernel_rfl) (fun A w ⟨e0, _⟩ hB => doV_move e0)
      | 11, _ => exact G.ob_val [(12, .slice (some ⟨g4, 0, none⟩) (n + 1) k4)] rfl rfl (fun _ => by kernel_rfl) (fun A w ⟨e0, _⟩ hB => doV_move e0)
      | 12, _ => exact G.ob_val [(25, .pointer (some ⟨W3.heap.size, 0, none⟩))] rfl rfl (fun _ => by kernel_rfl) (fun A w ⟨e0, _⟩ hB => ld_prf e0 (hB.cell ad0 (by simp)) (hB.cell ad1 (by simp)))
      | 13, _ => exact G.ob_val [(161, .int .i64 md), (162, .agg #[.int .u64 gx, .int .u64 gy, .bool gb]), (163, .agg #[.int .u64 qx, .int .u64 qy, .bool qb]), (164, .slice (some ⟨g3, 0, none⟩) (n + 1) k3), (165, .slice (some ⟨g4, 0, none⟩) (n + 1) k4), (166, .agg #[.int .u64 c2, .int .u64 s])] rfl rfl (fun _ => by kernel_rfl) (fun A w ⟨e0, e1, e2, e3, e4, e5, _⟩ hB => cl6 cf_spec_Check e0 e1 e2 e3 e4 e5 (KD w g3 k3 g4 k4 (hQ _ _ _ _ q2 hB.below)))
      | 14, _ => exact G.ob_val [(160, .bool ok2), (167, .bool ok2)] rfl rfl (fun _ => by kernel_rfl) (fun A w ⟨e0, e1, _⟩ hB => Z.ne_bool e0 e1)
      | ix + 15, h => exact absurd h (by simp)
    intro f W6 hS6 _ _ _ _
    have b6 : Below W5.heap.size W5 W6 := (Below.refl _ W5).drew.trans hS6.below
    replace rg := rg.keep b6
    replace rq := rq.keep b6
    replace rp := rp.keep b6
    replace q1 := hQ _ W6.drew _ _ q1 hS6.below.drew
    have hb6 : Below w.heap.size w W6 := hb5.trans (b6.mono hb5.size)
    clear hb5 q2 ag0 ag1 ag2 aq0 aq1 aq2 ad0 ad1 hTX hS6 b6 rd2
    simp only [puts, List.foldl, Act.put, List.setIfInBounds_toArray, List.set_cons_zero, List.set_cons_succ]
    go_wp2
    have ag0 : W6.drew.cell? ⟨BG, 0, none⟩ = _ := rg.c0
    have ag1 : W6.drew.cell? ⟨BG, 1, none⟩ = _ := rg.c1
    have ag2 : W6.drew.cell? ⟨BG, 2, none⟩ = _ := rg.c2
    have aq0 : W6.drew.cell? ⟨BQ, 0, none⟩ = _ := rq.c0
    have aq1 : W6.drew.cell? ⟨BQ, 1, none⟩ = _ := rq.c1
    have aq2 : W6.drew.cell? ⟨BQ, 2, none⟩ = _ := rq.c2
    have hTX : ∀ w', Below W6.drew.heap.size W6.drew w' → TabK w' := fun w' h => keepT hT hgw (hb6.drew.trans (h.mono hb6.size))
    refine G.pool_list (W := W6) [] [.val (.int .i64 md),
        .val (.int .u64 k),
        .val (.agg #[.int .u64 gx, .int .u64 gy, .bool gb]),
        .val (.agg #[.int .u64 qx, .int .u64 qy, .bool qb]),
        .val (.slice (some ⟨g1, 0, none⟩) (n + 1) k1),
        .val (.slice (some ⟨g1, o1, none⟩) n (k1 - 1)),
        .val (.slice (some ⟨g2, 0, none⟩) (n + 1) k2),
        .val (.tuple #[.agg #[.int .u64 0, .int .u64 0], .bool false]),
        .val (.tuple #[.agg #[.int .u64 0, .int .u64 0], .bool false]),
        .val (.agg #[.int .u64 0, .int .u64 0]),
        .val (.bool false),
        .new (.cells #[.int .u64 0, .int .u64 0] 37) (.cells #[.int .u64 0, .int .u64 0] 37) 12,
        .put 11,
        .val (.bool false)] [[5], [6], [13], [14], [7], [174], [8], [170, 171, 172, 173, 175, 176], [177], [169], [169], [], [26, 178], [179]] (fun f => [(some 170, .int .i64 md), (some 171, .int .u64 k), (some 172, .agg #[.int .u64 gx, .int .u64 gy, .bool gb]), (some 173, .agg #[.int .u64 qx, .int .u64 qy, .bool qb]), (some 174, .slice (some ⟨g1, 0, none⟩) (n + 1) k1), (some 175, .slice (some ⟨g1, o1, none⟩) n (k1 - 1)), (some 176, .slice (some ⟨g2, 0, none⟩) (n + 1) k2), (some 177, .tuple #[.agg #[.int .u64 0, .int .u64 0], .bool false]), (some 169, .tuple #[.agg #[.int .u64 0, .int .u64 0], .bool false]), (some 178, .agg #[.int .u64 0, .int .u64 0]), (some 179, .bool false), (some 26, .pointer (some ⟨f 11, 0, none⟩)), (none, undef), (some 27, .bool false)]) (by kernel_rfl) (by kernel_rfl) (by kernel_rfl) (by kernel_rfl) (fun _ => by kernel_rfl) (G.last_of [.cells #[.int .u64 0, .int .u64 0] 37] (fun F R hm => by simp at hm) (fun ob ob' k hm => by simp at hm; simp [hm]) (fun b ob ob' hm => by simp at hm)) (fun b ob ob' hm => by simp at hm) ?_ ?_
    · intro ix hix
      match ix, hix with
      | 0, _ => exact G.ob_val [(5, .int .i64 md)] rfl rfl (fun _ => by kernel_rfl) (fun A w ⟨e0, _⟩ hB => doV_move e0)
      | 1, _ => exact G.ob_val [(6, .int .u64 k)] rfl rfl (fun _ => by kernel_rfl) (fun A w ⟨e0, _⟩ hB => doV_move e0)
      | 2, _ => exact G.ob_val [(13, .pointer (some ⟨BG, 0, none⟩))] rfl rfl (fun _ => by kernel_rfl) (fun A w ⟨e0, _⟩ hB => ld_pt e0 (hB.cell ag0 (by simp)) (hB.cell ag1 (by simp)) (hB.cell ag2 (by simp)))
      | 3, _ => exact G.ob_val [(14, .pointer (some ⟨BQ, 0, none⟩))] rfl rfl (fun _ => by kernel_rfl) (fun A w ⟨e0, _⟩ hB => ld_pt e0 (hB.cell aq0 (by simp)) (hB.cell aq1 (by simp)) (hB.cell aq2 (by simp)))
      | 4, _ => exact G.ob_val [(7, .slice (some ⟨g1, 0, none⟩) (n + 1) k1)] rfl rfl (fun _ => by kernel_rfl) (fun A w ⟨e0, _⟩ hB => doV_move e0)
      | 5, _ => exact G.ob_val [(174, .slice (some ⟨g1, 0, none⟩) (n + 1) k1)] rfl rfl (fun _ => by kernel_rfl) (fun A w ⟨e0, _⟩ hB => Z.cut e0 rfl ho1)
      | 6, _ => exact G.ob_val [(8, .slice (some ⟨g2, 0, none⟩) (n + 1) k2)] rfl rfl (fun _ => by kernel_rfl) (fun A w ⟨e0, _⟩ hB => doV_move e0)
      | 7, _ => exact G.ob_val [(170, .int .i64 md), (171, .int .u64 k), (172, .agg #[.int .u64 gx, .int .u64 gy, .bool gb]), (173, .agg #[.int .u64 qx, .int .u64 qy, .bool qb]), (175, .slice (some ⟨g1, o1, none⟩) n (k1 - 1)), (176, .slice (some ⟨g2, 0, none⟩) (n + 1) k2)] rfl rfl (fun _ => by kernel_rfl) (fun A w ⟨e0, e1, e2, e3, e4, e5, _⟩ hB => cl7 cf_impl_Prove e0 e1 e2 e3 e4 e5 rfl (PU w g1 k1 g2 k2 o1 ho1 hk1 (hTX w hB.below) (hQ _ _ _ _ q1 hB.below)))
      | 8, _ => exact G.ob_val [(177, .tuple #[.agg #[.int .u64 0, .int .u64 0], .bool false])] rfl rfl (fun _ => by kernel_rfl) (fun A w ⟨e0, _⟩ hB => doV_move e0)
      | 9, _ => exact G.ob_val [(169, .tuple #[.agg #[.int .u64 0, .int .u64 0], .bool false])] rfl rfl (fun _ => by kernel_rfl) (fun A w ⟨e0, _⟩ hB => xt2_0 e0)
      | 10, _ => exact G.ob_val [(169, .tuple #[.agg #[.int .u64 0, .int .u64 0], .bool false])] rfl rfl (fun _ => by kernel_rfl) (fun A w ⟨e0, _⟩ hB => xt2_1 e0)
      | 11, _ => exact G.ob_new rfl rfl (fun A w => al_prf)
      | 12, _ => exact G.ob_put 26 (fun f => [(26, .pointer (some ⟨f 11, 0, none⟩)), (178, .agg #[.int .u64 0, .int .u64 0])]) rfl rfl rfl (by decide) (by kernel_rfl) rfl (fun _ => by kernel_rfl) (fun f A w ⟨e0, e1, _⟩ hr => pu_prf e0 e1 hr)
      | 13, _ => exact G.ob_val [(179, .bool false)] rfl rfl (fun _ => by kernel_rfl) (fun A w ⟨e0, _⟩ hB => doV_assign e0)
      | ix + 14, h => exact absurd h (by simp)
    intro f W7 hS7 _ _ _ _
    have b7 : Below W6.heap.size W6 W7 := (Below.refl _ W6).drew.trans hS7.below
    replace rg := rg.keep b7
    replace rq := rq.keep b7
    replace rp := rp.keep b7
    replace q1 := hQ _ W7.drew _ _ q1 hS7.below.drew
    have hb7 : Below w.heap.size w W7 := hb6.trans (b7.mono hb6.size)
    clear hb6 ag0 ag1 ag2 aq0 aq1 aq2 hTX hS7 b7 PU
    simp only [puts, List.foldl, Act.put, List.setIfInBounds_toArray, List.set_cons_zero, List.set_cons_succ]
    go_wp2
    have ag0 : W7.drew.cell? ⟨BG, 0, none⟩ = _ := rg.c0
    have ag1 : W7.drew.cell? ⟨BG, 1, none⟩ = _ := rg.c1
    have ag2 : W7.drew.cell? ⟨BG, 2, none⟩ = _ := rg.c2
    have aq0 : W7.drew.cell? ⟨BQ, 0, none⟩ = _ := rq.c0
    have aq1 : W7.drew.cell? ⟨BQ, 1, none⟩ = _ := rq.c1
    have aq2 : W7.drew.cell? ⟨BQ, 2, none⟩ = _ := rq.c2
    have ap0 : W7.drew.cell? ⟨BP, 0, none⟩ = _ := rp.c0
    have ap1 : W7.drew.cell? ⟨BP, 1, none⟩ = _ := rp.c1
    have hTX : ∀ w', Below W7.drew.heap.size W7.drew w' → TabK w' := fun w' h => keepT hT hgw (hb7.drew.trans (h.mono hb7.size))
    refine G.pool_list (W := W7) [] [.val (.bool false),
        .val (.bool true),
        .val (.bool true),
        .val (.int .i64 md),
        .val (.agg #[.int .u64 gx, .int .u64 gy, .bool gb]),
        .val (.agg #[.int .u64 qx, .int .u64 qy, .bool qb]),
        .val (.slice (some ⟨g1, 0, none⟩) (n + 1) k1),
        .val (.slice (some ⟨g2, 0, none⟩) (n + 1) k2),
        .val (.slice (some ⟨g2, o2, none⟩) n (k2 - 1)),
        .val (.agg #[.int .u64 c, .int .u64 s]),
        .val (.bool false),
        .val (.bool true),
        .val (.bool true),
        .val (.bool true)] [[27], [180], [181], [5], [13], [14], [7], [8], [187], [15], [183, 184, 185, 186, 188, 189], [190], [182, 191], [192]] (fun f => [(some 180, .bool false), (some 181, .bool true), (some 182, .bool true), (some 183, .int .i64 md), (some 184, .agg #[.int .u64 gx, .int .u64 gy, .bool gb]), (some 185, .agg #[.int .u64 qx, .int .u64 qy, .bool qb]), (some 186, .slice (some ⟨g1, 0, none⟩) (n + 1) k1), (some 187, .slice (some ⟨g2, 0, none⟩) (n + 1) k2), (some 188, .slice (some ⟨g2, o2, none⟩) n (k2 - 1)), (some 189, .agg #[.int .u64 c, .int .u64 s]), (some 190, .bool false), (some 191, .bool true), (some 192, .bool true), (some 4, .bool true)]) (by kernel_rfl) (by kernel_rfl) (by kernel_rfl) (by kernel_rfl) (fun _ => by kernel_rfl) (G.last_of [] (fun F R hm => by simp at hm) (fun ob ob' k hm => by simp at hm) (fun b ob ob' hm => by simp at hm)) (fun b ob ob' hm => by simp at hm) ?_ ?_
    · intro ix hix
      match ix, hix with
      | 0, _ => exact G.ob_val [(27, .bool false)] rfl rfl (fun _ => by kernel_rfl) (fun A w ⟨e0, _⟩ hB => doV_move e0)
      | 1, _ => exact G.ob_val [(180, .bool false)] rfl rfl (fun _ => by kernel_rfl) (fun A w ⟨e0, _⟩ hB => Z.notF e0)
      | 2, _ => exact G.ob_val [(181, .bool true)] rfl rfl (fun _ => by kernel_rfl) (fun A w ⟨e0, _⟩ hB => doV_move e0)
      | 3, _ => exact G.ob_val [(5, .int .i64 md)] rfl rfl (fun _ => by kernel_rfl) (fun A w ⟨e0, _⟩ hB => doV_move e0)
      | 4, _ => exact G.ob_val [(13, .pointer (some ⟨BG, 0, none⟩))] rfl rfl (fun _ => by kernel_rfl) (fun A w ⟨e0, _⟩ hB => ld_pt e0 (hB.cell ag0 (by simp)) (hB.cell ag1 (by simp)) (hB.cell ag2 (by simp)))
      | 5, _ => exact G.ob_val [(14, .pointer (some ⟨BQ, 0, none⟩))] rfl rfl (fun _ => by kernel_rfl) (fun A w ⟨e0, _⟩ hB => ld_pt e0 (hB.cell aq0 (by simp)) (hB.cell aq1 (by simp)) (hB.cell aq2 (by simp)))
      | 6, _ => exact G.ob_val [(7, .slice (some ⟨g1, 0, none⟩) (n + 1) k1)] rfl rfl (fun _ => by kernel_rfl) (fun A w ⟨e0, _⟩ hB => doV_move e0)
      | 7, _ => exact G.ob_val [(8, .slice (some ⟨g2, 0, none⟩) (n + 1) k2)] rfl rfl (fun _ => by kernel_rfl) (fun A w ⟨e0, _⟩ hB => doV_move e0)
      | 8, _ => exact G.ob_val [(187, .slice (some ⟨g2, 0, none⟩) (n + 1) k2)] rfl rfl (fun _ => by kernel_rfl) (fun A w ⟨e0, _⟩ hB => Z.cut e0 rfl ho2)
      | 9, _ => exact G.ob_val [(15, .pointer (some ⟨BP, 0, none⟩))] rfl rfl (fun _ => by kernel_rfl) (fun A w ⟨e0, _⟩ hB => ld_prf e0 (hB.cell ap0 (by simp)) (hB.cell ap1 (by simp)))
      | 10, _ => exact G.ob_val [(183, .int .i64 md), (184, .agg #[.int .u64 gx, .int .u64 gy, .bool gb]), (185, .agg #[.int .u64 qx, .int .u64 qy, .bool qb]), (186, .slice (some ⟨g1, 0, none⟩) (n + 1) k1), (188, .slice (some ⟨g2, o2, none⟩) n (k2 - 1)), (189, .agg #[.int .u64 c, .int .u64 s])] rfl rfl (fun _ => by kernel_rfl) (fun A w ⟨e0, e1, e2, e3, e4, e5, _⟩ hB => cl6 cf_impl_Check e0 e1 e2 e3 e4 e5 (CU w g1 k1 g2 k2 o2 ho2 hk2 (hTX w hB.below) (hQ _ _ _ _ q1 hB.below)))
      | 11, _ => exact G.ob_val [(190, .bool false)] rfl rfl (fun _ => by kernel_rfl) (fun A w ⟨e0, _⟩ hB => Z.notF e0)
      | 12, _ => exact G.ob_val [(182, .bool true), (191, .bool true)] rfl rfl (fun _ => by kernel_rfl) (fun A w ⟨e0, e1, _⟩ hB => Z.pkT e0 e1)
      | 13, _ => exact G.ob_val [(192, .bool true)] rfl rfl (fun _ => by kernel_rfl) (fun A w ⟨e0, _⟩ hB => doV_assign e0)
      | ix + 14, h => exact absurd h (by simp)
    intro f W8 hS8 _ _ _ _
    have b8 : Below W7.heap.size W7 W8 := (Below.refl _ W7).drew.trans hS8.below
    have hb8 : Below w.heap.size w W8 := hb7.trans (b8.mono hb7.size)
    simp only [puts, List.foldl, Act.put, List.setIfInBounds_toArray, List.set_cons_zero, List.set_cons_succ]
    go_wp2
    go_ret
    exact ⟨rfl, hb8⟩


end Go.Proofs.YtagnikeaellbiaaGreatDoor

namespace Go.Proofs.YtagnikeaellbiaaGreatDoor
open Go.RowKit M
set_option linter.unusedVariables false

section
variable (ax ay bx by' pc ps : Int) (ac bc : Bool) (gc oc nc cc gd od nd cd : Nat) (w : World)
set_option maxRecDepth 100000 in
set_option maxHeartbeats 1000000 in
theorem chkS_no (mode : Int) (ob : Bool) (h : ob = false ∨ 2305843010818082053 ≤ pc ∨ 2305843010818082053 ≤ ps)
    (B : ∀ w', Below w.heap.size w w' → Calls Tryz.prog 28 #[.int .i64 mode, .agg #[.int .u64 ax, .int .u64 ay, .bool ac], .agg #[.int .u64 bx, .int .u64 by', .bool bc], .slice (some ⟨gc, oc, none⟩) nc cc, .slice (some ⟨gd, od, none⟩) nd cd] w' fun e w'' => e = .returned (.bool ob) ∧ Below w'.heap.size w' w'') :
    Calls Tryz.prog 17 #[.int .i64 mode, .agg #[.int .u64 ax, .int .u64 ay, .bool ac], .agg #[.int .u64 bx, .int .u64 by', .bool bc], .slice (some ⟨gc, oc, none⟩) nc cc, .slice (some ⟨gd, od, none⟩) nd cd, .agg #[.int .u64 pc, .int .u64 ps]] w fun e w' => e = .returned (.bool false) ∧ Below w.heap.size w w' := by
  obtain ⟨X, hX⟩ : ∃ X, X = ((w.alloc (Obj.cells #[.int .u64 ax, .int .u64 ay, .bool ac] 27)).alloc (Obj.cells #[.int .u64 bx, .int .u64 by', .bool bc] 27)).alloc (Obj.cells #[.int .u64 pc, .int .u64 ps] 37) := ⟨_, rfl⟩
  have r2 : P2 X 37 (w.heap.size + 1 + 1) pc ps := by rw [hX]; exact (P2.new _ _ pc ps).at (by simp)
  have hb : Below w.heap.size w X := by rw [hX]; exact ((((Below.refl _ w).alloc (Nat.le_refl _) _).alloc (by simp) _).alloc (by simp; omega) _)
  rw [hX] at r2 hb
  clear hX
  go_enter Tryz.func17, Tryz.ntmps17
  go_wp2_with fail
  refine (B _ hb).mono ?_
  rintro e w1 ⟨rfl, b1⟩
  replace r2 := r2.keep b1
  replace hb := hb.trans (b1.mono hb.size)
  clear B b1
  have d0 := r2.c0
  have d1 := r2.c1
  cases ob with
  | false =>
    clear h
    go_wp2
    go_ret
    exact ⟨rfl, hb⟩
  | true =>
    by_cases hk : 2305843010818082053 ≤ pc
    · clear h
      go_wp2
      go_ret
      exact ⟨rfl, hb⟩
    · have hr : 2305843010818082053 ≤ ps := by
        rcases h with h | h | h
        · cases h
        · exact absurd h hk
        · exact h
      clear h
      go_wp2
      go_ret
      exact ⟨rfl, hb⟩
set_option maxRecDepth 100000 in
set_option maxHeartbeats 4000000 in
theorem chkS_of (md : Nat) (mx my zx zy sax say cbx cby xx xy smx smy czx czy yx yy c : Int) (mc zc sac cbc xc smc czc yc : Bool) (hk : pc < 2305843010818082053) (hr : ps < 2305843010818082053)
    (B : ∀ w', Below w.heap.size w w' → Calls Tryz.prog 28 #[.int .i64 md, .agg #[.int .u64 ax, .int .u64 ay, .bool ac], .agg #[.int .u64 bx, .int .u64 by', .bool bc], .slice (some ⟨gc, oc, none⟩) nc cc, .slice (some ⟨gd, od, none⟩) nd cd] w' fun e w'' => e = .returned (.bool true) ∧ Below w'.heap.size w' w'')
    (CO : ∀ w', Below w.heap.size w w' → Calls Tryz.prog 8 #[.int .i64 md, .agg #[.int .u64 bx, .int .u64 by', .bool bc], .slice (some ⟨gc, oc, none⟩) nc cc, .slice (some ⟨gd, od, none⟩) nd cd] w' fun e w'' => e = .returned (.tuple #[.agg #[.int .u64 mx, .int .u64 my, .bool mc], .agg #[.int .u64 zx, .int .u64 zy, .bool zc], .bool true]) ∧ Below w'.heap.size w' w'')
    (T1 : ∀ w, Calls Tryz.prog 22 #[.int .u64 ps, .agg #[.int .u64 ax, .int .u64 ay, .bool ac]] w fun e w' => e = .returned (.agg #[.int .u64 sax, .int .u64 say, .bool sac]) ∧ Below w.heap.size w w')
    (T2 : ∀ w, Calls Tryz.prog 22 #[.int .u64 pc, .agg #[.int .u64 bx, .int .u64 by', .bool bc]] w fun e w' => e = .returned (.agg #[.int .u64 cbx, .int .u64 cby, .bool cbc]) ∧ Below w.heap.size w w')
    (S1 : ∀ w, Calls Tryz.prog 39 #[.agg #[.int .u64 sax, .int .u64 say, .bool sac], .agg #[.int .u64 cbx, .int .u64 cby, .bool cbc]] w fun e w' => e = .returned (.agg #[.int .u64 xx, .int .u64 xy, .bool xc]) ∧ Below w.heap.size w w')
    (T3 : ∀ w, Calls Tryz.prog 22 #[.int .u64 ps, .agg #[.int .u64 mx, .int .u64 my, .bool mc]] w fun e w' => e = .returned (.agg #[.int .u64 smx, .int .u64 smy, .bool smc]) ∧ Below w.heap.size w w')
    (T4 : ∀ w, Calls Tryz.prog 22 #[.int .u64 pc, .agg #[.int .u64 zx, .int .u64 zy, .bool zc]] w fun e w' => e = .returned (.agg #[.int .u64 czx, .int .u64 czy, .bool czc]) ∧ Below w.heap.size w w')
    (S2 : ∀ w, Calls Tryz.prog 39 #[.agg #[.int .u64 smx, .int .u64 smy, .bool smc], .agg #[.int .u64 czx, .int .u64 czy, .bool czc]] w fun e w' => e = .returned (.agg #[.int .u64 yx, .int .u64 yy, .bool yc]) ∧ Below w.heap.size w w')
    (C : ∀ w, Calls Tryz.prog 33 #[.int .i64 md, .agg #[.int .u64 bx, .int .u64 by', .bool bc], .agg #[.int .u64 mx, .int .u64 my, .bool mc], .agg #[.int .u64 zx, .int .u64 zy, .bool zc], .agg #[.int .u64 xx, .int .u64 xy, .bool xc], .agg #[.int .u64 yx, .int .u64 yy, .bool yc]] w fun e w' => e = .returned (.int .u64 c) ∧ Below w.heap.size w w') :
    Calls Tryz.prog 17 #[.int .i64 md, .agg #[.int .u64 ax, .int .u64 ay, .bool ac], .agg #[.int .u64 bx, .int .u64 by', .bool bc], .slice (some ⟨gc, oc, none⟩) nc cc, .slice (some ⟨gd, od, none⟩) nd cd, .agg #[.int .u64 pc, .int .u64 ps]] w fun e w' => e = .returned (.bool (pc == c)) ∧ Below w.heap.size w w' := by
  obtain ⟨X, hX⟩ : ∃ X, X = ((w.alloc (Obj.cells #[.int .u64 ax, .int .u64 ay, .bool ac] 27)).alloc (Obj.cells #[.int .u64 bx, .int .u64 by', .bool bc] 27)).alloc (Obj.cells #[.int .u64 pc, .int .u64 ps] 37) := ⟨_, rfl⟩
  have ra : R3 X w.heap.size ax ay ac := by rw [hX]; exact ((R3.new _ ax ay ac).alloc _).alloc _
  have rb : R3 X (w.heap.size + 1) bx by' bc := by rw [hX]; exact ((R3.new _ bx by' bc).at (by simp)).alloc _
  have rp : P2 X 37 (w.heap.size + 1 + 1) pc ps := by rw [hX]; exact (P2.new _ _ pc ps).at (by simp)
  have hb : Below w.heap.size w X := by rw [hX]; exact ((((Below.refl _ w).alloc (Nat.le_refl _) _).alloc (by simp) _).alloc (by simp; omega) _)
  rw [hX] at ra rb rp hb
  clear hX
  go_enter Tryz.func17, Tryz.ntmps17
  go_wp2_with fail
  refine (B _ hb).mono ?_
  rintro e w1 ⟨rfl, b1⟩
  replace ra := ra.keep' b1
  replace rb := rb.keep' b1
  replace rp := rp.keep b1
  replace hb := hb.trans (b1.mono hb.size)
  clear B b1
  have a0 := rb.c0
  have a1 := rb.c1
  have a2 := rb.c2
  have d0 := rp.c0
  have d1 := rp.c1
  go_wp2_with fail
  refine (CO _ hb).mono ?_
  rintro e w2 ⟨rfl, b2⟩
  replace ra := ra.keep' b2
  replace rb := rb.keep' b2
  replace rp := rp.keep b2
  replace hb := hb.trans (b2.mono hb.size)
  clear CO b2 a0 a1 a2 d0 d1
  obtain ⟨W3, hW3⟩ : ∃ W3, W3 = (w2.alloc (Obj.cells #[.int .u64 mx, .int .u64 my, .bool mc] 27)).alloc (Obj.cells #[.int .u64 zx, .int .u64 zy, .bool zc] 27) := ⟨_, rfl⟩
  have hB3 : Below w2.heap.size w2 W3 := by rw [hW3]; exact ((Below.refl _ w2).alloc (Nat.le_refl _) _).alloc (by simp) _
  replace ra := ra.keep' hB3
  replace rb := rb.keep' hB3
  replace rp := rp.keep hB3
  replace hb := hb.trans (hB3.mono hb.size)
  have rm : R3 W3 w2.heap.size mx my mc := by rw [hW3]; exact (R3.new _ mx my mc).alloc _
  have rz : R3 W3 (w2.heap.size + 1) zx zy zc := by rw [hW3]; exact (R3.new _ zx zy zc).at (by simp)
  clear hB3
  go_wp2
  rw [← hW3]
  clear hW3
  generalize w2.heap.size = H2 at *
  have a0 : W3.drew.cell? ⟨w.heap.size, 0, none⟩ = _ := ra.c0
  have a1 : W3.drew.cell? ⟨w.heap.size, 1, none⟩ = _ := ra.c1
  have a2 : W3.drew.cell? ⟨w.heap.size, 2, none⟩ = _ := ra.c2
  have b0 : W3.drew.cell? ⟨w.heap.size + 1, 0, none⟩ = _ := rb.c0
  have b1 : W3.drew.cell? ⟨w.heap.size + 1, 1, none⟩ = _ := rb.c1
  have b2 : W3.drew.cell? ⟨w.heap.size + 1, 2, none⟩ = _ := rb.c2
  have d0 : W3.drew.cell? ⟨w.heap.size + 1 + 1, 0, none⟩ = _ := rp.c0
  have d1 : W3.drew.cell? ⟨w.heap.size + 1 + 1, 1, none⟩ = _ := rp.c1
  refine pool_list [.val (.pointer (some ⟨w.heap.size + 1 + 1, 1, none⟩)),
      .val (.int .u64 ps),
      .val (.agg #[.int .u64 ax, .int .u64 ay, .bool ac]),
      .val (.agg #[.int .u64 sax, .int .u64 say, .bool sac]),
      .val (.pointer (some ⟨w.heap.size + 1 + 1, 0, none⟩)),
      .val (.int .u64 pc),
      .val (.agg #[.int .u64 bx, .int .u64 by', .bool bc]),
      .val (.agg #[.int .u64 cbx, .int .u64 cby, .bool cbc]),
      .val (.agg #[.int .u64 xx, .int .u64 xy, .bool xc]),
      .new (.cells #[.int .u64 0, .int .u64 0, .bool false] 27) (.cells #[.int .u64 xx, .int .u64 xy, .bool xc] 27) 10,
      .put 9] [[11], [44], [7], [45, 46], [11], [48], [8], [49, 50], [47, 51], [], [16, 52]] (fun f => [(some 44, .pointer (some ⟨w.heap.size + 1 + 1, 1, none⟩)), (some 45, .int .u64 ps), (some 46, .agg #[.int .u64 ax, .int .u64 ay, .bool ac]), (some 47, .agg #[.int .u64 sax, .int .u64 say, .bool sac]), (some 48, .pointer (some ⟨w.heap.size + 1 + 1, 0, none⟩)), (some 49, .int .u64 pc), (some 50, .agg #[.int .u64 bx, .int .u64 by', .bool bc]), (some 51, .agg #[.int .u64 cbx, .int .u64 cby, .bool cbc]), (some 52, .agg #[.int .u64 xx, .int .u64 xy, .bool xc]), (some 16, .pointer (some ⟨f 9, 0, none⟩)), (none, undef)]) (by kernel_rfl) (by kernel_rfl) (by kernel_rfl) (by kernel_rfl) (fun _ => by kernel_rfl) ?_ ?_
  · intro ix hix
    match ix, hix with
    | 0, _ => exact ob_val [(11, .pointer (some ⟨w.heap.size + 1 + 1, 0, none⟩))] rfl rfl (fun _ => by kernel_rfl) (fun A w ⟨e0, _⟩ hB => fa_prf1 e0)
    | 1, _ => exact ob_val [(44, .pointer (some ⟨w.heap.size + 1 + 1, 1, none⟩))] rfl rfl (fun _ => by kernel_rfl) (fun A w ⟨e0, _⟩ hB => ld_u64 e0 (keepC d1 hB))
    | 2, _ => exact ob_val [(7, .pointer (some ⟨w.heap.size, 0, none⟩))] rfl rfl (fun _ => by kernel_rfl) (fun A w ⟨e0, _⟩ hB => ld_pt e0 (keepC a0 hB) (keepC a1 hB) (keepC a2 hB))
    | 3, _ => exact ob_val [(45, .int .u64 ps), (46, .agg #[.int .u64 ax, .int .u64 ay, .bool ac])] rfl rfl (fun _ => by kernel_rfl) (fun A w ⟨e0, e1, _⟩ hB => cl2 cf_spec_Times e0 e1 (T1 w))
    | 4, _ => exact ob_val [(11, .pointer (some ⟨w.heap.size + 1 + 1, 0, none⟩))] rfl rfl (fun _ => by kernel_rfl) (fun A w ⟨e0, _⟩ hB => fa_prf0 e0)
    | 5, _ => exact ob_val [(48, .pointer (some ⟨w.heap.size + 1 + 1, 0, none⟩))] rfl rfl (fun _ => by kernel_rfl) (fun A w ⟨e0, _⟩ hB => ld_u64 e0 (keepC d0 hB))
    | 6, _ => exact ob_val [(8, .pointer (some ⟨w.heap.size + 1, 0, none⟩))] rfl rfl (fun _ => by kernel_rfl) (fun A w ⟨e0, _⟩ hB => ld_pt e0 (keepC b0 hB) (keepC b1 hB) (keepC b2 hB))
    | 7, _ => exact ob_val [(49, .int .u64 pc), (50, .agg #[.int .u64 bx, .int .u64 by', .bool bc])] rfl rfl (fun _ => by kernel_rfl) (fun A w ⟨e0, e1, _⟩ hB => cl2 cf_spec_Times e0 e1 (T2 w))
    | 8, _ => exact ob_val [(47, .agg #[.int .u64 sax, .int .u64 say, .bool sac]), (51, .agg #[.int .u64 cbx, .int .u64 cby, .bool cbc])] rfl rfl (fun _ => by kernel_rfl) (fun A w ⟨e0, e1, _⟩ hB => cl2 cf_spec_l3Sum e0 e1 (S1 w))
    | 9, _ => exact ob_new rfl rfl (fun A w => al_pt)
    | 10, _ => exact ob_put 16 (fun f => [(16, .pointer (some ⟨f 9, 0, none⟩)), (52, .agg #[.int .u64 xx, .int .u64 xy, .bool xc])]) rfl rfl rfl (by decide) (by kernel_rfl) rfl (fun _ => by kernel_rfl) (fun f A w ⟨e0, e1, _⟩ hr => pu_pt e0 e1 hr)
    | ix + 11, h => exact absurd h (by simp)
  intro f W4 hb4 hnew _
  have hb4' : Below W3.heap.size W3 W4 := (Below.refl _ W3).drew.trans hb4
  have rx : R3 W4 (f 9) xx xy xc := (hnew 9 _ _ _ rfl (by decide)).2
  replace ra := ra.keep' hb4'
  replace rb := rb.keep' hb4'
  replace rp := rp.keep hb4'
  replace rm := rm.keep' hb4'
  replace rz := rz.keep' hb4'
  replace hb := hb.trans (hb4'.mono hb.size)
  generalize f 9 = X9 at *
  clear a0 a1 a2 b0 b1 b2 d0 d1 T1 T2 S1 hb4 hb4' hnew
  simp only [puts, List.foldl, Act.put, List.setIfInBounds_toArray, List.set_cons_zero, List.set_cons_succ]
  go_wp2
  have c0 : W4.drew.cell? ⟨H2, 0, none⟩ = _ := rm.c0
  have c1 : W4.drew.cell? ⟨H2, 1, none⟩ = _ := rm.c1
  have c2 : W4.drew.cell? ⟨H2, 2, none⟩ = _ := rm.c2
  have b0 : W4.drew.cell? ⟨H2 + 1, 0, none⟩ = _ := rz.c0
  have b1 : W4.drew.cell? ⟨H2 + 1, 1, none⟩ = _ := rz.c1
  have b2 : W4.drew.cell? ⟨H2 + 1, 2, none⟩ = _ := rz.c2
  have d0 : W4.drew.cell? ⟨w.heap.size + 1 + 1, 0, none⟩ = _ := rp.c0
  have d1 : W4.drew.cell? ⟨w.heap.size + 1 + 1, 1, none⟩ = _ := rp.c1
  refine pool_list [.val (.pointer (some ⟨w.heap.size + 1 + 1, 1, none⟩)),
      .val (.int .u64 ps),
      .val (.agg #[.int .u64 mx, .int .u64 my, .bool mc]),
      .val (.agg #[.int .u64 smx, .int .u64 smy, .bool smc]),
      .val (.pointer (some ⟨w.heap.size + 1 + 1, 0, none⟩)),
      .val (.int .u64 pc),
      .val (.agg #[.int .u64 zx, .int .u64 zy, .bool zc]),
      .val (.agg #[.int .u64 czx, .int .u64 czy, .bool czc]),
      .val (.agg #[.int .u64 yx, .int .u64 yy, .bool yc]),
      .new (.cells #[.int .u64 0, .int .u64 0, .bool false] 27) (.cells #[.int .u64 yx, .int .u64 yy, .bool yc] 27) 10,
      .put 9] [[11], [53], [13], [54, 55], [11], [57], [14], [58, 59], [56, 60], [], [17, 61]] (fun f => [(some 53, .pointer (some ⟨w.heap.size + 1 + 1, 1, none⟩)), (some 54, .int .u64 ps), (some 55, .agg #[.int .u64 mx, .int .u64 my, .bool mc]), (some 56, .agg #[.int .u64 smx, .int .u64 smy, .bool smc]), (some 57, .pointer (some ⟨w.heap.size + 1 + 1, 0, none⟩)), (some 58, .int .u64 pc), (some 59, .agg #[.int .u64 zx, .int .u64 zy, .bool zc]), (some 60, .agg #[.int .u64 czx, .int .u64 czy, .bool czc]), (some 61, .agg #[.int .u64 yx, .int .u64 yy, .bool yc]), (some 17, .pointer (some ⟨f 9, 0, none⟩)), (none, undef)]) (by kernel_rfl) (by kernel_rfl) (by kernel_rfl) (by kernel_rfl) (fun _ => by kernel_rfl) ?_ ?_
  · intro ix hix
    match ix, hix with
    | 0, _ => exact ob_val [(11, .pointer (some ⟨w.heap.size + 1 + 1, 0, none⟩))] rfl rfl (fun _ => by kernel_rfl) (fun A w ⟨e0, _⟩ hB => fa_prf1 e0)
    | 1, _ => exact ob_val [(53, .pointer (some ⟨w.heap.size + 1 + 1, 1, none⟩))] rfl rfl (fun _ => by kernel_rfl) (fun A w ⟨e0, _⟩ hB => ld_u64 e0 (keepC d1 hB))
    | 2, _ => exact ob_val [(13, .pointer (some ⟨H2, 0, none⟩))] rfl rfl (fun _ => by kernel_rfl) (fun A w ⟨e0, _⟩ hB => ld_pt e0 (keepC c0 hB) (keepC c1 hB) (keepC c2 hB))
    | 3, _ => exact ob_val [(54, .int .u64 ps), (55, .agg #[.int .u64 mx, .int .u64 my, .bool mc])] rfl rfl (fun _ => by kernel_rfl) (fun A w ⟨e0, e1, _⟩ hB => cl2 cf_spec_Times e0 e1 (T3 w))
    | 4, _ => exact ob_val [(11, .pointer (some ⟨w.heap.size + 1 + 1, 0, none⟩))] rfl rfl (fun _ => by kernel_rfl) (fun A w ⟨e0, _⟩ hB => fa_prf0 e0)
    | 5, _ => exact ob_val [(57, .pointer (some ⟨w.heap.size + 1 + 1, 0, none⟩))] rfl rfl (fun _ => by kernel_rfl) (fun A w ⟨e0, _⟩ hB => ld_u64 e0 (keepC d0 hB))
    | 6, _ => exact ob_val [(14, .pointer (some ⟨H2 + 1, 0, none⟩))] rfl rfl (fun _ => by kernel_rfl) (fun A w ⟨e0, _⟩ hB => ld_pt e0 (keepC b0 hB) (keepC b1 hB) (keepC b2 hB))
    | 7, _ => exact ob_val [(58, .int .u64 pc), (59, .agg #[.int .u64 zx, .int .u64 zy, .bool zc])] rfl rfl (fun _ => by kernel_rfl) (fun A w ⟨e0, e1, _⟩ hB => cl2 cf_spec_Times e0 e1 (T4 w))
    | 8, _ => exact ob_val [(56, .agg #[.int .u64 smx, .int .u64 smy, .bool smc]), (60, .agg #[.int .u64 czx, .int .u64 czy, .bool czc])] rfl rfl (fun _ => by kernel_rfl) (fun A w ⟨e0, e1, _⟩ hB => cl2 cf_spec_l3Sum e0 e1 (S2 w))
    | 9, _ => exact ob_new rfl rfl (fun A w => al_pt)
    | 10, _ => exact ob_put 17 (fun f => [(17, .pointer (some ⟨f 9, 0, none⟩)), (61, .agg #[.int .u64 yx, .int .u64 yy, .bool yc])]) rfl rfl rfl (by decide) (by kernel_rfl) rfl (fun _ => by kernel_rfl) (fun f A w ⟨e0, e1, _⟩ hr => pu_pt e0 e1 hr)
    | ix + 11, h => exact absurd h (by simp)
  intro f W5 hb5 hnew _
  have hb5' : Below W4.heap.size W4 W5 := (Below.refl _ W4).drew.trans hb5
  have ry : R3 W5 (f 9) yx yy yc := (hnew 9 _ _ _ rfl (by decide)).2
  replace ra := ra.keep' hb5'
  replace rb := rb.keep' hb5'
  replace rp := rp.keep hb5'
  replace rm := rm.keep' hb5'
  replace rz := rz.keep' hb5'
  replace rx := rx.keep' hb5'
  replace hb := hb.trans (hb5'.mono hb.size)
  generalize f 9 = Y9 at *
  clear c0 c1 c2 b0 b1 b2 d0 d1 T3 T4 S2 hb5 hb5' hnew
  simp only [puts, List.foldl, Act.put, List.setIfInBounds_toArray, List.set_cons_zero, List.set_cons_succ]
  go_wp2
  have b0 : W5.drew.cell? ⟨w.heap.size + 1, 0, none⟩ = _ := rb.c0
  have b1 : W5.drew.cell? ⟨w.heap.size + 1, 1, none⟩ = _ := rb.c1
  have b2 : W5.drew.cell? ⟨w.heap.size + 1, 2, none⟩ = _ := rb.c2
  have c0 : W5.drew.cell? ⟨H2, 0, none⟩ = _ := rm.c0
  have c1 : W5.drew.cell? ⟨H2, 1, none⟩ = _ := rm.c1
  have c2 : W5.drew.cell? ⟨H2, 2, none⟩ = _ := rm.c2
  have z0 : W5.drew.cell? ⟨H2 + 1, 0, none⟩ = _ := rz.c0
  have z1 : W5.drew.cell? ⟨H2 + 1, 1, none⟩ = _ := rz.c1
  have z2 : W5.drew.cell? ⟨H2 + 1, 2, none⟩ = _ := rz.c2
  have x0 : W5.drew.cell? ⟨X9, 0, none⟩ = _ := rx.c0
  have x1 : W5.drew.cell? ⟨X9, 1, none⟩ = _ := rx.c1
  have x2 : W5.drew.cell? ⟨X9, 2, none⟩ = _ := rx.c2
  have y0 : W5.drew.cell? ⟨Y9, 0, none⟩ = _ := ry.c0
  have y1 : W5.drew.cell? ⟨Y9, 1, none⟩ = _ := ry.c1
  have y2 : W5.drew.cell? ⟨Y9, 2, none⟩ = _ := ry.c2
  have d0 : W5.drew.cell? ⟨w.heap.size + 1 + 1, 0, none⟩ = _ := rp.c0
  refine pool_list [.val (.pointer (some ⟨w.heap.size + 1 + 1, 0, none⟩)),
      .val (.int .u64 pc),
      .val (.int .i64 (md : Int)),
      .val (.agg #[.int .u64 bx, .int .u64 by', .bool bc]),
      .val (.agg #[.int .u64 mx, .int .u64 my, .bool mc]),
      .val (.agg #[.int .u64 zx, .int .u64 zy, .bool zc]),
      .val (.agg #[.int .u64 xx, .int .u64 xy, .bool xc]),
      .val (.agg #[.int .u64 yx, .int .u64 yy, .bool yc]),
      .val (.int .u64 c),
      .val (.bool (pc == c)),
      .val (.bool (pc == c))] [[11], [62], [0], [8], [13], [14], [16], [17], [64, 65, 66, 67, 68, 69], [63, 70], [71]] (fun f => [(some 62, .pointer (some ⟨w.heap.size + 1 + 1, 0, none⟩)), (some 63, .int .u64 pc), (some 64, .int .i64 (md : Int)), (some 65, .agg #[.int .u64 bx, .int .u64 by', .bool bc]), (some 66, .agg #[.int .u64 mx, .int .u64 my, .bool mc]), (some 67, .agg #[.int .u64 zx, .int .u64 zy, .bool zc]), (some 68, .agg #[.int .u64 xx, .int .u64 xy, .bool xc]), (some 69, .agg #[.int .u64 yx, .int .u64 yy, .bool yc]), (some 70, .int .u64 c), (some 71, .bool (pc == c)), (some 12, .bool (pc == c))]) (by kernel_rfl) (by kernel_rfl) (by kernel_rfl) (by kernel_rfl) (fun _ => by kernel_rfl) ?_ ?_
  · intro ix hix
    match ix, hix with
    | 0, _ => exact ob_val [(11, .pointer (some ⟨w.heap.size + 1 + 1, 0, none⟩))] rfl rfl (fun _ => by kernel_rfl) (fun A w ⟨e0, _⟩ hB => fa_prf0 e0)
    | 1, _ => exact ob_val [(62, .pointer (some ⟨w.heap.size + 1 + 1, 0, none⟩))] rfl rfl (fun _ => by kernel_rfl) (fun A w ⟨e0, _⟩ hB => ld_u64 e0 (keepC d0 hB))
    | 2, _ => exact ob_val [(0, .int .i64 (md : Int))] rfl rfl (fun _ => by kernel_rfl) (fun A w ⟨e0, _⟩ hB => doV_move e0)
    | 3, _ => exact ob_val [(8, .pointer (some ⟨w.heap.size + 1, 0, none⟩))] rfl rfl (fun _ => by kernel_rfl) (fun A w ⟨e0, _⟩ hB => ld_pt e0 (keepC b0 hB) (keepC b1 hB) (keepC b2 hB))
    | 4, _ => exact ob_val [(13, .pointer (some ⟨H2, 0, none⟩))] rfl rfl (fun _ => by kernel_rfl) (fun A w ⟨e0, _⟩ hB => ld_pt e0 (keepC c0 hB) (keepC c1 hB) (keepC c2 hB))
    | 5, _ => exact ob_val [(14, .pointer (some ⟨H2 + 1, 0, none⟩))] rfl rfl (fun _ => by kernel_rfl) (fun A w ⟨e0, _⟩ hB => ld_pt e0 (keepC z0 hB) (keepC z1 hB) (keepC z2 hB))
    | 6, _ => exact ob_val [(16, .pointer (some ⟨X9, 0, none⟩))] rfl rfl (fun _ => by kernel_rfl) (fun A w ⟨e0, _⟩ hB => ld_pt e0 (keepC x0 hB) (keepC x1 hB) (keepC x2 hB))
    | 7, _ => exact ob_val [(17, .pointer (some ⟨Y9, 0, none⟩))] rfl rfl (fun _ => by kernel_rfl) (fun A w ⟨e0, _⟩ hB => ld_pt e0 (keepC y0 hB) (keepC y1 hB) (keepC y2 hB))
    | 8, _ => exact ob_val [(64, .int .i64 (md : Int)), (65, .agg #[.int .u64 bx, .int .u64 by', .bool bc]), (66, .agg #[.int .u64 mx, .int .u64 my, .bool mc]), (67, .agg #[.int .u64 zx, .int .u64 zy, .bool zc]), (68, .agg #[.int .u64 xx, .int .u64 xy, .bool xc]), (69, .agg #[.int .u64 yx, .int .u64 yy, .bool yc])] rfl rfl (fun _ => by kernel_rfl) (fun A w ⟨e0, e1, e2, e3, e4, e5, _⟩ hB => cl6 cf_spec_l5Challenge e0 e1 e2 e3 e4 e5 (C w))
    | 9, _ => exact ob_val [(63, .int .u64 pc), (70, .int .u64 c)] rfl rfl (fun _ => by kernel_rfl) (fun A w ⟨e0, e1, _⟩ hB => eq_u64 e0 e1)
    | 10, _ => exact ob_val [(71, .bool (pc == c))] rfl rfl (fun _ => by kernel_rfl) (fun A w ⟨e0, _⟩ hB => doV_assign e0)
    | ix + 11, h => exact absurd h (by simp)
  intro f W6 hb6 _ _
  have hb6' := hb.drew.trans (hb6.mono hb.size)
  simp only [puts, List.foldl, Act.put, List.setIfInBounds_toArray, List.set_cons_zero, List.set_cons_succ]
  go_wp2
  go_ret
  exact ⟨rfl, hb6'⟩
end
/-- what a proof's check says -/
noncomputable def chkC (md c s : Nat) (a b : Tri) (cs ds : List Tri) : Nat := chal md (asT b) (comM md b cs ds cs) (comM md b cs ds ds) (ad (nt s (asT a)) (nt c (asT b))) (ad (nt s (comM md b cs ds cs)) (nt c (comM md b cs ds ds)))
noncomputable def chkB (mode : Int) (a b : Tri) (cs ds : List Tri) (c s : Nat) : Bool := batB mode a b cs ds && decide (c < 2305843010818082053) && decide (s < 2305843010818082053) && decide (c = chkC mode.toNat c s a b cs ds)
theorem batB_b {mode : Int} {a b : Tri} {cs ds : List Tri} (h : batB mode a b cs ds = true) : batB mode b b cs ds = true := by
  rw [batB_iff] at h ⊢
  obtain ⟨h1, -, h3, h4⟩ := h
  exact ⟨h1, h3, h3, h4⟩
/-- the model's check -/
theorem chkS_any (mode : Int) (a b : Tri) (cs ds : List Tri) (c s gc oc cc gd od cd : Nat) (w : World) (hc : Pts w gc oc cs) (hd : Pts w gd od ds) :
    Calls Tryz.prog 17 #[.int .i64 mode, triW a, triW b, .slice (some ⟨gc, oc, none⟩) cs.length cc, .slice (some ⟨gd, od, none⟩) ds.length cd, .agg #[.int .u64 c, .int .u64 s]] w fun e w' => e = .returned (.bool (chkB mode a b cs ds c s)) ∧ Below w.heap.size w w' := by
  by_cases h : batB mode a b cs ds = true ∧ c < 2305843010818082053 ∧ s < 2305843010818082053
  · obtain ⟨hB, hlc, hls⟩ := h
    have hbb := batB_b hB
    have h' := hB
    rw [batB_iff] at h'
    obtain ⟨h1, h2, h3, h4, h5, -, -⟩ := h'
    obtain ⟨md, rfl⟩ : ∃ k : Nat, mode = (k : Int) := ⟨mode.toNat, by omega⟩
    have e : chkB md a b cs ds c s = ((c : Int) == ((chkC md c s a b cs ds : Nat) : Int)) := by
      unfold chkB
      rw [hB, decide_eq_true hlc, decide_eq_true hls, Int.toNat_natCast]
      rw [Bool.eq_iff_iff]
      simp
      omega
    rw [e]
    have hBt : ∀ w', Below w.heap.size w w' → Calls Tryz.prog 28 #[.int .i64 md, triW a, triW b, .slice (some ⟨gc, oc, none⟩) cs.length cc, .slice (some ⟨gd, od, none⟩) ds.length cd] w' fun e w'' => e = .returned (.bool true) ∧ Below w'.heap.size w' w'' := fun w' hb => by
      have := batS_any md a b cs ds gc oc cc gd od cd w' (hc.below hb hc.lt) (hd.below hb hd.lt)
      rw [hB] at this
      exact this
    have hCo : ∀ w', Below w.heap.size w w' → Calls Tryz.prog 8 #[.int .i64 md, triW b, .slice (some ⟨gc, oc, none⟩) cs.length cc, .slice (some ⟨gd, od, none⟩) ds.length cd] w' fun e w'' => e = .returned (.tuple #[ptW (comM md b cs ds cs), ptW (comM md b cs ds ds), .bool true]) ∧ Below w'.heap.size w' w'' := fun w' hb =>
      comS_yes md b cs ds gc oc cc gd od cd w' (hc.below hb hc.lt) (hd.below hb hd.lt) hbb
    have hom := comM_on md b cs ds cs
    have hoz := comM_on md b cs ds ds
    have hoa := asT_on a
    have hob := asT_on b
    have hC := fun w => chlS_any md hob hom hoz (ad_on (nt_on hoa s) (nt_on hob c)) (ad_on (nt_on hom s) (nt_on hoz c)) w (by omega)
    rw [triW_of h2, triW_of h3, ptW_eq, ptW_eq] at hBt
    rw [triW_of h3, ptW_eq, ptW_eq, ptW_eq] at hCo
    rw [ptW_eq, ptW_eq, ptW_eq, ptW_eq, ptW_eq] at hC
    rw [triW_of h2, triW_of h3, ptW_eq, ptW_eq]
    exact chkS_of _ _ _ _ c s _ _ gc oc cs.length cc gd od ds.length cd w md _ _ _ _ _ _ _ _ _ _ _ _ _ _ _ _ _ _ _ _ _ _ _ _ _ (by omega) (by omega) hBt hCo
      (tiS_pt hoa s (by omega)) (tiS_pt hob c (by omega)) (sumS_xyz _ _) (tiS_pt hom s (by omega)) (tiS_pt hoz c (by omega)) (sumS_xyz _ _) hC
  · have e : chkB mode a b cs ds c s = false := by
      cases hh : chkB mode a b cs ds c s with
      | false => rfl
      | true =>
        unfold chkB at hh
        simp only [Bool.and_eq_true, decide_eq_true_eq] at hh
        exact absurd ⟨hh.1.1.1, hh.1.1.2, hh.1.2⟩ h
    rw [e]
    refine chkS_no _ _ _ _ c s _ _ gc oc cs.length cc gd od ds.length cd w mode (batB mode a b cs ds) ?_ (fun w' hb => batS_any mode a b cs ds gc oc cc gd od cd w' (hc.below hb hc.lt) (hd.below hb hd.lt))
    cases hh : batB mode a b cs ds with
    | false => exact .inl rfl
    | true =>
      right
      by_cases hk : c < 2305843010818082053
      · right
        have : ¬ s < 2305843010818082053 := fun h' => h ⟨hh, hk, h'⟩
        omega
      · left; omega
end Go.Proofs.YtagnikeaellbiaaGreatDoor

/-
  Proofs, purely: what Prove makes, Check takes.
-/
namespace Go.Proofs.YtagnikeaellbiaaGreatDoor
open Go.RowKit M
set_option linter.unusedVariables false

theorem mix_nt {ws : List Int} {ps : List Pt} (h : ∀ p ∈ ps, on p) (k : Nat) : ∀ n, mixTo ws (ps.map (nt k)) n = nt k (mixTo ws ps n)
  | 0 => (nt_none k).symm
  | n + 1 => by
    have hp : on (ps.getD n none) := by
      rw [List.getD_eq_getElem?_getD]
      cases hn : ps[n]? with
      | none => trivial
      | some p => exact h p (List.mem_of_getElem? hn)
    have e : (ps.map (nt k)).getD n none = nt k (ps.getD n none) := by
      rw [List.getD_eq_getElem?_getD, List.getD_eq_getElem?_getD, List.getElem?_map]
      cases ps[n]? with
      | none => exact (nt_none k).symm
      | some p => rfl
    rw [mixTo, mixTo, mix_nt h k n, e, nt_ad (mixTo_on h n) (nt_on hp _), nt_mul hp, nt_mul hp, Nat.mul_comm]
/-- the answer of a proof undoes the challenge -/
theorem back_n {p : Pt} (hp : on p) (r c k : Nat) : ad (nt ((r + (2305843010818082053 - c * k % 2305843010818082053) % 2305843010818082053) % 2305843010818082053) p) (nt c (nt k p)) = nt r p := by
  rw [nt_mod hp, nt_mul hp, ← nt_add hp, ← nt_mod hp, ← nt_mod hp r]
  congr 1
  generalize c * k = x
  omega
theorem chk_prv (md k r : Nat) (a b : Tri) (cs ds : List Tri) (hb : asT b = nt k (asT a)) (hd : ds.map asT = (cs.map asT).map (nt k)) :
    chkC md (prvC md k r a b cs ds) (prvN md k r a b cs ds) a b cs ds = prvC md k r a b cs ds := by
  have e : comM md b cs ds ds = nt k (comM md b cs ds cs) := by
    unfold comM
    rw [← mix_nt (asT_list cs) k, ← hd]
  have e2 : ad (nt (prvN md k r a b cs ds) (asT a)) (nt (prvC md k r a b cs ds) (nt k (asT a))) = nt r (asT a) := back_n (asT_on a) r _ k
  have e3 : ad (nt (prvN md k r a b cs ds) (comM md b cs ds cs)) (nt (prvC md k r a b cs ds) (nt k (comM md b cs ds cs))) = nt r (comM md b cs ds cs) := back_n (comM_on md b cs ds cs) r _ k
  unfold chkC
  rw [e, hb, e2, e3, ← hb]
  rfl
theorem com_nt (md k : Nat) (b : Tri) (cs ds : List Tri) (hd : ds.map asT = (cs.map asT).map (nt k)) : comM md b cs ds ds = nt k (comM md b cs ds cs) := by
  unfold comM
  rw [← mix_nt (asT_list cs) k, ← hd]
theorem prvN_lt (md k r : Nat) (a b : Tri) (cs ds : List Tri) : prvN md k r a b cs ds < 2305843010818082053 := Nat.mod_lt _ (by decide)
theorem chkB_prv (md k r : Nat) (a b : Tri) (cs ds : List Tri) (hB : batB md a b cs ds = true) (hb : asT b = nt k (asT a)) (hd : ds.map asT = (cs.map asT).map (nt k)) :
    chkB md a b cs ds (prvC md k r a b cs ds) (prvN md k r a b cs ds) = true := by
  unfold chkB
  rw [hB, decide_eq_true (prvC_lt md k r a b cs ds), decide_eq_true (prvN_lt md k r a b cs ds), Int.toNat_natCast, chk_prv md k r a b cs ds hb hd]
  simp
/-- lists of unequal length are refused -/
theorem batB_uneq (mode : Int) (a b : Tri) (cs ds : List Tri) (h : cs.length ≠ ds.length) : batB mode a b cs ds = false := by
  cases e : batB mode a b cs ds with
  | false => rfl
  | true => exact absurd ((batB_iff mode a b cs ds).1 e).2.2.2.2.1 h
theorem chkB_uneq (mode : Int) (a b : Tri) (cs ds : List Tri) (c s : Nat) (h : cs.length ≠ ds.length) : chkB mode a b cs ds c s = false := by
  unfold chkB
  rw [batB_uneq mode a b cs ds h]
  rfl
/-- a point's fields as numbers -/
noncomputable def ptT (p : Pt) : Tri := ((px p).toNat, (py p).toNat, pb p)
end Go.Proofs.YtagnikeaellbiaaGreatDoor
