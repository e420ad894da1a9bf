import Derived.Test.YtenggagjgmonoaaGreatDoorMrg35
namespace Go.Proofs.YtenggagjgmonoaaGreatDoor
open Go.RowKit M
set_option linter.unusedVariables false

def nth3 (x y z : Int) : Nat → Int
  | 0 => x
  | 1 => y
  | _ => z
theorem T3.nth {W : World} {b : Nat} {x y z : Int} (h : T3 W b x y z) {i : Nat} (hi : i < 3) : W.cell? ⟨b, i, none⟩ = some (.int .u64 (nth3 x y z i)) := by
  match i, hi with
  | 0, _ => exact h.c0
  | 1, _ => exact h.c1
  | 2, _ => exact h.c2
set_option maxRecDepth 100000 in
set_option maxHeartbeats 8000000 in
theorem crs_of (X1 Y1 Z1 X2 Y2 Z2 ti tj ui uj a b c : Int) (i j : Nat) (hi : i < 3) (hj : j < 3) (w : World)
    (eti : nth3 X1 Y1 Z1 i = ti) (etj : nth3 X1 Y1 Z1 j = tj) (eui : nth3 X2 Y2 Z2 i = ui) (euj : nth3 X2 Y2 Z2 j = uj)
    (Ka : CalN 37 #[.agg #[.int .u64 ti], .agg #[.int .u64 uj]] a) (Kb : CalN 37 #[.agg #[.int .u64 tj], .agg #[.int .u64 ui]] b) (Kc : CalN 38 #[.agg #[.int .u64 a], .agg #[.int .u64 b]] c) :
    Calls Tryz.prog 63 #[.agg #[.int .u64 X1, .int .u64 Y1, .int .u64 Z1], .agg #[.int .u64 X2, .int .u64 Y2, .int .u64 Z2], .int .i64 (i : Int), .int .i64 (j : Int)] w fun e w' => e = .returned (.agg #[.int .u64 c]) ∧ Below w.heap.size w w' := by
  obtain ⟨X, hX⟩ : ∃ X, X = ((w.alloc (Obj.cells #[.int .u64 X1, .int .u64 Y1, .int .u64 Z1] 87)).alloc (Obj.cells #[.int .u64 X2, .int .u64 Y2, .int .u64 Z2] 87)).alloc (Obj.cells #[.int .u64 0] 49) := ⟨_, rfl⟩
  have tt : T3 X w.heap.size X1 Y1 Z1 := by rw [hX]; exact ((T3.new w X1 Y1 Z1).alloc _).alloc _
  have tu : T3 X (w.heap.size + 1) X2 Y2 Z2 := by rw [hX]; exact ((T3.new _ X2 Y2 Z2).at (by simp)).alloc _
  have tr : R1 X (w.heap.size + 1 + 1) 0 := by rw [hX]; exact (R1.new _ 0).at (by simp)
  have hb : Below w.heap.size w X := by rw [hX]; exact (((Below.refl _ w).alloc (Nat.le_refl _) _).alloc (by simp) _).alloc (by simp; omega) _
  have h1 : X.drew.cell? ⟨w.heap.size, i, none⟩ = some (.int .u64 ti) := eti ▸ tt.drew.nth hi
  have h2 : X.drew.cell? ⟨w.heap.size, j, none⟩ = some (.int .u64 tj) := etj ▸ tt.drew.nth hj
  have h3 : X.drew.cell? ⟨w.heap.size + 1, i, none⟩ = some (.int .u64 ui) := eui ▸ tu.drew.nth hi
  have h4 : X.drew.cell? ⟨w.heap.size + 1, j, none⟩ = some (.int .u64 uj) := euj ▸ tu.drew.nth hj
  rw [hX] at tr hb h1 h2 h3 h4
  clear hX tt tu eti etj eui euj
  go_enter Tryz.func63, Tryz.ntmps63
  go_wp2
  refine pool_tail [.val (.int .i64 (i : Int)),
    .val (.pointer (some ⟨w.heap.size, i, none⟩)),
    .val (.agg #[.int .u64 ti]),
    .val (.int .i64 (j : Int)),
    .val (.pointer (some ⟨w.heap.size + 1, j, none⟩)),
    .val (.agg #[.int .u64 uj]),
    .val (.agg #[.int .u64 a]),
    .val (.int .i64 (j : Int)),
    .val (.pointer (some ⟨w.heap.size, j, none⟩)),
    .val (.agg #[.int .u64 tj]),
    .val (.int .i64 (i : Int)),
    .val (.pointer (some ⟨w.heap.size + 1, i, none⟩)),
    .val (.agg #[.int .u64 ui]),
    .val (.agg #[.int .u64 b]),
    .val (.agg #[.int .u64 c]),
    .val undef] [[2], [4, 9], [10], [3], [5, 12], [13], [11, 14], [3], [4, 16], [17], [2], [5, 19], [20], [18, 21], [15, 22], [8, 23]] (fun f => [(some 9, .int .i64 (i : Int)), (some 10, .pointer (some ⟨w.heap.size, i, none⟩)), (some 11, .agg #[.int .u64 ti]), (some 12, .int .i64 (j : Int)), (some 13, .pointer (some ⟨w.heap.size + 1, j, none⟩)), (some 14, .agg #[.int .u64 uj]), (some 15, .agg #[.int .u64 a]), (some 16, .int .i64 (j : Int)), (some 17, .pointer (some ⟨w.heap.size, j, none⟩)), (some 18, .agg #[.int .u64 tj]), (some 19, .int .i64 (i : Int)), (some 20, .pointer (some ⟨w.heap.size + 1, i, none⟩)), (some 21, .agg #[.int .u64 ui]), (some 22, .agg #[.int .u64 b]), (some 23, .agg #[.int .u64 c])]) (fun f => [(8, .pointer (some ⟨w.heap.size + 1 + 1, 0, none⟩)), (23, .agg #[.int .u64 c])]) (by kernel_rfl) (by kernel_rfl) (by kernel_rfl) (by kernel_rfl) (by kernel_rfl) (fun _ => by kernel_rfl) ?_ rfl (fun _ => by kernel_rfl) ?_
  · intro ix hix
    match ix, hix with
    | 0, _ => exact ob_val [(2, .int .i64 (i : Int))] rfl rfl (fun _ => by kernel_rfl) (fun A w ⟨e0, _⟩ hB => do_move e0)
    | 1, _ => exact ob_val [(4, .pointer (some ⟨w.heap.size, 0, none⟩)), (9, .int .i64 (i : Int))] rfl rfl (fun _ => by kernel_rfl) (fun A w ⟨e0, e1, _⟩ hB => do_idxT hi e0 e1)
    | 2, _ => exact ob_val [(10, .pointer (some ⟨w.heap.size, i, none⟩))] rfl rfl (fun _ => by kernel_rfl) (fun A w ⟨e0, _⟩ hB => do_loadC e0 h1 hB)
    | 3, _ => exact ob_val [(3, .int .i64 (j : Int))] rfl rfl (fun _ => by kernel_rfl) (fun A w ⟨e0, _⟩ hB => do_move e0)
    | 4, _ => exact ob_val [(5, .pointer (some ⟨w.heap.size + 1, 0, none⟩)), (12, .int .i64 (j : Int))] rfl rfl (fun _ => by kernel_rfl) (fun A w ⟨e0, e1, _⟩ hB => do_idxT hj e0 e1)
    | 5, _ => exact ob_val [(13, .pointer (some ⟨w.heap.size + 1, j, none⟩))] rfl rfl (fun _ => by kernel_rfl) (fun A w ⟨e0, _⟩ hB => do_loadC e0 h4 hB)
    | 6, _ => exact ob_val [(11, .agg #[.int .u64 ti]), (14, .agg #[.int .u64 uj])] rfl rfl (fun _ => by kernel_rfl) (fun A w ⟨e0, e1, _⟩ hB => do_call2 cf_times e0 e1 (Ka w))
    | 7, _ => exact ob_val [(3, .int .i64 (j : Int))] rfl rfl (fun _ => by kernel_rfl) (fun A w ⟨e0, _⟩ hB => do_move e0)
    | 8, _ => exact ob_val [(4, .pointer (some ⟨w.heap.size, 0, none⟩)), (16, .int .i64 (j : Int))] rfl rfl (fun _ => by kernel_rfl) (fun A w ⟨e0, e1, _⟩ hB => do_idxT hj e0 e1)
    | 9, _ => exact ob_val [(17, .pointer (some ⟨w.heap.size, j, none⟩))] rfl rfl (fun _ => by kernel_rfl) (fun A w ⟨e0, _⟩ hB => do_loadC e0 h2 hB)
    | 10, _ => exact ob_val [(2, .int .i64 (i : Int))] rfl rfl (fun _ => by kernel_rfl) (fun A w ⟨e0, _⟩ hB => do_move e0)
    | 11, _ => exact ob_val [(5, .pointer (some ⟨w.heap.size + 1, 0, none⟩)), (19, .int .i64 (i : Int))] rfl rfl (fun _ => by kernel_rfl) (fun A w ⟨e0, e1, _⟩ hB => do_idxT hi e0 e1)
    | 12, _ => exact ob_val [(20, .pointer (some ⟨w.heap.size + 1, i, none⟩))] rfl rfl (fun _ => by kernel_rfl) (fun A w ⟨e0, _⟩ hB => do_loadC e0 h3 hB)
    | 13, _ => exact ob_val [(18, .agg #[.int .u64 tj]), (21, .agg #[.int .u64 ui])] rfl rfl (fun _ => by kernel_rfl) (fun A w ⟨e0, e1, _⟩ hB => do_call2 cf_times e0 e1 (Kb w))
    | 14, _ => exact ob_val [(15, .agg #[.int .u64 a]), (22, .agg #[.int .u64 b])] rfl rfl (fun _ => by kernel_rfl) (fun A w ⟨e0, e1, _⟩ hB => do_call2 cf_plus e0 e1 (Kc w))
    | ix + 15, h => exact absurd h (by simp)
  rintro f A w9 ⟨e0, e1, _⟩ hB _
  replace tr := (tr.drew).keep hB
  replace hb := keepB hb.drew hb.size hB
  refine does_skip (exec_store e0 e1 tr) ?_
  simp only [puts, List.foldl, Act.put, List.setIfInBounds_toArray, List.set_cons_zero, List.set_cons_succ]
  go_wp2
  exact bodyPost_ret (v := .agg #[.int .u64 c]) (num_res (fn := Tryz.f63) (p := 8) Tryz.results63 _ rfl (tr.set c)) rfl ⟨rfl, hb.setCell (p := ⟨w.heap.size + 1 + 1, 0, none⟩) (by simp; omega) _⟩
theorem crV (X1 Y1 Z1 X2 Y2 Z2 a b c d : Fp) (i j : Nat) (hi : i < 3) (hj : j < 3) (h1 : nth3 (fv X1) (fv Y1) (fv Z1) i = fv a) (h2 : nth3 (fv X1) (fv Y1) (fv Z1) j = fv b) (h3 : nth3 (fv X2) (fv Y2) (fv Z2) i = fv c) (h4 : nth3 (fv X2) (fv Y2) (fv Z2) j = fv d) :
    CalN 63 #[.agg #[.int .u64 (fv X1), .int .u64 (fv Y1), .int .u64 (fv Z1)], .agg #[.int .u64 (fv X2), .int .u64 (fv Y2), .int .u64 (fv Z2)], .int .i64 (i : Int), .int .i64 (j : Int)] (fv (a * d + b * c)) := fun w =>
  crs_of _ _ _ _ _ _ (fv a) (fv b) (fv c) (fv d) (fv (a * d)) (fv (b * c)) (fv (a * d + b * c)) i j hi hj w h1 h2 h3 h4 (tmV a d) (tmV b c) (plV _ _)
end Go.Proofs.YtenggagjgmonoaaGreatDoor

namespace Go.Proofs.YtenggagjgmonoaaGreatDoor
open Go.RowKit M
set_option linter.unusedVariables false

/-- the sum of triples is the curve's, in three coordinates -/
theorem trV (X1 Y1 Z1 X2 Y2 Z2 : Fp) (w : World) :
    Calls Tryz.prog 53 #[.agg #[.int .u64 (fv X1), .int .u64 (fv Y1), .int .u64 (fv Z1)], .agg #[.int .u64 (fv X2), .int .u64 (fv Y2), .int .u64 (fv Z2)]] w
      fun e w' => e = .returned (.agg #[.int .u64 (fv (cX X1 Y1 Z1 X2 Y2 Z2)), .int .u64 (fv (cY X1 Y1 Z1 X2 Y2 Z2)), .int .u64 (fv (cZ X1 Y1 Z1 X2 Y2 Z2))]) ∧ Below w.heap.size w w' := by
  have K := trp_of (fv X1) (fv Y1) (fv Z1) (fv X2) (fv Y2) (fv Z2) _ _ _ _ _ _ _ _ _ _ _ _ _ _ _ _ _ _ _ _ _ _ _ _ _ _ _ _ _ w rd3 rd111 (tmV X1 X2) (tmV Y1 Y2) (tmV Z1 Z2)
    (crV X1 Y1 Z1 X2 Y2 Z2 X1 Y1 X2 Y2 0 1 (by decide) (by decide) rfl rfl rfl rfl)
    (crV X1 Y1 Z1 X2 Y2 Z2 X1 Z1 X2 Z2 0 2 (by decide) (by decide) rfl rfl rfl rfl)
    (crV X1 Y1 Z1 X2 Y2 Z2 Y1 Z1 Y2 Z2 1 2 (by decide) (by decide) rfl rfl rfl rfl)
    (tmV _ _) (mnV _ _) (tmV _ _) (plV _ _) (mnV _ _) (tmV _ _) (mnV _ _) (tmV _ _) (mnV _ _) (tmV _ _) (mnV _ _) (tmV _ _)
    (tmV _ _) (tmV _ _) (mnV _ _) (tmV _ _) (tmV _ _) (plV _ _) (tmV _ _) (tmV _ _) (plV _ _)
  refine K.mono ?_
  rintro e w' ⟨rfl, hb⟩
  refine ⟨?_, hb⟩
  have e1 : (X1 * Y2 + Y1 * X2) * (Y1 * Y2 + (X1 * Z2 + Z1 * X2 - 111 * (Z1 * Z2)) * 3) - (Y1 * Z2 + Z1 * Y2) * ((111 * (X1 * Z2 + Z1 * X2) - X1 * X2 - Z1 * Z2 * 3) * 3) = cX X1 Y1 Z1 X2 Y2 Z2 := by unfold cX; grobner
  have e2 : (X1 * X2 - Z1 * Z2) * 3 * ((111 * (X1 * Z2 + Z1 * X2) - X1 * X2 - Z1 * Z2 * 3) * 3) + (Y1 * Y2 + (X1 * Z2 + Z1 * X2 - 111 * (Z1 * Z2)) * 3) * (Y1 * Y2 - (X1 * Z2 + Z1 * X2 - 111 * (Z1 * Z2)) * 3) = cY X1 Y1 Z1 X2 Y2 Z2 := by unfold cY; grobner
  have e3 : (Y1 * Z2 + Z1 * Y2) * (Y1 * Y2 - (X1 * Z2 + Z1 * X2 - 111 * (Z1 * Z2)) * 3) + (X1 * Y2 + Y1 * X2) * ((X1 * X2 - Z1 * Z2) * 3) = cZ X1 Y1 Z1 X2 Y2 Z2 := by unfold cZ; grobner
  rw [e1, e2, e3]
end Go.Proofs.YtenggagjgmonoaaGreatDoor
