import Derived.Test.YtagnikeaellbiaaGreatDoorMrg39
import Derived.Test.YtagnikeaellbiaaGreatDoorMrg37
import Derived.Test.YtagnikeaellbiaaGreatDoorMrg38
namespace Go.Proofs.YtagnikeaellbiaaGreatDoor
open Go.ChangeShapes Go.WideShapes Go.ChangeAt Go.RowKit
open Go.ChangeMaps (open_string shut_string)
set_option linter.unusedVariables false
namespace check

theorem hbD_of {w X w' : World} (hb : Below w.heap.size w X) (h : G.Sides [] X.drew w') : Below w.heap.size w w' := hb.drew.trans (h.below.mono hb.size)
set_option maxRecDepth 100000 in
set_option maxHeartbeats 8000000 in
theorem walk_of (mode ax ay bx by' pc ps : Int) (ac bc ok : Bool) (cs ds : List Tri) (v3 v4 : Value) (w : World) (hT : TabK w) (h3 : Ars w v3 cs) (h4 : Ars w v4 ds) (hl : (cs.length : Int) + (ds.length : Int) ≤ 1048576)
    (L : ∀ w g1 g2, Mad g1 cs w → Mad g2 ds w → Calls Tryz.prog 17 #[.int .i64 mode, .agg #[.int .u64 ax, .int .u64 ay, .bool ac], .agg #[.int .u64 bx, .int .u64 by', .bool bc], .slice (some ⟨g1, 0, none⟩) cs.length cs.length, .slice (some ⟨g2, 0, none⟩) ds.length ds.length, .agg #[.int .u64 pc, .int .u64 ps]] w fun e w' => e = .returned (.bool ok) ∧ Below w.heap.size w w')
    (M : ∀ w g1 g2, TabK w → Mad g1 cs w → Mad g2 ds w → Calls Tryz.prog 19 #[.int .i64 mode, .agg #[.int .u64 ax, .int .u64 ay, .bool ac], .agg #[.int .u64 bx, .int .u64 by', .bool bc], .slice (some ⟨g1, 0, none⟩) cs.length cs.length, .slice (some ⟨g2, 0, none⟩) ds.length ds.length, .agg #[.int .u64 pc, .int .u64 ps]] w fun e w' => e = .returned (.bool ok) ∧ Below w.heap.size w w') :
    Calls Tryz.prog 5 #[.int .i64 mode, .agg #[.int .u64 ax, .int .u64 ay, .bool ac], .agg #[.int .u64 bx, .int .u64 by', .bool bc], v3, v4, .agg #[.int .u64 pc, .int .u64 ps]] w fun e w' => e = .returned (.bool true) ∧ Below w.heap.size w w' := by
  have hgw : 3 < w.heap.size := World.block_lt_of_cell? w _ (hT 0 (by omega))
  have T3 := fun w' hb => tpsL_any v3 cs w' (h3.keep' hb) (by omega)
  have T4 := fun w' hb => tpsL_any v4 ds w' (h4.keep' hb) (by omega)
  have E3 := fun x y w' hx hy => epsL_any cs x y w' hx hy (by omega)
  have E4 := fun x y w' hx hy => epsL_any ds x y w' hx hy (by omega)
  obtain ⟨a3, _, k3, rfl, rfl, -⟩ := h3
  obtain ⟨a4, _, k4, rfl, rfl, -⟩ := h4
  have S3 := fun w => szL_yes a3 cs.length k3 1048576 w (by omega) (by omega)
  have S4 := fun w => szL_yes a4 ds.length k4 (1048576 - cs.length) w (by omega) (by omega)
  have g3 : ¬ (1048576 - (cs.length : Int)) < 0 := by omega
  have g4 : ¬ (1048576 - (cs.length : Int) - (ds.length : Int)) < 0 := by omega
  obtain ⟨X, hX⟩ : ∃ X, X = ((w.alloc (Obj.cells #[.int .u64 ax, .int .u64 ay, .bool ac] 24)).alloc (Obj.cells #[.int .u64 bx, .int .u64 by', .bool bc] 24)).alloc (Obj.cells #[.int .u64 pc, .int .u64 ps] 42) := ⟨_, rfl⟩
  have ra : K3 X 24 w.heap.size ax ay ac := by rw [hX]; exact ((K3.new _ _ _ _ _).alloc _).alloc _
  have rb : K3 X 24 (w.heap.size + 1) bx by' bc := by rw [hX]; exact ((K3.new _ _ _ _ _).at (by simp)).alloc _
  have rp : P2 X 42 (w.heap.size + 1 + 1) pc ps := by rw [hX]; exact (P2.new _ _ _ _).at (by simp)
  have hb : Below w.heap.size w X := by rw [hX]; exact (((Below.refl _ w).alloc (Nat.le_refl _) _).alloc (by simp) _).alloc (by simp; omega) _
  go_enter Tryz.func5, Tryz.ntmps5
  go_wp2_with fail
  refine (S3 _).mono ?_
  rintro e w' ⟨rfl, rfl⟩
  go_wp2_with fail
  refine (S4 _).mono ?_
  rintro e w' ⟨rfl, rfl⟩
  clear S3 S4
  go_wp2
  rw [← hX]
  clear hX g3 g4
  have a0 : X.drew.cell? ⟨w.heap.size, 0, none⟩ = _ := ra.c0
  have a1 : X.drew.cell? ⟨w.heap.size, 1, none⟩ = _ := ra.c1
  have a2 : X.drew.cell? ⟨w.heap.size, 2, none⟩ = _ := ra.c2
  have b0 : X.drew.cell? ⟨w.heap.size + 1, 0, none⟩ = _ := rb.c0
  have b1 : X.drew.cell? ⟨w.heap.size + 1, 1, none⟩ = _ := rb.c1
  have b2 : X.drew.cell? ⟨w.heap.size + 1, 2, none⟩ = _ := rb.c2
  have p0 : X.drew.cell? ⟨w.heap.size + 1 + 1, 0, none⟩ = _ := rp.c0
  have p1 : X.drew.cell? ⟨w.heap.size + 1 + 1, 1, none⟩ = _ := rp.c1
  refine G.pool_list (W := X) [] [.val (.int .i64 mode),
      .val (.agg #[.int .u64 ax, .int .u64 ay, .bool ac]),
      .val (.agg #[.int .u64 ax, .int .u64 ay, .bool ac]),
      .val (.agg #[.int .u64 bx, .int .u64 by', .bool bc]),
      .val (.agg #[.int .u64 bx, .int .u64 by', .bool bc]),
      .val (.slice a3 cs.length k3),
      .got (slN cs.length) (fun x w' => Mad x cs w'),
      .val (.slice a4 ds.length k4),
      .got (slN ds.length) (fun x w' => Mad x ds w'),
      .val (.agg #[.int .u64 pc, .int .u64 ps]),
      .val (.agg #[.int .u64 pc, .int .u64 ps]),
      .val (.bool ok),
      .val (.bool ok)] [[0], [7], [29], [8], [31], [3], [33], [4], [35], [11], [37], [28, 30, 32, 34, 36, 38], [39]] (fun f => [(some 28, .int .i64 mode), (some 29, .agg #[.int .u64 ax, .int .u64 ay, .bool ac]), (some 30, .agg #[.int .u64 ax, .int .u64 ay, .bool ac]), (some 31, .agg #[.int .u64 bx, .int .u64 by', .bool bc]), (some 32, .agg #[.int .u64 bx, .int .u64 by', .bool bc]), (some 33, .slice a3 cs.length k3), (some 34, slN cs.length (f 6)), (some 35, .slice a4 ds.length k4), (some 36, slN ds.length (f 8)), (some 37, .agg #[.int .u64 pc, .int .u64 ps]), (some 38, .agg #[.int .u64 pc, .int .u64 ps]), (some 39, .bool ok), (some 14, .bool ok)]) (by kernel_rfl) (by kernel_rfl) (by kernel_rfl) (by kernel_rfl) (fun _ => by kernel_rfl) (G.last_of [] (fun F R hm => by simp only [List.mem_cons, List.not_mem_nil, or_false, reduceCtorEq, false_or, G.Knd.got.injEq] at hm; rcases hm with ⟨-, rfl⟩ | ⟨-, rfl⟩ <;> first | exact (mad_lasts _ _ (fun ob hm => by simp at hm)) | exact (mad_lasts _ _ (fun ob hm => by simp at hm))) (fun ob ob' k hm => by simp at hm) (fun b ob ob' hm => by simp at hm)) (fun b ob ob' hm => by simp at hm) ?_ ?_
  · intro ix hix
    match ix, hix with
    | 0, _ => exact G.ob_val [(0, .int .i64 mode)] rfl rfl (fun _ => by kernel_rfl) (fun A w ⟨e0, _⟩ hB => doV_move e0)
    | 1, _ => exact G.ob_val [(7, .pointer (some ⟨w.heap.size, 0, none⟩))] rfl rfl (fun _ => by kernel_rfl) (fun A w ⟨e0, _⟩ hB => ld_lpt e0 (hB.cell a0 (by simp)) (hB.cell a1 (by simp)) (hB.cell a2 (by simp)))
    | 2, _ => exact G.ob_val [(29, .agg #[.int .u64 ax, .int .u64 ay, .bool ac])] rfl rfl (fun _ => by kernel_rfl) (fun A w ⟨e0, _⟩ hB => cl1 cf_laws_toPoint e0 (toP5 _ _ _ w))
    | 3, _ => exact G.ob_val [(8, .pointer (some ⟨w.heap.size + 1, 0, none⟩))] rfl rfl (fun _ => by kernel_rfl) (fun A w ⟨e0, _⟩ hB => ld_lpt e0 (hB.cell b0 (by simp)) (hB.cell b1 (by simp)) (hB.cell b2 (by simp)))
    | 4, _ => exact G.ob_val [(31, .agg #[.int .u64 bx, .int .u64 by', .bool bc])] rfl rfl (fun _ => by kernel_rfl) (fun A w ⟨e0, _⟩ hB => cl1 cf_laws_toPoint e0 (toP5 _ _ _ w))
    | 5, _ => exact G.ob_val [(3, .slice a3 cs.length k3)] rfl rfl (fun _ => by kernel_rfl) (fun A w ⟨e0, _⟩ hB => doV_move e0)
    | 6, _ => exact G.ob_got (fun f => [(33, .slice a3 cs.length k3)]) rfl rfl (fun _ => by kernel_rfl) (fun f A w ⟨e0, _⟩ hB hh => cg1 cf_laws_toPointS e0 (T3 w (hbD_of hb hB)))
    | 7, _ => exact G.ob_val [(4, .slice a4 ds.length k4)] rfl rfl (fun _ => by kernel_rfl) (fun A w ⟨e0, _⟩ hB => doV_move e0)
    | 8, _ => exact G.ob_got (fun f => [(35, .slice a4 ds.length k4)]) rfl rfl (fun _ => by kernel_rfl) (fun f A w ⟨e0, _⟩ hB hh => cg1 cf_laws_toPointS e0 (T4 w (hbD_of hb hB)))
    | 9, _ => exact G.ob_val [(11, .pointer (some ⟨w.heap.size + 1 + 1, 0, none⟩))] rfl rfl (fun _ => by kernel_rfl) (fun A w ⟨e0, _⟩ hB => ld_lprf e0 (hB.cell p0 (by simp)) (hB.cell p1 (by simp)))
    | 10, _ => exact G.ob_val [(37, .agg #[.int .u64 pc, .int .u64 ps])] rfl rfl (fun _ => by kernel_rfl) (fun A w ⟨e0, _⟩ hB => cl1 cf_laws_toProof e0 (toF5 _ _ w))
    | 11, _ => exact G.ob_had (fun f => [(28, .int .i64 mode), (30, .agg #[.int .u64 ax, .int .u64 ay, .bool ac]), (32, .agg #[.int .u64 bx, .int .u64 by', .bool bc]), (34, slN cs.length (f 6)), (36, slN ds.length (f 8)), (38, .agg #[.int .u64 pc, .int .u64 ps])]) rfl rfl (fun _ => by kernel_rfl) (fun f A w ⟨e0, e1, e2, e3, e4, e5, _⟩ hB hh => cl6 cf_spec_Check e0 e1 e2 e3 e4 e5 (L w _ _ (hh 34 (by decide) 6 rfl (by decide) _ _ rfl) (hh 36 (by decide) 8 rfl (by decide) _ _ rfl)))
    | 12, _ => exact G.ob_val [(39, .bool ok)] rfl rfl (fun _ => by kernel_rfl) (fun A w ⟨e0, _⟩ hB => doV_assign e0)
    | ix + 13, h => exact absurd h (by simp)
  intro f W1 hS1 _ _ _ _
  have hb1 : Below X.heap.size X W1 := (Below.refl _ X).drew.trans hS1.below
  replace ra := ra.keep hb1
  replace rb := rb.keep hb1
  replace rp := rp.keep hb1
  replace hb := hb.trans (hb1.mono hb.size)
  clear a0 a1 a2 b0 b1 b2 p0 p1 hS1 hb1 L
  simp only [puts, List.foldl, Act.put, List.setIfInBounds_toArray, List.set_cons_zero, List.set_cons_succ]
  go_wp2_with fail
  refine (T3 _ hb).mono ?_
  rintro e w2 ⟨x3, rfl, m3, b2⟩
  replace ra := ra.keep b2
  replace rb := rb.keep b2
  replace rp := rp.keep b2
  replace hb := hb.trans (b2.mono hb.size)
  clear b2
  go_wp2_with fail
  refine (T4 _ hb).mono ?_
  rintro e w3 ⟨x4, rfl, m4, b3⟩
  replace ra := ra.keep b3
  replace rb := rb.keep b3
  replace rp := rp.keep b3
  replace m3 := m3.keep b3
  replace hb := hb.trans (b3.mono hb.size)
  clear b3
  go_wp2
  have hT3 : TabK w3.drew := keepT hT hgw hb.drew
  have hg3 : 3 < w3.drew.heap.size := Nat.lt_of_lt_of_le hgw hb.size
  have m3d : Mad x3 cs w3.drew := m3
  have m4d : Mad x4 ds w3.drew := m4
  have a0 : w3.drew.cell? ⟨w.heap.size, 0, none⟩ = _ := ra.c0
  have a1 : w3.drew.cell? ⟨w.heap.size, 1, none⟩ = _ := ra.c1
  have a2 : w3.drew.cell? ⟨w.heap.size, 2, none⟩ = _ := ra.c2
  have b0 : w3.drew.cell? ⟨w.heap.size + 1, 0, none⟩ = _ := rb.c0
  have b1 : w3.drew.cell? ⟨w.heap.size + 1, 1, none⟩ = _ := rb.c1
  have b2 : w3.drew.cell? ⟨w.heap.size + 1, 2, none⟩ = _ := rb.c2
  have p0 : w3.drew.cell? ⟨w.heap.size + 1 + 1, 0, none⟩ = _ := rp.c0
  have p1 : w3.drew.cell? ⟨w.heap.size + 1 + 1, 1, none⟩ = _ := rp.c1
  refine G.pool_list (W := w3) [] [.val (.int .i64 mode),
      .val (.agg #[.int .u64 ax, .int .u64 ay, .bool ac]),
      .val (.agg #[.int .u64 ax, .int .u64 ay, .bool ac]),
      .val (.agg #[.int .u64 bx, .int .u64 by', .bool bc]),
      .val (.agg #[.int .u64 bx, .int .u64 by', .bool bc]),
      .val (.slice (some ⟨x3, 0, none⟩) cs.length cs.length),
      .val (.slice (some ⟨x4, 0, none⟩) ds.length ds.length),
      .val (.agg #[.int .u64 pc, .int .u64 ps]),
      .val (.agg #[.int .u64 pc, .int .u64 ps]),
      .val (.bool ok),
      .val (.bool ok)] [[0], [7], [45], [8], [47], [15], [16], [11], [51], [44, 46, 48, 49, 50, 52], [53]] (fun f => [(some 44, .int .i64 mode), (some 45, .agg #[.int .u64 ax, .int .u64 ay, .bool ac]), (some 46, .agg #[.int .u64 ax, .int .u64 ay, .bool ac]), (some 47, .agg #[.int .u64 bx, .int .u64 by', .bool bc]), (some 48, .agg #[.int .u64 bx, .int .u64 by', .bool bc]), (some 49, .slice (some ⟨x3, 0, none⟩) cs.length cs.length), (some 50, .slice (some ⟨x4, 0, none⟩) ds.length ds.length), (some 51, .agg #[.int .u64 pc, .int .u64 ps]), (some 52, .agg #[.int .u64 pc, .int .u64 ps]), (some 53, .bool ok), (some 17, .bool ok)]) (by kernel_rfl) (by kernel_rfl) (by kernel_rfl) (by kernel_rfl) (fun _ => by kernel_rfl) (G.last_of [] (fun F R hm => by simp at hm) (fun ob ob' k hm => by simp at hm) (fun b ob ob' hm => by simp at hm)) (fun b ob ob' hm => by simp at hm) ?_ ?_
  · intro ix hix
    match ix, hix with
    | 0, _ => exact G.ob_val [(0, .int .i64 mode)] rfl rfl (fun _ => by kernel_rfl) (fun A w ⟨e0, _⟩ hB => doV_move e0)
    | 1, _ => exact G.ob_val [(7, .pointer (some ⟨w.heap.size, 0, none⟩))] rfl rfl (fun _ => by kernel_rfl) (fun A w ⟨e0, _⟩ hB => ld_lpt e0 (hB.cell a0 (by simp)) (hB.cell a1 (by simp)) (hB.cell a2 (by simp)))
    | 2, _ => exact G.ob_val [(45, .agg #[.int .u64 ax, .int .u64 ay, .bool ac])] rfl rfl (fun _ => by kernel_rfl) (fun A w ⟨e0, _⟩ hB => cl1 cf_laws_toPoint e0 (toP5 _ _ _ w))
    | 3, _ => exact G.ob_val [(8, .pointer (some ⟨w.heap.size + 1, 0, none⟩))] rfl rfl (fun _ => by kernel_rfl) (fun A w ⟨e0, _⟩ hB => ld_lpt e0 (hB.cell b0 (by simp)) (hB.cell b1 (by simp)) (hB.cell b2 (by simp)))
    | 4, _ => exact G.ob_val [(47, .agg #[.int .u64 bx, .int .u64 by', .bool bc])] rfl rfl (fun _ => by kernel_rfl) (fun A w ⟨e0, _⟩ hB => cl1 cf_laws_toPoint e0 (toP5 _ _ _ w))
    | 5, _ => exact G.ob_val [(15, .slice (some ⟨x3, 0, none⟩) cs.length cs.length)] rfl rfl (fun _ => by kernel_rfl) (fun A w ⟨e0, _⟩ hB => doV_move e0)
    | 6, _ => exact G.ob_val [(16, .slice (some ⟨x4, 0, none⟩) ds.length ds.length)] rfl rfl (fun _ => by kernel_rfl) (fun A w ⟨e0, _⟩ hB => doV_move e0)
    | 7, _ => exact G.ob_val [(11, .pointer (some ⟨w.heap.size + 1 + 1, 0, none⟩))] rfl rfl (fun _ => by kernel_rfl) (fun A w ⟨e0, _⟩ hB => ld_lprf e0 (hB.cell p0 (by simp)) (hB.cell p1 (by simp)))
    | 8, _ => exact G.ob_val [(51, .agg #[.int .u64 pc, .int .u64 ps])] rfl rfl (fun _ => by kernel_rfl) (fun A w ⟨e0, _⟩ hB => cl1 cf_laws_toProof e0 (toF5 _ _ w))
    | 9, _ => exact G.ob_val [(44, .int .i64 mode), (46, .agg #[.int .u64 ax, .int .u64 ay, .bool ac]), (48, .agg #[.int .u64 bx, .int .u64 by', .bool bc]), (49, .slice (some ⟨x3, 0, none⟩) cs.length cs.length), (50, .slice (some ⟨x4, 0, none⟩) ds.length ds.length), (52, .agg #[.int .u64 pc, .int .u64 ps])] rfl rfl (fun _ => by kernel_rfl) (fun A w ⟨e0, e1, e2, e3, e4, e5, _⟩ hB => cl6 cf_impl_Check e0 e1 e2 e3 e4 e5 (M w _ _ (keepT hT3 hg3 hB.below) (m3d.keep hB.below) (m4d.keep hB.below)))
    | 10, _ => exact G.ob_val [(53, .bool ok)] rfl rfl (fun _ => by kernel_rfl) (fun A w ⟨e0, _⟩ hB => doV_assign e0)
    | ix + 11, h => exact absurd h (by simp)
  intro f W4 hS4 _ _ _ _
  have hb4 : Below w3.heap.size w3 W4 := (Below.refl _ w3).drew.trans hS4.below
  replace m3 := m3.keep hb4
  replace m4 := m4.keep hb4
  replace hb := hb.trans (hb4.mono hb.size)
  clear a0 a1 a2 b0 b1 b2 p0 p1 hS4 hb4 M hT3 hg3 m3d m4d ra rb rp
  simp only [puts, List.foldl, Act.put, List.setIfInBounds_toArray, List.set_cons_zero, List.set_cons_succ]
  go_wp2_with fail
  refine (T3 _ hb).mono ?_
  rintro e w11 ⟨x5, rfl, m5, b11⟩
  replace m3 := m3.keep b11
  replace m4 := m4.keep b11
  replace hb := hb.trans (b11.mono hb.size)
  clear b11
  go_wp2_with fail
  refine (E3 _ _ _ m3 m5).mono ?_
  rintro e w12 ⟨rfl, b12⟩
  replace m4 := m4.keep b12
  replace hb := hb.trans (b12.mono hb.size)
  clear b12 m3 m5
  go_wp2_with fail
  refine (T4 _ hb).mono ?_
  rintro e w13 ⟨x6, rfl, m6, b13⟩
  replace m4 := m4.keep b13
  replace hb := hb.trans (b13.mono hb.size)
  clear b13
  go_wp2_with fail
  refine (E4 _ _ _ m4 m6).mono ?_
  rintro e w14 ⟨rfl, b14⟩
  replace hb := hb.trans (b14.mono hb.size)
  go_wp2
  go_ret
  exact ⟨rfl, hb⟩
theorem walk (mode : Int) (ax ay : Nat) (ac : Bool) (bx by' : Nat) (bc : Bool) (v3 v4 : Value) (pc ps : Nat) (w : World) (h3 : ∃ ps, Ars w v3 ps ∧ ps.length ≤ maxLen) (h4 : ∃ ps, Ars w v4 ps ∧ ps.length ≤ maxLen) (hpc : pc < 18446744073709551616) (hps : ps < 18446744073709551616) (hT : TabK w) :
    Calls Tryz.prog 5 #[.int .i64 mode, .agg #[.int .u64 ax, .int .u64 ay, .bool ac], .agg #[.int .u64 bx, .int .u64 by', .bool bc], v3, v4, .agg #[.int .u64 pc, .int .u64 ps]] w fun e w' => e = .returned (.bool true) ∧ Below w.heap.size w w' := by
  obtain ⟨cs, h3, hm3⟩ := h3
  obtain ⟨ds, h4, hm4⟩ := h4
  by_cases hl : (cs.length : Int) + (ds.length : Int) ≤ 1048576
  · exact walk_of mode ax ay bx by' pc ps ac bc (chkB mode (ax, ay, ac) (bx, by', bc) cs ds pc ps) cs ds v3 v4 w hT h3 h4 hl
      (fun w g1 g2 m1 m2 => chkS_any mode (ax, ay, ac) (bx, by', bc) cs ds pc ps g1 0 cs.length g2 0 ds.length w m1.pts m2.pts)
      (fun w g1 g2 hT m1 m2 => chkI_any mode (ax, ay, ac) (bx, by', bc) cs ds pc ps g1 0 cs.length g2 0 ds.length w hT m1.pts m2.pts)
  · obtain ⟨a2, n2, k2, rfl, l2, -⟩ := h3
    obtain ⟨a3, n3, k3, rfl, l3, -⟩ := h4
    rw [l2, l3] at hl
    have hb := (((Below.refl _ w).alloc (Nat.le_refl _) (Obj.cells #[.int .u64 ax, .int .u64 ay, .bool ac] 24)).alloc (by simp) (Obj.cells #[.int .u64 bx, .int .u64 by', .bool bc] 24)).alloc (by simp; omega) (Obj.cells #[.int .u64 pc, .int .u64 ps] 42)
    by_cases h2 : n2 ≤ 1048576
    · have S2 := fun w => szL_yes a2 n2 k2 1048576 w (by omega) (by omega)
      have S3 := fun w => szL_no a3 n3 k3 (1048576 - n2) w (by omega) (by omega) (by omega) (by omega)
      have g2 : ¬ (1048576 - (n2 : Int)) < 0 := by omega
      clear hl hm3 hm4 hpc hps
      go_enter Tryz.func5, Tryz.ntmps5
      go_wp2_with fail
      refine (S2 _).mono ?_
      rintro e w' ⟨rfl, rfl⟩
      go_wp2_with fail
      refine (S3 _).mono ?_
      rintro e w' ⟨rfl, rfl⟩
      go_wp2
      go_ret
      exact ⟨rfl, hb⟩
    · have S2 := fun w => szL_no a2 n2 k2 1048576 w (by omega) (by omega) (by omega) (by omega)
      clear hl hm3 hm4 hpc hps
      go_enter Tryz.func5, Tryz.ntmps5
      go_wp2_with fail
      refine (S2 _).mono ?_
      rintro e w' ⟨rfl, rfl⟩
      go_wp2
      go_ret
      exact ⟨rfl, hb⟩

set_option maxRecDepth 100000 in
theorem contract (H : Type) (enc : TypeId × Value → H) (W : World) (base : Nat) (args : Array Value) (ds gs : List (DataW H)) (before : List MemPlace)
    (hval : ∀ (j : Nat) t v, Tryz.f5.params[j]? = some t → args[j]? = some v → Value.okWide Tryz.prog W .any base t v)
    (hW : DataW.Whole enc Tryz.prog Tryz.f5.params.toList Rows.fnExactCheckSpec.vars false W args.toList ds gs before) (hL : laidMetH Tryz.prog Rows.fnExactCheckRow.laid W) :
    Calls Tryz.prog 5 args W fun e W' => ∃ v, e = .returned v ∧ Rows.fnExactCheckSpec.post enc Tryz.prog Tryz.f5 false true false false W args v W' := by
  have hW' := hW
  obtain ⟨p, q, hA0, hV, rfl, hfz, hnd⟩ := hW
  have hA : DataW.TrodAll enc Tryz.prog W 0 (fun _ => true) true Tryz.f5.params.toList args.toList ds p := hA0
  rw [Tryz.params5] at hA hval
  obtain ⟨v0, vs0, d0, ds0, p0, q0, hargs, rfl, rfl, h0, r0⟩ := trodAll_cons hA
  obtain ⟨v1, vs1, d1, ds1, p1, q1, rfl, rfl, rfl, h1, r1⟩ := trodAll_cons r0
  obtain ⟨v2, vs2, d2, ds2, p2, q2, rfl, rfl, rfl, h2, r2⟩ := trodAll_cons r1
  obtain ⟨v3, vs3, d3, ds3, p3, q3, rfl, rfl, rfl, h3, r3⟩ := trodAll_cons r2
  obtain ⟨v4, vs4, d4, ds4, p4, q4, rfl, rfl, rfl, h4, r4⟩ := trodAll_cons r3
  obtain ⟨v5, vs5, d5, ds5, p5, q5, rfl, rfl, rfl, h5, r5⟩ := trodAll_cons r4
  obtain ⟨rfl, rfl, rfl⟩ := trodAll_nil r5
  obtain rfl : args = #[v0, v1, v2, v3, v4, v5] := by cases args; simp_all
  obtain ⟨gd, rfl⟩ : ∃ gd, gs = [gd] := by obtain ⟨_, _, _, _, d, _, e, _⟩ := trodVars_one hV; exact ⟨d, e⟩
  obtain ⟨a0, rfl, rfl, rfl, w0⟩ := open_int Tryz.underlying3 (hval 0 3 v0 rfl rfl) h0
  obtain ⟨x1, y1, c1, rfl, rfl, rfl, wx1, wy1, lx1, ly1⟩ := open_pt (hval 1 24 v1 rfl rfl) h1
  obtain ⟨x2, y2, c2, rfl, rfl, rfl, wx2, wy2, lx2, ly2⟩ := open_pt (hval 2 24 v2 rfl rfl) h2
  obtain ⟨a3, len3, cap3, rfl⟩ := okWide_slice Tryz.underlying25 (hval 3 25 v3 rfl rfl)
  have hlt3 : ∀ x ∈ p3, x.block < W.heap.size := fun x hx => hW'.lt x (by simp [hx])
  obtain ⟨a4, len4, cap4, rfl⟩ := okWide_slice Tryz.underlying25 (hval 4 25 v4 rfl rfl)
  have hlt4 : ∀ x ∈ p4, x.block < W.heap.size := fun x hx => hW'.lt x (by simp [hx])
  obtain ⟨x5, y5, rfl, rfl, rfl, wx5, wy5, lx5, ly5⟩ := open_prf (hval 5 42 v5 rfl rfl) h5
  clear hA0
  refine (walk a0 x1 y1 c1 x2 y2 c2 (.slice a3 len3 cap3) (.slice a4 len4 cap4) x5 y5 W (ars_of h3) (ars_of h4) lx5 ly5 (table hL (by kernel_rfl))).mono fun e W' ⟨he, bel⟩ => ?_
  subst he
  exact ⟨_, rfl, _, _, _, [], [] ++ ([] ++ ([] ++ (p3 ++ (p4 ++ ([] ++ []))))), q, hW', trodAll_mk1 (shut_bool Tryz.underlying4 _), (trodAll_cons_mk (shut_int Tryz.underlying3 w0) (trodAll_cons_mk (shut_pt c1 wx1 wy1) (trodAll_cons_mk (shut_pt c2 wx2 wy2) (trodAll_cons_mk (Below.trod laidOut (by kernel_rfl) (of_decide_eq_true (by kernel_rfl)) h3 bel hlt3) (trodAll_cons_mk (Below.trod laidOut (by kernel_rfl) (of_decide_eq_true (by kernel_rfl)) h4 bel hlt4) (trodAll_cons_mk (shut_prf wx5 wy5) trodAll_mk0)))))), Below.trodVars laidOut bel varsR hV, bel.frame _, fun h => by cases h⟩

theorem laid_met (os : Os) : laidMet Tryz.prog Rows.fnExactCheckRow.laid ((laidWorld os).forCall (fun _ _ => 0) ⟨#[], #[.int .i64 0, .agg #[.int .u64 0, .int .u64 0, .bool false], .agg #[.int .u64 0, .int .u64 0, .bool false], .slice none 0 0, .slice none 0 0, .agg #[.int .u64 0, .int .u64 0]], []⟩).memory :=
  laidMet_of_run' 8 (by kernel_rfl) (by kernel_rfl)
theorem reads (os : Os) {H : Type} (enc : TypeId × Value → H) : ∃ places, DataW.whole enc Tryz.prog ((laidWorld os).forCall (fun _ _ => 0) ⟨#[], #[.int .i64 0, .agg #[.int .u64 0, .int .u64 0, .bool false], .agg #[.int .u64 0, .int .u64 0, .bool false], .slice none 0 0, .slice none 0 0, .agg #[.int .u64 0, .int .u64 0]], []⟩).memory Tryz.f5.params.toList Rows.fnExactCheckSpec.vars false #[Value.int .i64 0, Value.agg #[.int .u64 0, .int .u64 0, .bool false], Value.agg #[.int .u64 0, .int .u64 0, .bool false], Value.slice none 0 0, Value.slice none 0 0, Value.agg #[.int .u64 0, .int .u64 0]].toList 8 = some ([.lit (.int .i64 0), .agg [.lit (.int .u64 0), .lit (.int .u64 0), .lit (.bool false)], .agg [.lit (.int .u64 0), .lit (.int .u64 0), .lit (.bool false)], .nil, .nil, .agg [.lit (.int .u64 0), .lit (.int .u64 0)]], [Rows.laid_loop_example_s02095_impl_roundWords], places) :=
  ⟨MemPlace.row ⟨3, 0, none⟩ 64, by kernel_rfl⟩

set_option maxRecDepth 100000 in
theorem lifted (os : Os) (started : os.Started) (H : Type) (enc : TypeId × Value → H) (F : Stop.Interp) :
    ReturnsInHanded {} Tryz.checked os 5 .any ((OpenSpec.ofChange Rows.fnExactCheckSpec).preRow enc Tryz.prog Tryz.f5 Rows.fnExactCheckRow.domain false Rows.fnExactCheckRow.laid) (((OpenSpec.ofChange Rows.fnExactCheckSpec).at F).post enc Tryz.prog Tryz.f5 false true false false) := by
  obtain ⟨places, hx⟩ := reads os enc
  refine returnsInHanded_of_row (C := Tryz.checked) (s := OpenSpec.ofChange Rows.fnExactCheckSpec) own started (by kernel_rfl) Tryz.func5
    (witness_row_at (enc := enc) (C := Tryz.checked) false (laidWorld os) #[.int .i64 0, .agg #[.int .u64 0, .int .u64 0, .bool false], .agg #[.int .u64 0, .int .u64 0, .bool false], .slice none 0 0, .slice none 0 0, .agg #[.int .u64 0, .int .u64 0]] rfl (by kernel_rfl) (by kernel_rfl) (by kernel_rfl)
      (OpenSpec.preRow_of_cond 8 hx (by kernel_rfl) (fun k hk => by cases hk) (by kernel_rfl) (laid_met os))) ?_
  intro W base args ds gs before hval hW _ _ _ hL _ _
  exact contract H enc W base args ds gs before hval hW hL

theorem said : Rows.FnExactCheckSaid :=
  OpenClaim.holds_of_cond 5 Tryz.f5 rfl rfl rfl rfl rfl rfl rfl ⟨rfl, rfl, rfl, rfl, rfl⟩ rfl rfl rfl rfl rfl (by kernel_rfl) Tryz.func5 (by kernel_rfl)
    (of_decide_eq_true (by kernel_rfl)) (by unfold Func.isWrapper; first | (rw [if_pos (by decide +kernel)]; kernel_rfl) | (rw [if_neg (by decide +kernel)]; exact ⟨rfl, rfl⟩))
    (fun os started H enc _ F => by rw [OpenClaim.pre_eq_preRow]; exact lifted os started H enc F)

theorem plain (f : FuncId) (fn : Func) (hf : Tryz.pinned.checked.prog.funcNamed "loop.example/s02095/laws.FnExactCheck" = some f) (hfn : Tryz.pinned.checked.prog.funcs[f]? = some fn) :
    false = Tryz.pinned.checked.prog.looks [] ∧ ∀ (j : Nat) t, fn.params[j]? = some t → Tryz.pinned.checked.prog.wantsStandIn t = false := by
  obtain rfl : f = 5 := Option.some.inj ((show Tryz.prog.funcNamed "loop.example/s02095/laws.FnExactCheck" = some 5 by kernel_rfl).symm.trans hf) |>.symm
  obtain rfl : fn = Tryz.f5 := (Option.some.inj (Tryz.func5.symm.trans hfn)).symm
  refine ⟨by kernel_rfl, fun j t ht => ?_⟩
  rw [Tryz.params5] at ht
  have hm := Array.mem_of_getElem? ht
  have : t = 3 ∨ t = 24 ∨ t = 25 ∨ t = 42 := by simp at hm; omega
  rcases this with rfl | rfl | rfl | rfl
  · exact (show Tryz.prog.wantsStandIn 3 = false by kernel_rfl)
  · exact (show Tryz.prog.wantsStandIn 24 = false by kernel_rfl)
  · exact (show Tryz.prog.wantsStandIn 25 = false by kernel_rfl)
  · exact (show Tryz.prog.wantsStandIn 42 = false by kernel_rfl)
end check

/-- ████ THE CARD ████ -/
theorem check_card : Rows.FnExactCheckCardSaid :=
  Claim7.holds_tied_plain_at .later [] _ _ _ _ check.said (fun _ h => by cases h) (by kernel_rfl) (fun _ h => by cases h) fnExactCheck_row_tie rfl ⟨rfl, rfl⟩ (by kernel_rfl) rfl check.plain (by kernel_rfl)
#print axioms check_card
end Go.Proofs.YtagnikeaellbiaaGreatDoor
