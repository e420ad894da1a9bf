import Derived.Test.YtagnikeaellbiaaGreatDoorMrg39
import Derived.Test.YtagnikeaellbiaaGreatDoorMrg37
import Derived.Test.YtagnikeaellbiaaGreatDoorMrg38
namespace Go.Proofs.YtagnikeaellbiaaGreatDoor
open Go.ChangeShapes Go.WideShapes Go.ChangeAt Go.RowKit
open Go.ChangeMaps (open_string shut_string)
set_option linter.unusedVariables false
namespace prove

theorem hbD_of {w X w' : World} (hb : Below w.heap.size w X) (h : G.Sides [] X.drew w') : Below w.heap.size w w' := hb.drew.trans (h.below.mono hb.size)
set_option maxRecDepth 100000 in
set_option maxHeartbeats 8000000 in
theorem walk_of (mode k r ax ay bx by' cN sN : Int) (ac bc ok : Bool) (cs ds : List Tri) (v4 v5 : Value) (w : World) (hT : TabK w) (h4 : Ars w v4 cs) (h5 : Ars w v5 ds) (hl : (cs.length : Int) + (ds.length : Int) ≤ 1048576)
    (L : ∀ w g1 g2, Mad g1 cs w → Mad g2 ds w → Calls Tryz.prog 14 #[.int .i64 mode, .int .u64 k, .agg #[.int .u64 ax, .int .u64 ay, .bool ac], .agg #[.int .u64 bx, .int .u64 by', .bool bc], .slice (some ⟨g1, 0, none⟩) cs.length cs.length, .slice (some ⟨g2, 0, none⟩) ds.length ds.length, .int .u64 r] w fun e w' => e = .returned (.tuple #[.agg #[.int .u64 cN, .int .u64 sN], .bool ok]) ∧ Below w.heap.size w w')
    (M : ∀ w g1 g2, TabK w → Mad g1 cs w → Mad g2 ds w → Calls Tryz.prog 15 #[.int .i64 mode, .int .u64 k, .agg #[.int .u64 ax, .int .u64 ay, .bool ac], .agg #[.int .u64 bx, .int .u64 by', .bool bc], .slice (some ⟨g1, 0, none⟩) cs.length cs.length, .slice (some ⟨g2, 0, none⟩) ds.length ds.length, .int .u64 r] w fun e w' => e = .returned (.tuple #[.agg #[.int .u64 cN, .int .u64 sN], .bool ok]) ∧ Below w.heap.size w w') :
    Calls Tryz.prog 4 #[.int .i64 mode, .int .u64 k, .agg #[.int .u64 ax, .int .u64 ay, .bool ac], .agg #[.int .u64 bx, .int .u64 by', .bool bc], v4, v5, .int .u64 r] w fun e w' => e = .returned (.bool true) ∧ Below w.heap.size w w' := by
  have hgw : 3 < w.heap.size := World.block_lt_of_cell? w _ (hT 0 (by omega))
  have T4 := fun w' hb => tpsL_any v4 cs w' (h4.keep' hb) (by omega)
  have T5 := fun w' hb => tpsL_any v5 ds w' (h5.keep' hb) (by omega)
  have E4 := fun x y w' hx hy => epsL_any cs x y w' hx hy (by omega)
  have E5 := fun x y w' hx hy => epsL_any ds x y w' hx hy (by omega)
  obtain ⟨a4, _, k4, rfl, rfl, -⟩ := h4
  obtain ⟨a5, _, k5, rfl, rfl, -⟩ := h5
  have S4 := fun w => szL_yes a4 cs.length k4 1048576 w (by omega) (by omega)
  have S5 := fun w => szL_yes a5 ds.length k5 (1048576 - cs.length) w (by omega) (by omega)
  have g4 : ¬ (1048576 - (cs.length : Int)) < 0 := by omega
  have g5 : ¬ (1048576 - (cs.length : Int) - (ds.length : Int)) < 0 := by omega
  obtain ⟨X, hX⟩ : ∃ X, X = (w.alloc (Obj.cells #[.int .u64 ax, .int .u64 ay, .bool ac] 24)).alloc (Obj.cells #[.int .u64 bx, .int .u64 by', .bool bc] 24) := ⟨_, rfl⟩
  have ra : K3 X 24 w.heap.size ax ay ac := by rw [hX]; exact (K3.new _ _ _ _ _).alloc _
  have rb : K3 X 24 (w.heap.size + 1) bx by' bc := by rw [hX]; exact (K3.new _ _ _ _ _).at (by simp)
  have hb : Below w.heap.size w X := by rw [hX]; exact ((Below.refl _ w).alloc (Nat.le_refl _) _).alloc (by simp) _
  go_enter Tryz.func4, Tryz.ntmps4
  go_wp2_with fail
  refine (S4 _).mono ?_
  rintro e w' ⟨rfl, rfl⟩
  go_wp2_with fail
  refine (S5 _).mono ?_
  rintro e w' ⟨rfl, rfl⟩
  clear S4 S5
  go_wp2
  rw [← hX]
  clear hX g4 g5
  have a0 : X.drew.cell? ⟨w.heap.size, 0, none⟩ = _ := ra.c0
  have a1 : X.drew.cell? ⟨w.heap.size, 1, none⟩ = _ := ra.c1
  have a2 : X.drew.cell? ⟨w.heap.size, 2, none⟩ = _ := ra.c2
  have b0 : X.drew.cell? ⟨w.heap.size + 1, 0, none⟩ = _ := rb.c0
  have b1 : X.drew.cell? ⟨w.heap.size + 1, 1, none⟩ = _ := rb.c1
  have b2 : X.drew.cell? ⟨w.heap.size + 1, 2, none⟩ = _ := rb.c2
  refine G.pool_list (W := X) [] [.val (.int .i64 mode),
      .val (.int .u64 k),
      .val (.agg #[.int .u64 ax, .int .u64 ay, .bool ac]),
      .val (.agg #[.int .u64 ax, .int .u64 ay, .bool ac]),
      .val (.agg #[.int .u64 bx, .int .u64 by', .bool bc]),
      .val (.agg #[.int .u64 bx, .int .u64 by', .bool bc]),
      .val (.slice a4 cs.length k4),
      .got (slN cs.length) (fun x w' => Mad x cs w'),
      .val (.slice a5 ds.length k5),
      .got (slN ds.length) (fun x w' => Mad x ds w'),
      .val (.int .u64 r),
      .val (.tuple #[.agg #[.int .u64 cN, .int .u64 sN], .bool ok]),
      .val (.tuple #[.agg #[.int .u64 cN, .int .u64 sN], .bool ok]),
      .val (.agg #[.int .u64 cN, .int .u64 sN]),
      .val (.bool ok),
      .new (.cells #[.int .u64 0, .int .u64 0] 37) (.cells #[.int .u64 cN, .int .u64 sN] 37) 16,
      .put 15,
      .val (.bool ok)] [[0], [1], [9], [35], [10], [37], [4], [39], [5], [41], [6], [33, 34, 36, 38, 40, 42, 43], [44], [32], [32], [], [16, 45], [46]] (fun f => [(some 33, .int .i64 mode), (some 34, .int .u64 k), (some 35, .agg #[.int .u64 ax, .int .u64 ay, .bool ac]), (some 36, .agg #[.int .u64 ax, .int .u64 ay, .bool ac]), (some 37, .agg #[.int .u64 bx, .int .u64 by', .bool bc]), (some 38, .agg #[.int .u64 bx, .int .u64 by', .bool bc]), (some 39, .slice a4 cs.length k4), (some 40, slN cs.length (f 7)), (some 41, .slice a5 ds.length k5), (some 42, slN ds.length (f 9)), (some 43, .int .u64 r), (some 44, .tuple #[.agg #[.int .u64 cN, .int .u64 sN], .bool ok]), (some 32, .tuple #[.agg #[.int .u64 cN, .int .u64 sN], .bool ok]), (some 45, .agg #[.int .u64 cN, .int .u64 sN]), (some 46, .bool ok), (some 16, .pointer (some ⟨f 15, 0, none⟩)), (none, undef), (some 17, .bool ok)]) (by kernel_rfl) (by kernel_rfl) (by kernel_rfl) (by kernel_rfl) (fun _ => by kernel_rfl) (G.last_of [.cells #[.int .u64 0, .int .u64 0] 37] (fun F R hm => by simp only [List.mem_cons, List.not_mem_nil, or_false, reduceCtorEq, false_or, G.Knd.got.injEq] at hm; rcases hm with ⟨-, rfl⟩ | ⟨-, rfl⟩ <;> first | exact (mad_lasts _ _ (fun ob hm => by simp at hm; subst hm; exact ⟨_, _, rfl, by decide⟩)) | exact (mad_lasts _ _ (fun ob hm => by simp at hm; subst hm; exact ⟨_, _, rfl, by decide⟩))) (fun ob ob' k hm => by simp at hm; simp [hm]) (fun b ob ob' hm => by simp at hm)) (fun b ob ob' hm => by simp at hm) ?_ ?_
  · intro ix hix
    match ix, hix with
    | 0, _ => exact G.ob_val [(0, .int .i64 mode)] rfl rfl (fun _ => by kernel_rfl) (fun A w ⟨e0, _⟩ hB => doV_move e0)
    | 1, _ => exact G.ob_val [(1, .int .u64 k)] rfl rfl (fun _ => by kernel_rfl) (fun A w ⟨e0, _⟩ hB => doV_move e0)
    | 2, _ => exact G.ob_val [(9, .pointer (some ⟨w.heap.size, 0, none⟩))] rfl rfl (fun _ => by kernel_rfl) (fun A w ⟨e0, _⟩ hB => ld_lpt e0 (hB.cell a0 (by simp)) (hB.cell a1 (by simp)) (hB.cell a2 (by simp)))
    | 3, _ => exact G.ob_val [(35, .agg #[.int .u64 ax, .int .u64 ay, .bool ac])] rfl rfl (fun _ => by kernel_rfl) (fun A w ⟨e0, _⟩ hB => cl1 cf_laws_toPoint e0 (toP5 _ _ _ w))
    | 4, _ => exact G.ob_val [(10, .pointer (some ⟨w.heap.size + 1, 0, none⟩))] rfl rfl (fun _ => by kernel_rfl) (fun A w ⟨e0, _⟩ hB => ld_lpt e0 (hB.cell b0 (by simp)) (hB.cell b1 (by simp)) (hB.cell b2 (by simp)))
    | 5, _ => exact G.ob_val [(37, .agg #[.int .u64 bx, .int .u64 by', .bool bc])] rfl rfl (fun _ => by kernel_rfl) (fun A w ⟨e0, _⟩ hB => cl1 cf_laws_toPoint e0 (toP5 _ _ _ w))
    | 6, _ => exact G.ob_val [(4, .slice a4 cs.length k4)] rfl rfl (fun _ => by kernel_rfl) (fun A w ⟨e0, _⟩ hB => doV_move e0)
    | 7, _ => exact G.ob_got (fun f => [(39, .slice a4 cs.length k4)]) rfl rfl (fun _ => by kernel_rfl) (fun f A w ⟨e0, _⟩ hB hh => cg1 cf_laws_toPointS e0 (T4 w (hbD_of hb hB)))
    | 8, _ => exact G.ob_val [(5, .slice a5 ds.length k5)] rfl rfl (fun _ => by kernel_rfl) (fun A w ⟨e0, _⟩ hB => doV_move e0)
    | 9, _ => exact G.ob_got (fun f => [(41, .slice a5 ds.length k5)]) rfl rfl (fun _ => by kernel_rfl) (fun f A w ⟨e0, _⟩ hB hh => cg1 cf_laws_toPointS e0 (T5 w (hbD_of hb hB)))
    | 10, _ => exact G.ob_val [(6, .int .u64 r)] rfl rfl (fun _ => by kernel_rfl) (fun A w ⟨e0, _⟩ hB => doV_move e0)
    | 11, _ => exact G.ob_had (fun f => [(33, .int .i64 mode), (34, .int .u64 k), (36, .agg #[.int .u64 ax, .int .u64 ay, .bool ac]), (38, .agg #[.int .u64 bx, .int .u64 by', .bool bc]), (40, slN cs.length (f 7)), (42, slN ds.length (f 9)), (43, .int .u64 r)]) rfl rfl (fun _ => by kernel_rfl) (fun f A w ⟨e0, e1, e2, e3, e4, e5, e6, _⟩ hB hh => cl7 cf_spec_Prove e0 e1 e2 e3 e4 e5 e6 (L w _ _ (hh 40 (by decide) 7 rfl (by decide) _ _ rfl) (hh 42 (by decide) 9 rfl (by decide) _ _ rfl)))
    | 12, _ => exact G.ob_val [(44, .tuple #[.agg #[.int .u64 cN, .int .u64 sN], .bool ok])] rfl rfl (fun _ => by kernel_rfl) (fun A w ⟨e0, _⟩ hB => doV_move e0)
    | 13, _ => exact G.ob_val [(32, .tuple #[.agg #[.int .u64 cN, .int .u64 sN], .bool ok])] rfl rfl (fun _ => by kernel_rfl) (fun A w ⟨e0, _⟩ hB => xt2_0 e0)
    | 14, _ => exact G.ob_val [(32, .tuple #[.agg #[.int .u64 cN, .int .u64 sN], .bool ok])] rfl rfl (fun _ => by kernel_rfl) (fun A w ⟨e0, _⟩ hB => xt2_1 e0)
    | 15, _ => exact G.ob_new rfl rfl (fun A w => al_prf)
    | 16, _ => exact G.ob_put 16 (fun f => [(16, .pointer (some ⟨f 15, 0, none⟩)), (45, .agg #[.int .u64 cN, .int .u64 sN])]) rfl rfl rfl (by decide) (by kernel_rfl) rfl (fun _ => by kernel_rfl) (fun f A w ⟨e0, e1, _⟩ hr => pu_prf e0 e1 hr)
    | 17, _ => exact G.ob_val [(46, .bool ok)] rfl rfl (fun _ => by kernel_rfl) (fun A w ⟨e0, _⟩ hB => doV_assign e0)
    | ix + 18, h => exact absurd h (by simp)
  intro f W1 hS1 hnew _ _ _
  have hb1 : Below X.heap.size X W1 := (Below.refl _ X).drew.trans hS1.below
  have rp : P2 W1 37 (f 15) cN sN := (hnew 15 _ _ _ rfl (by decide)).2
  generalize f 15 = BP at *
  replace ra := ra.keep hb1
  replace rb := rb.keep hb1
  replace hb := hb.trans (hb1.mono hb.size)
  clear a0 a1 a2 b0 b1 b2 hS1 hb1 hnew L
  simp only [puts, List.foldl, Act.put, List.setIfInBounds_toArray, List.set_cons_zero, List.set_cons_succ]
  go_wp2_with fail
  refine (T4 _ hb).mono ?_
  rintro e w2 ⟨x3, rfl, m3, b2⟩
  replace ra := ra.keep b2
  replace rb := rb.keep b2
  replace rp := rp.keep b2
  replace hb := hb.trans (b2.mono hb.size)
  clear b2
  go_wp2_with fail
  refine (T5 _ hb).mono ?_
  rintro e w3 ⟨x4, rfl, m4, b3⟩
  replace ra := ra.keep b3
  replace rb := rb.keep b3
  replace rp := rp.keep b3
  replace m3 := m3.keep b3
  replace hb := hb.trans (b3.mono hb.size)
  clear b3
  go_wp2
  have hT3 : TabK w3.drew := keepT hT hgw hb.drew
  have hg3 : 3 < w3.drew.heap.size := Nat.lt_of_lt_of_le hgw hb.size
  have m3d : Mad x3 cs w3.drew := m3
  have m4d : Mad x4 ds w3.drew := m4
  have a0 : w3.drew.cell? ⟨w.heap.size, 0, none⟩ = _ := ra.c0
  have a1 : w3.drew.cell? ⟨w.heap.size, 1, none⟩ = _ := ra.c1
  have a2 : w3.drew.cell? ⟨w.heap.size, 2, none⟩ = _ := ra.c2
  have b0 : w3.drew.cell? ⟨w.heap.size + 1, 0, none⟩ = _ := rb.c0
  have b1 : w3.drew.cell? ⟨w.heap.size + 1, 1, none⟩ = _ := rb.c1
  have b2 : w3.drew.cell? ⟨w.heap.size + 1, 2, none⟩ = _ := rb.c2
  refine G.pool_list (W := w3) [] [.val (.int .i64 mode),
      .val (.int .u64 k),
      .val (.agg #[.int .u64 ax, .int .u64 ay, .bool ac]),
      .val (.agg #[.int .u64 ax, .int .u64 ay, .bool ac]),
      .val (.agg #[.int .u64 bx, .int .u64 by', .bool bc]),
      .val (.agg #[.int .u64 bx, .int .u64 by', .bool bc]),
      .val (.slice (some ⟨x3, 0, none⟩) cs.length cs.length),
      .val (.slice (some ⟨x4, 0, none⟩) ds.length ds.length),
      .val (.int .u64 r),
      .val (.tuple #[.agg #[.int .u64 cN, .int .u64 sN], .bool ok]),
      .val (.tuple #[.agg #[.int .u64 cN, .int .u64 sN], .bool ok]),
      .val (.agg #[.int .u64 cN, .int .u64 sN]),
      .val (.bool ok),
      .new (.cells #[.int .u64 0, .int .u64 0] 37) (.cells #[.int .u64 cN, .int .u64 sN] 37) 14,
      .put 13,
      .val (.bool ok)] [[0], [1], [9], [54], [10], [56], [18], [19], [6], [52, 53, 55, 57, 58, 59, 60], [61], [51], [51], [], [20, 62], [63]] (fun f => [(some 52, .int .i64 mode), (some 53, .int .u64 k), (some 54, .agg #[.int .u64 ax, .int .u64 ay, .bool ac]), (some 55, .agg #[.int .u64 ax, .int .u64 ay, .bool ac]), (some 56, .agg #[.int .u64 bx, .int .u64 by', .bool bc]), (some 57, .agg #[.int .u64 bx, .int .u64 by', .bool bc]), (some 58, .slice (some ⟨x3, 0, none⟩) cs.length cs.length), (some 59, .slice (some ⟨x4, 0, none⟩) ds.length ds.length), (some 60, .int .u64 r), (some 61, .tuple #[.agg #[.int .u64 cN, .int .u64 sN], .bool ok]), (some 51, .tuple #[.agg #[.int .u64 cN, .int .u64 sN], .bool ok]), (some 62, .agg #[.int .u64 cN, .int .u64 sN]), (some 63, .bool ok), (some 20, .pointer (some ⟨f 13, 0, none⟩)), (none, undef), (some 21, .bool ok)]) (by kernel_rfl) (by kernel_rfl) (by kernel_rfl) (by kernel_rfl) (fun _ => by kernel_rfl) (G.last_of [.cells #[.int .u64 0, .int .u64 0] 37] (fun F R hm => by simp at hm) (fun ob ob' k hm => by simp at hm; simp [hm]) (fun b ob ob' hm => by simp at hm)) (fun b ob ob' hm => by simp at hm) ?_ ?_
  · intro ix hix
    match ix, hix with
    | 0, _ => exact G.ob_val [(0, .int .i64 mode)] rfl rfl (fun _ => by kernel_rfl) (fun A w ⟨e0, _⟩ hB => doV_move e0)
    | 1, _ => exact G.ob_val [(1, .int .u64 k)] rfl rfl (fun _ => by kernel_rfl) (fun A w ⟨e0, _⟩ hB => doV_move e0)
    | 2, _ => exact G.ob_val [(9, .pointer (some ⟨w.heap.size, 0, none⟩))] rfl rfl (fun _ => by kernel_rfl) (fun A w ⟨e0, _⟩ hB => ld_lpt e0 (hB.cell a0 (by simp)) (hB.cell a1 (by simp)) (hB.cell a2 (by simp)))
    | 3, _ => exact G.ob_val [(54, .agg #[.int .u64 ax, .int .u64 ay, .bool ac])] rfl rfl (fun _ => by kernel_rfl) (fun A w ⟨e0, _⟩ hB => cl1 cf_laws_toPoint e0 (toP5 _ _ _ w))
    | 4, _ => exact G.ob_val [(10, .pointer (some ⟨w.heap.size + 1, 0, none⟩))] rfl rfl (fun _ => by kernel_rfl) (fun A w ⟨e0, _⟩ hB => ld_lpt e0 (hB.cell b0 (by simp)) (hB.cell b1 (by simp)) (hB.cell b2 (by simp)))
    | 5, _ => exact G.ob_val [(56, .agg #[.int .u64 bx, .int .u64 by', .bool bc])] rfl rfl (fun _ => by kernel_rfl) (fun A w ⟨e0, _⟩ hB => cl1 cf_laws_toPoint e0 (toP5 _ _ _ w))
    | 6, _ => exact G.ob_val [(18, .slice (some ⟨x3, 0, none⟩) cs.length cs.length)] rfl rfl (fun _ => by kernel_rfl) (fun A w ⟨e0, _⟩ hB => doV_move e0)
    | 7, _ => exact G.ob_val [(19, .slice (some ⟨x4, 0, none⟩) ds.length ds.length)] rfl rfl (fun _ => by kernel_rfl) (fun A w ⟨e0, _⟩ hB => doV_move e0)
    | 8, _ => exact G.ob_val [(6, .int .u64 r)] rfl rfl (fun _ => by kernel_rfl) (fun A w ⟨e0, _⟩ hB => doV_move e0)
    | 9, _ => exact G.ob_val [(52, .int .i64 mode), (53, .int .u64 k), (55, .agg #[.int .u64 ax, .int .u64 ay, .bool ac]), (57, .agg #[.int .u64 bx, .int .u64 by', .bool bc]), (58, .slice (some ⟨x3, 0, none⟩) cs.length cs.length), (59, .slice (some ⟨x4, 0, none⟩) ds.length ds.length), (60, .int .u64 r)] rfl rfl (fun _ => by kernel_rfl) (fun A w ⟨e0, e1, e2, e3, e4, e5, e6, _⟩ hB => cl7 cf_impl_Prove e0 e1 e2 e3 e4 e5 e6 (M w _ _ (keepT hT3 hg3 hB.below) (m3d.keep hB.below) (m4d.keep hB.below)))
    | 10, _ => exact G.ob_val [(61, .tuple #[.agg #[.int .u64 cN, .int .u64 sN], .bool ok])] rfl rfl (fun _ => by kernel_rfl) (fun A w ⟨e0, _⟩ hB => doV_move e0)
    | 11, _ => exact G.ob_val [(51, .tuple #[.agg #[.int .u64 cN, .int .u64 sN], .bool ok])] rfl rfl (fun _ => by kernel_rfl) (fun A w ⟨e0, _⟩ hB => xt2_0 e0)
    | 12, _ => exact G.ob_val [(51, .tuple #[.agg #[.int .u64 cN, .int .u64 sN], .bool ok])] rfl rfl (fun _ => by kernel_rfl) (fun A w ⟨e0, _⟩ hB => xt2_1 e0)
    | 13, _ => exact G.ob_new rfl rfl (fun A w => al_prf)
    | 14, _ => exact G.ob_put 20 (fun f => [(20, .pointer (some ⟨f 13, 0, none⟩)), (62, .agg #[.int .u64 cN, .int .u64 sN])]) rfl rfl rfl (by decide) (by kernel_rfl) rfl (fun _ => by kernel_rfl) (fun f A w ⟨e0, e1, _⟩ hr => pu_prf e0 e1 hr)
    | 15, _ => exact G.ob_val [(63, .bool ok)] rfl rfl (fun _ => by kernel_rfl) (fun A w ⟨e0, _⟩ hB => doV_assign e0)
    | ix + 16, h => exact absurd h (by simp)
  intro f W4 hS4 hnew _ _ _
  have hb4 : Below w3.heap.size w3 W4 := (Below.refl _ w3).drew.trans hS4.below
  have rq : P2 W4 37 (f 13) cN sN := (hnew 13 _ _ _ rfl (by decide)).2
  generalize f 13 = BQ at *
  replace rp := rp.keep hb4
  replace m3 := m3.keep hb4
  replace m4 := m4.keep hb4
  replace hb := hb.trans (hb4.mono hb.size)
  clear a0 a1 a2 b0 b1 b2 hS4 hb4 hnew M hT3 hg3 m3d m4d ra rb
  simp only [puts, List.foldl, Act.put, List.setIfInBounds_toArray, List.set_cons_zero, List.set_cons_succ]
  have c0 := rp.c0
  have c1 := rp.c1
  have d0 := rq.c0
  have d1 := rq.c1
  go_wp2_with fail
  refine (eqF _ _ _).mono ?_
  rintro e w5 ⟨rfl, b5⟩
  replace m3 := m3.keep b5
  replace m4 := m4.keep b5
  replace hb := hb.trans (b5.mono hb.size)
  clear b5 c0 c1 d0 d1 rp rq
  go_wp2_with fail
  refine (T4 _ hb).mono ?_
  rintro e w11 ⟨x5, rfl, m5, b11⟩
  replace m3 := m3.keep b11
  replace m4 := m4.keep b11
  replace hb := hb.trans (b11.mono hb.size)
  clear b11
  go_wp2_with fail
  refine (E4 _ _ _ m3 m5).mono ?_
  rintro e w12 ⟨rfl, b12⟩
  replace m4 := m4.keep b12
  replace hb := hb.trans (b12.mono hb.size)
  clear b12 m3 m5
  go_wp2_with fail
  refine (T5 _ hb).mono ?_
  rintro e w13 ⟨x6, rfl, m6, b13⟩
  replace m4 := m4.keep b13
  replace hb := hb.trans (b13.mono hb.size)
  clear b13
  go_wp2_with fail
  refine (E5 _ _ _ m4 m6).mono ?_
  rintro e w14 ⟨rfl, b14⟩
  replace hb := hb.trans (b14.mono hb.size)
  go_wp2
  go_ret
  exact ⟨rfl, hb⟩
theorem walk (mode : Int) (k : Nat) (ax ay : Nat) (ac : Bool) (bx by' : Nat) (bc : Bool) (v4 v5 : Value) (r : Nat) (w : World) (hk : k < 18446744073709551616) (h4 : ∃ ps, Ars w v4 ps ∧ ps.length ≤ maxLen) (h5 : ∃ ps, Ars w v5 ps ∧ ps.length ≤ maxLen) (hr : r < 18446744073709551616) (hT : TabK w) :
    Calls Tryz.prog 4 #[.int .i64 mode, .int .u64 k, .agg #[.int .u64 ax, .int .u64 ay, .bool ac], .agg #[.int .u64 bx, .int .u64 by', .bool bc], v4, v5, .int .u64 r] w fun e w' => e = .returned (.bool true) ∧ Below w.heap.size w w' := by
  obtain ⟨cs, h4, hm4⟩ := h4
  obtain ⟨ds, h5, hm5⟩ := h5
  by_cases hl : (cs.length : Int) + (ds.length : Int) ≤ 1048576
  · obtain ⟨cN, sN, ok, L, M⟩ : ∃ (cN sN : Int) (ok : Bool), (∀ w g1 g2, Mad g1 cs w → Mad g2 ds w → Calls Tryz.prog 14 #[.int .i64 mode, .int .u64 k, .agg #[.int .u64 ax, .int .u64 ay, .bool ac], .agg #[.int .u64 bx, .int .u64 by', .bool bc], .slice (some ⟨g1, 0, none⟩) cs.length cs.length, .slice (some ⟨g2, 0, none⟩) ds.length ds.length, .int .u64 r] w fun e w' => e = .returned (.tuple #[.agg #[.int .u64 cN, .int .u64 sN], .bool ok]) ∧ Below w.heap.size w w') ∧
      (∀ w g1 g2, TabK w → Mad g1 cs w → Mad g2 ds w → Calls Tryz.prog 15 #[.int .i64 mode, .int .u64 k, .agg #[.int .u64 ax, .int .u64 ay, .bool ac], .agg #[.int .u64 bx, .int .u64 by', .bool bc], .slice (some ⟨g1, 0, none⟩) cs.length cs.length, .slice (some ⟨g2, 0, none⟩) ds.length ds.length, .int .u64 r] w fun e w' => e = .returned (.tuple #[.agg #[.int .u64 cN, .int .u64 sN], .bool ok]) ∧ Below w.heap.size w w') := by
      by_cases hB : batB mode (ax, ay, ac) (bx, by', bc) cs ds = true ∧ k < 2305843010818082053 ∧ r < 2305843010818082053
      · obtain ⟨h1, h2, h3⟩ := hB
        have h1' := h1
        rw [batB_iff] at h1'
        obtain ⟨md, rfl⟩ : ∃ md : Nat, mode = (md : Int) := ⟨mode.toNat, by omega⟩
        exact ⟨((prvC md k r (ax, ay, ac) (bx, by', bc) cs ds : Nat) : Int), ((prvN md k r (ax, ay, ac) (bx, by', bc) cs ds : Nat) : Int), true, fun w g1 g2 m1 m2 => prvS_yes md k r (ax, ay, ac) (bx, by', bc) cs ds g1 0 cs.length g2 0 ds.length w m1.pts m2.pts h1 h2 h3,
          fun w g1 g2 hT m1 m2 => pveI_yes md k r (ax, ay, ac) (bx, by', bc) cs ds g1 0 cs.length g2 0 ds.length w hT m1.pts m2.pts h1 h2 h3⟩
      · exact ⟨0, 0, false, fun w g1 g2 m1 m2 => prvS_bad mode k r (ax, ay, ac) (bx, by', bc) cs ds g1 0 cs.length g2 0 ds.length w m1.pts m2.pts hB,
          fun w g1 g2 hT m1 m2 => pveI_bad mode k r (ax, ay, ac) (bx, by', bc) cs ds g1 0 cs.length g2 0 ds.length w m1.pts m2.pts hB⟩
    exact walk_of mode k r ax ay bx by' cN sN ac bc ok cs ds v4 v5 w hT h4 h5 hl L M
  · obtain ⟨a2, n2, k2, rfl, l2, -⟩ := h4
    obtain ⟨a3, n3, k3, rfl, l3, -⟩ := h5
    rw [l2, l3] at hl
    have hb := ((Below.refl _ w).alloc (Nat.le_refl _) (Obj.cells #[.int .u64 ax, .int .u64 ay, .bool ac] 24)).alloc (by simp) (Obj.cells #[.int .u64 bx, .int .u64 by', .bool bc] 24)
    by_cases h2 : n2 ≤ 1048576
    · have S2 := fun w => szL_yes a2 n2 k2 1048576 w (by omega) (by omega)
      have S3 := fun w => szL_no a3 n3 k3 (1048576 - n2) w (by omega) (by omega) (by omega) (by omega)
      have g2 : ¬ (1048576 - (n2 : Int)) < 0 := by omega
      clear hl hm4 hm5 hk hr
      go_enter Tryz.func4, Tryz.ntmps4
      go_wp2_with fail
      refine (S2 _).mono ?_
      rintro e w' ⟨rfl, rfl⟩
      go_wp2_with fail
      refine (S3 _).mono ?_
      rintro e w' ⟨rfl, rfl⟩
      go_wp2
      go_ret
      exact ⟨rfl, hb⟩
    · have S2 := fun w => szL_no a2 n2 k2 1048576 w (by omega) (by omega) (by omega) (by omega)
      clear hl hm4 hm5 hk hr
      go_enter Tryz.func4, Tryz.ntmps4
      go_wp2_with fail
      refine (S2 _).mono ?_
      rintro e w' ⟨rfl, rfl⟩
      go_wp2
      go_ret
      exact ⟨rfl, hb⟩

set_option maxRecDepth 100000 in
theorem contract (H : Type) (enc : TypeId × Value → H) (W : World) (base : Nat) (args : Array Value) (ds gs : List (DataW H)) (before : List MemPlace)
    (hval : ∀ (j : Nat) t v, Tryz.f4.params[j]? = some t → args[j]? = some v → Value.okWide Tryz.prog W .any base t v)
    (hW : DataW.Whole enc Tryz.prog Tryz.f4.params.toList Rows.fnExactProveSpec.vars false W args.toList ds gs before) (hL : laidMetH Tryz.prog Rows.fnExactProveRow.laid W) :
    Calls Tryz.prog 4 args W fun e W' => ∃ v, e = .returned v ∧ Rows.fnExactProveSpec.post enc Tryz.prog Tryz.f4 false true false false W args v W' := by
  have hW' := hW
  obtain ⟨p, q, hA0, hV, rfl, hfz, hnd⟩ := hW
  have hA : DataW.TrodAll enc Tryz.prog W 0 (fun _ => true) true Tryz.f4.params.toList args.toList ds p := hA0
  rw [Tryz.params4] at hA hval
  obtain ⟨v0, vs0, d0, ds0, p0, q0, hargs, rfl, rfl, h0, r0⟩ := trodAll_cons hA
  obtain ⟨v1, vs1, d1, ds1, p1, q1, rfl, rfl, rfl, h1, r1⟩ := trodAll_cons r0
  obtain ⟨v2, vs2, d2, ds2, p2, q2, rfl, rfl, rfl, h2, r2⟩ := trodAll_cons r1
  obtain ⟨v3, vs3, d3, ds3, p3, q3, rfl, rfl, rfl, h3, r3⟩ := trodAll_cons r2
  obtain ⟨v4, vs4, d4, ds4, p4, q4, rfl, rfl, rfl, h4, r4⟩ := trodAll_cons r3
  obtain ⟨v5, vs5, d5, ds5, p5, q5, rfl, rfl, rfl, h5, r5⟩ := trodAll_cons r4
  obtain ⟨v6, vs6, d6, ds6, p6, q6, rfl, rfl, rfl, h6, r6⟩ := trodAll_cons r5
  obtain ⟨rfl, rfl, rfl⟩ := trodAll_nil r6
  obtain rfl : args = #[v0, v1, v2, v3, v4, v5, v6] := by cases args; simp_all
  obtain ⟨gd, rfl⟩ : ∃ gd, gs = [gd] := by obtain ⟨_, _, _, _, d, _, e, _⟩ := trodVars_one hV; exact ⟨d, e⟩
  obtain ⟨a0, rfl, rfl, rfl, w0⟩ := open_int Tryz.underlying3 (hval 0 3 v0 rfl rfl) h0
  obtain ⟨a1, rfl, rfl, rfl, w1⟩ := open_int Tryz.underlying22 (hval 1 22 v1 rfl rfl) h1
  obtain ⟨b1, rfl, hl1⟩ := u64_nat w1
  obtain ⟨x2, y2, c2, rfl, rfl, rfl, wx2, wy2, lx2, ly2⟩ := open_pt (hval 2 24 v2 rfl rfl) h2
  obtain ⟨x3, y3, c3, rfl, rfl, rfl, wx3, wy3, lx3, ly3⟩ := open_pt (hval 3 24 v3 rfl rfl) h3
  obtain ⟨a4, len4, cap4, rfl⟩ := okWide_slice Tryz.underlying25 (hval 4 25 v4 rfl rfl)
  have hlt4 : ∀ x ∈ p4, x.block < W.heap.size := fun x hx => hW'.lt x (by simp [hx])
  obtain ⟨a5, len5, cap5, rfl⟩ := okWide_slice Tryz.underlying25 (hval 5 25 v5 rfl rfl)
  have hlt5 : ∀ x ∈ p5, x.block < W.heap.size := fun x hx => hW'.lt x (by simp [hx])
  obtain ⟨a6, rfl, rfl, rfl, w6⟩ := open_int Tryz.underlying22 (hval 6 22 v6 rfl rfl) h6
  obtain ⟨b6, rfl, hl6⟩ := u64_nat w6
  clear hA0
  refine (walk a0 b1 x2 y2 c2 x3 y3 c3 (.slice a4 len4 cap4) (.slice a5 len5 cap5) b6 W hl1 (ars_of h4) (ars_of h5) hl6 (table hL (by kernel_rfl))).mono fun e W' ⟨he, bel⟩ => ?_
  subst he
  exact ⟨_, rfl, _, _, _, [], [] ++ ([] ++ ([] ++ ([] ++ (p4 ++ (p5 ++ ([] ++ [])))))), q, hW', trodAll_mk1 (shut_bool Tryz.underlying4 _), (trodAll_cons_mk (shut_int Tryz.underlying3 w0) (trodAll_cons_mk (shut_int Tryz.underlying22 w1) (trodAll_cons_mk (shut_pt c2 wx2 wy2) (trodAll_cons_mk (shut_pt c3 wx3 wy3) (trodAll_cons_mk (Below.trod laidOut (by kernel_rfl) (of_decide_eq_true (by kernel_rfl)) h4 bel hlt4) (trodAll_cons_mk (Below.trod laidOut (by kernel_rfl) (of_decide_eq_true (by kernel_rfl)) h5 bel hlt5) (trodAll_cons_mk (shut_int Tryz.underlying22 w6) trodAll_mk0))))))), Below.trodVars laidOut bel varsR hV, bel.frame _, fun h => by cases h⟩

theorem laid_met (os : Os) : laidMet Tryz.prog Rows.fnExactProveRow.laid ((laidWorld os).forCall (fun _ _ => 0) ⟨#[], #[.int .i64 0, .int .u64 0, .agg #[.int .u64 0, .int .u64 0, .bool false], .agg #[.int .u64 0, .int .u64 0, .bool false], .slice none 0 0, .slice none 0 0, .int .u64 0], []⟩).memory :=
  laidMet_of_run' 8 (by kernel_rfl) (by kernel_rfl)
theorem reads (os : Os) {H : Type} (enc : TypeId × Value → H) : ∃ places, DataW.whole enc Tryz.prog ((laidWorld os).forCall (fun _ _ => 0) ⟨#[], #[.int .i64 0, .int .u64 0, .agg #[.int .u64 0, .int .u64 0, .bool false], .agg #[.int .u64 0, .int .u64 0, .bool false], .slice none 0 0, .slice none 0 0, .int .u64 0], []⟩).memory Tryz.f4.params.toList Rows.fnExactProveSpec.vars false #[Value.int .i64 0, Value.int .u64 0, Value.agg #[.int .u64 0, .int .u64 0, .bool false], Value.agg #[.int .u64 0, .int .u64 0, .bool false], Value.slice none 0 0, Value.slice none 0 0, Value.int .u64 0].toList 8 = some ([.lit (.int .i64 0), .lit (.int .u64 0), .agg [.lit (.int .u64 0), .lit (.int .u64 0), .lit (.bool false)], .agg [.lit (.int .u64 0), .lit (.int .u64 0), .lit (.bool false)], .nil, .nil, .lit (.int .u64 0)], [Rows.laid_loop_example_s02095_impl_roundWords], places) :=
  ⟨MemPlace.row ⟨3, 0, none⟩ 64, by kernel_rfl⟩

set_option maxRecDepth 100000 in
theorem lifted (os : Os) (started : os.Started) (H : Type) (enc : TypeId × Value → H) (F : Stop.Interp) :
    ReturnsInHanded {} Tryz.checked os 4 .any ((OpenSpec.ofChange Rows.fnExactProveSpec).preRow enc Tryz.prog Tryz.f4 Rows.fnExactProveRow.domain false Rows.fnExactProveRow.laid) (((OpenSpec.ofChange Rows.fnExactProveSpec).at F).post enc Tryz.prog Tryz.f4 false true false false) := by
  obtain ⟨places, hx⟩ := reads os enc
  refine returnsInHanded_of_row (C := Tryz.checked) (s := OpenSpec.ofChange Rows.fnExactProveSpec) own started (by kernel_rfl) Tryz.func4
    (witness_row_at (enc := enc) (C := Tryz.checked) false (laidWorld os) #[.int .i64 0, .int .u64 0, .agg #[.int .u64 0, .int .u64 0, .bool false], .agg #[.int .u64 0, .int .u64 0, .bool false], .slice none 0 0, .slice none 0 0, .int .u64 0] rfl (by kernel_rfl) (by kernel_rfl) (by kernel_rfl)
      (OpenSpec.preRow_of_cond 8 hx (by kernel_rfl) (fun k hk => by cases hk) (by kernel_rfl) (laid_met os))) ?_
  intro W base args ds gs before hval hW _ _ _ hL _ _
  exact contract H enc W base args ds gs before hval hW hL

theorem said : Rows.FnExactProveSaid :=
  OpenClaim.holds_of_cond 4 Tryz.f4 rfl rfl rfl rfl rfl rfl rfl ⟨rfl, rfl, rfl, rfl, rfl⟩ rfl rfl rfl rfl rfl (by kernel_rfl) Tryz.func4 (by kernel_rfl)
    (of_decide_eq_true (by kernel_rfl)) (by unfold Func.isWrapper; first | (rw [if_pos (by decide +kernel)]; kernel_rfl) | (rw [if_neg (by decide +kernel)]; exact ⟨rfl, rfl⟩))
    (fun os started H enc _ F => by rw [OpenClaim.pre_eq_preRow]; exact lifted os started H enc F)

theorem plain (f : FuncId) (fn : Func) (hf : Tryz.pinned.checked.prog.funcNamed "loop.example/s02095/laws.FnExactProve" = some f) (hfn : Tryz.pinned.checked.prog.funcs[f]? = some fn) :
    false = Tryz.pinned.checked.prog.looks [] ∧ ∀ (j : Nat) t, fn.params[j]? = some t → Tryz.pinned.checked.prog.wantsStandIn t = false := by
  obtain rfl : f = 4 := Option.some.inj ((show Tryz.prog.funcNamed "loop.example/s02095/laws.FnExactProve" = some 4 by kernel_rfl).symm.trans hf) |>.symm
  obtain rfl : fn = Tryz.f4 := (Option.some.inj (Tryz.func4.symm.trans hfn)).symm
  refine ⟨by kernel_rfl, fun j t ht => ?_⟩
  rw [Tryz.params4] at ht
  have hm := Array.mem_of_getElem? ht
  have : t = 3 ∨ t = 22 ∨ t = 24 ∨ t = 25 := by simp at hm; grind
  rcases this with rfl | rfl | rfl | rfl
  · exact (show Tryz.prog.wantsStandIn 3 = false by kernel_rfl)
  · exact (show Tryz.prog.wantsStandIn 22 = false by kernel_rfl)
  · exact (show Tryz.prog.wantsStandIn 24 = false by kernel_rfl)
  · exact (show Tryz.prog.wantsStandIn 25 = false by kernel_rfl)
end prove

/-- ████ THE CARD ████ -/
theorem prove_card : Rows.FnExactProveCardSaid :=
  Claim7.holds_tied_plain_at .later [] _ _ _ _ prove.said (fun _ h => by cases h) (by kernel_rfl) (fun _ h => by cases h) fnExactProve_row_tie rfl ⟨rfl, rfl⟩ (by kernel_rfl) rfl prove.plain (by kernel_rfl)
#print axioms prove_card
end Go.Proofs.YtagnikeaellbiaaGreatDoor
