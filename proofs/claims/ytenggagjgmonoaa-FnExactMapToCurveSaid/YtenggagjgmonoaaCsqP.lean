import Derived.Test.YtenggagjgmonoaaExeN
namespace Go.Proofs.Ytenggagjgmonoaa
open Go.RowKit M
set_option linter.unusedVariables false

set_option maxRecDepth 100000 in
set_option maxHeartbeats 2000000 in
theorem csqP (x : Fp) (w : World) :
    Calls Try.prog 21 #[.agg #[.int .u64 (fv x)]] w fun e w' => e = .returned (.agg #[.int .u64 (fv ((x * x - 3) * x + 111))]) ∧ Below w.heap.size w w' := by
  obtain ⟨X, hX⟩ : ∃ X, X = ((w.alloc (Obj.cells #[.int .u64 (fv x)] 39)).alloc (Obj.cells #[.int .u64 0] 39)).alloc (Obj.cells #[] 37) := ⟨_, rfl⟩
  have hx : R1 X w.heap.size (fv x) := by rw [hX]; exact ((R1.new w _).alloc _).alloc _
  have hr : R1 X (w.heap.size + 1) 0 := by rw [hX]; exact ((R1.new _ 0).at (by simp)).alloc _
  have hb : Below w.heap.size w X := by rw [hX]; exact (((Below.refl _ w).alloc (Nat.le_refl _) _).alloc (by simp) _).alloc (by simp; omega) _
  rw [hX] at hx hr hb
  clear hX
  go_enter Try.func21, Try.ntmps21
  go_wp2
  refine pool_tail [.val (.agg #[.int .u64 (fv x)]),
    .val (.agg #[.int .u64 (fv x)]),
    .val (.agg #[.int .u64 (fv (x * x))]),
    .val (.agg #[]),
    .val (.agg #[.int .u64 (fv 3)]),
    .val (.agg #[.int .u64 (fv (x * x - 3))]),
    .val (.agg #[.int .u64 (fv x)]),
    .val (.agg #[.int .u64 (fv ((x * x - 3) * x))]),
    .val (.agg #[]),
    .val (.agg #[.int .u64 (fv 111)]),
    .val (.agg #[.int .u64 (fv ((x * x - 3) * x + 111))]),
    .val undef] [[1], [1], [5, 6], [3], [8], [7, 9], [1], [10, 11], [3], [13], [12, 14], [2, 15]] (fun f => [(some 5, .agg #[.int .u64 (fv x)]), (some 6, .agg #[.int .u64 (fv x)]), (some 7, .agg #[.int .u64 (fv (x * x))]), (some 8, .agg #[]), (some 9, .agg #[.int .u64 (fv 3)]), (some 10, .agg #[.int .u64 (fv (x * x - 3))]), (some 11, .agg #[.int .u64 (fv x)]), (some 12, .agg #[.int .u64 (fv ((x * x - 3) * x))]), (some 13, .agg #[]), (some 14, .agg #[.int .u64 (fv 111)]), (some 15, .agg #[.int .u64 (fv ((x * x - 3) * x + 111))])]) (fun f => [(2, .pointer (some ⟨w.heap.size + 1, 0, none⟩)), (15, .agg #[.int .u64 (fv ((x * x - 3) * x + 111))])]) (by kernel_rfl) (by kernel_rfl) (by kernel_rfl) (by kernel_rfl) (by kernel_rfl) (fun _ => by kernel_rfl) ?_ rfl (fun _ => by kernel_rfl) ?_
  · intro ix hix
    match ix, hix with
    | 0, _ => exact ob_val [(1, .pointer (some ⟨w.heap.size, 0, none⟩))] rfl rfl (fun _ => by kernel_rfl) (fun A w ⟨e0, _⟩ hB => do_loadN e0 hx.drew hB)
    | 1, _ => exact ob_val [(1, .pointer (some ⟨w.heap.size, 0, none⟩))] rfl rfl (fun _ => by kernel_rfl) (fun A w ⟨e0, _⟩ hB => do_loadN e0 hx.drew hB)
    | 2, _ => exact ob_val [(5, .agg #[.int .u64 (fv x)]), (6, .agg #[.int .u64 (fv x)])] rfl rfl (fun _ => by kernel_rfl) (fun A w ⟨e0, e1, _⟩ hB => do_call2 cf_times e0 e1 (tmV x x w))
    | 3, _ => exact ob_val [(3, .pointer (some ⟨w.heap.size + 1 + 1, 0, none⟩))] rfl rfl (fun _ => by kernel_rfl) (fun A w ⟨e0, _⟩ hB => do_load0 e0)
    | 4, _ => exact ob_val [(8, .agg #[])] rfl rfl (fun _ => by kernel_rfl) (fun A w ⟨e0, _⟩ hB => do_call2 cf_reduced rfl e0 (rd3 w))
    | 5, _ => exact ob_val [(7, .agg #[.int .u64 (fv (x * x))]), (9, .agg #[.int .u64 (fv 3)])] rfl rfl (fun _ => by kernel_rfl) (fun A w ⟨e0, e1, _⟩ hB => do_call2 cf_minus e0 e1 (mnV (x * x) 3 w))
    | 6, _ => exact ob_val [(1, .pointer (some ⟨w.heap.size, 0, none⟩))] rfl rfl (fun _ => by kernel_rfl) (fun A w ⟨e0, _⟩ hB => do_loadN e0 hx.drew hB)
    | 7, _ => exact ob_val [(10, .agg #[.int .u64 (fv (x * x - 3))]), (11, .agg #[.int .u64 (fv x)])] rfl rfl (fun _ => by kernel_rfl) (fun A w ⟨e0, e1, _⟩ hB => do_call2 cf_times e0 e1 (tmV (x * x - 3) x w))
    | 8, _ => exact ob_val [(3, .pointer (some ⟨w.heap.size + 1 + 1, 0, none⟩))] rfl rfl (fun _ => by kernel_rfl) (fun A w ⟨e0, _⟩ hB => do_load0 e0)
    | 9, _ => exact ob_val [(13, .agg #[])] rfl rfl (fun _ => by kernel_rfl) (fun A w ⟨e0, _⟩ hB => do_call2 cf_reduced rfl e0 (rd111 w))
    | 10, _ => exact ob_val [(12, .agg #[.int .u64 (fv ((x * x - 3) * x))]), (14, .agg #[.int .u64 (fv 111)])] rfl rfl (fun _ => by kernel_rfl) (fun A w ⟨e0, e1, _⟩ hB => do_call2 cf_plus e0 e1 (plV ((x * x - 3) * x) 111 w))
    | ix + 11, h => exact absurd h (by simp)
  rintro f A w9 ⟨e0, e1, _⟩ hB _
  replace hr := (hr.drew).keep hB
  replace hb := keepB hb.drew hb.size hB
  refine does_skip (exec_store e0 e1 hr) ?_
  simp only [puts, List.foldl, Act.put, List.setIfInBounds_toArray, List.set_cons_zero, List.set_cons_succ]
  go_wp2
  exact bodyPost_ret (v := .agg #[.int .u64 (fv ((x * x - 3) * x + 111))]) (num_res (fn := Try.f21) (p := 2) Try.results21 _ rfl (hr.set _)) rfl ⟨rfl, hb.setCell (p := ⟨w.heap.size + 1, 0, none⟩) (by simp) _⟩
theorem csqV (x : Fp) (w : World) :
    Calls Try.prog 21 #[.agg #[.int .u64 (fv x)]] w fun e w' => e = .returned (.agg #[.int .u64 (fv (crv x))]) ∧ Below w.heap.size w w' := by
  have := csqP x w
  rwa [show (x * x - 3) * x + 111 = crv x by unfold crv; grobner] at this
end Go.Proofs.Ytenggagjgmonoaa
