import Derived.Test.YtaeanelfpaphiabTopN
namespace Go.Proofs.Ytaeanelfpaphiab
open Go.RowKit
set_option linter.unusedVariables false
set_option maxRecDepth 100000 in
set_option maxHeartbeats 200000 in
theorem inverse_any (a m : Nat) (w : World) (ha : a < m) (hm : m < 18446744073709551616) (h2 : 2 ≤ m) :
    Calls Try.prog 55 #[nm m a] w fun e w' => e = .returned (nm m (a ^ (m - 2) % m)) ∧ Below w.heap.size w w' := by
  have hme := methM m
  have T := fun w => powI_any a (m - 2) m w ha (by omega) hm
  have V := valI m
  have e : ((m - 2 : Nat) : Int) = IntKind.u64.wrap ((m : Int) - 2) := by rw [IntKind.wrap_u64]; omega
  rw [e] at T
  obtain ⟨c, hc⟩ : ∃ c, c = a ^ (m - 2) % m := ⟨_, rfl⟩
  rw [← hc] at T ⊢
  have z : (2 : Int) ≤ (m : Int) := by omega
  have z' : (m : Int) ≤ 18446744073709551615 := by omega
  unfold nm at *
  clear hc e h2 ha hm
  go_enter Try.func55, Try.ntmps55
  go_wp2
  have rA0 : Rw ((w.alloc (Obj.cells #[.int .u64 (m : Int), .int .u64 (a : Int)] 72)).alloc (Obj.cells #[.int .u64 0, .int .u64 0] 72)).drew 72 w.heap.size m a := (Rw.new w 72 m a).alloc _
  have rR0 : Rw ((w.alloc (Obj.cells #[.int .u64 (m : Int), .int .u64 (a : Int)] 72)).alloc (Obj.cells #[.int .u64 0, .int .u64 0] 72)).drew 72 (w.heap.size + 1) 0 0 := (Rw.new (w.alloc (Obj.cells #[.int .u64 m, .int .u64 a] 72)) _ 0 0).at (by simp)
  go_region_held3 (fun w' => w'.cell? ⟨w.heap.size, 0, none⟩ = some (.int .u64 (m : Int)) ∧ w'.cell? ⟨w.heap.size, 1, none⟩ = some (.int .u64 (a : Int))) (first | exact ⟨rA.cell0, rA.cell1⟩ | go_keep) ((go_simp; first
    | (go_at_call 111; refine (V _).mono ?_; rintro e w' ⟨rfl, rfl⟩)
    | (go_at_call 54; refine (T _).mono ?_; rintro e w' ⟨rfl, hb⟩; have rA := rA0.below hb rA0.lt; have rR := rR0.below hb rR0.lt; have f0 := rR.frz 0; have f1 := rR.frz 1; have p0 := rR.cell0; have p1 := rR.cell1)))
  have rF := rR.sets m c
  go_wp2
  refine bodyPost_ret (v := .agg #[.int .u64 m, .int .u64 c]) (results_mid (fn := Try.f55) (p := 2) (ty := 72) Try.results55 _ _ (w.heap.size + 1) 0 [.int .u64 m, .int .u64 c] _ rfl rF.range Try.underlying72 rfl (by kernel_rfl)) rfl ⟨rfl, ?_⟩
  exact sets_below (((((Below.refl _ w).alloc (Nat.le_refl _) _).alloc (by simp) _).drew).trans (hb.mono (by simp [World.drew]; omega))) (by omega)
set_option maxRecDepth 100000 in
theorem invI_less (a m : Nat) (w : World) (h2 : m < 2) :
    Calls Try.prog 19 #[.int .u64 a, .int .u64 m] w fun e w' => e = .returned (.int .u64 0) ∧ Below w.heap.size w w' := by
  have z : (m : Int) < 2 := by omega
  go_enter Try.func19, Try.ntmps19
  go_wp2
  go_ret
  exact ⟨rfl, Below.refl _ _⟩
set_option maxRecDepth 100000 in
theorem invI_any (a m : Nat) (w : World) (hm : m < 18446744073709551616) (h2 : 2 ≤ m) :
    Calls Try.prog 19 #[.int .u64 a, .int .u64 m] w fun e w' => e = .returned (.int .u64 (a ^ (m - 2) % m : Nat)) ∧ Below w.heap.size w w' := by
  have R1 := fun w => redI_any a m w (by omega)
  have T := fun w => inverse_any (a % m) m w (Nat.mod_lt _ (by omega)) hm h2
  rw [← Nat.pow_mod] at T
  generalize a ^ (m - 2) % m = c at *
  generalize a % m = A at *
  have z0 : ¬ ((m : Int) < 2) := by omega
  have hfl := fldM
  unfold nm at *
  clear h2 hm
  go_enter Try.func19, Try.ntmps19
  go_wp2_with fail
  refine (R1 _).mono ?_
  rintro e w' ⟨rfl, rfl⟩
  go_wp2_with fail
  refine (T _).mono ?_
  rintro e w' ⟨rfl, hb⟩
  go_wp2
  go_ret
  exact ⟨rfl, ((Below.refl _ w).alloc (Nat.le_refl _) _).trans (hb.mono (by simp))⟩
end Go.Proofs.Ytaeanelfpaphiab
