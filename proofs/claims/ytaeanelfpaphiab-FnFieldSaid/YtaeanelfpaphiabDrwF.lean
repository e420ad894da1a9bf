import Derived.Test.YtaeanelfpaphiabDrwS
namespace Go.Proofs.Ytaeanelfpaphiab
open Go.RowKit
set_option linter.unusedVariables false

set_option maxRecDepth 100000 in
set_option maxHeartbeats 1000000 in
theorem dmul_any (v : Value) (w : World) (hv : Cod w v) :
    Calls Try.prog 14 #[v] w fun e w' => (∃ a b m : Nat, a < 18446744073709551616 ∧ b < 18446744073709551616 ∧ m < 18446744073709551616 ∧ e = .returned (.tuple #[.int .u64 a, .int .u64 b, .int .u64 m])) ∧ Below w.heap.size w w' := by
  have T1 := dword_any v 0 w hv (by omega)
  have T2 := fun w hv => dword_any v 10 w hv (by omega)
  have T3 := fun w hv => dmod_any v 20 w hv (by omega)
  go_enter Try.func14, Try.ntmps14
  go_wp2_with fail
  refine T1.mono ?_
  rintro e w1 ⟨⟨a, ha, rfl⟩, hb1⟩
  have hv1 := hv.below hb1
  clear T1
  go_wp2_with fail
  refine (T2 _ hv1).mono ?_
  rintro e w2 ⟨⟨b, hb, rfl⟩, hb2⟩
  have hv2 := hv1.below hb2
  clear T2
  go_wp2_with fail
  refine (T3 _ hv2).mono ?_
  rintro e w3 ⟨⟨m, hm, rfl⟩, hb3⟩
  clear T3
  go_wp2
  refine bodyPost_ret (v := .tuple #[.int .u64 a, .int .u64 b, .int .u64 m]) (by simp [results, Try.results14, go_sem]) rfl ⟨⟨a, b, m, ha, hb, hm, rfl⟩, ?_⟩
  have h12 := hb1.trans (hb2.mono hb1.size)
  exact h12.trans (hb3.mono h12.size)

set_option maxRecDepth 100000 in
set_option maxHeartbeats 1000000 in
theorem dred_any (v : Value) (w : World) (hv : Cod w v) :
    Calls Try.prog 20 #[v] w fun e w' => (∃ (s : ByteArray) (m : Nat), s.size ≤ 65537 ∧ m < 18446744073709551616 ∧ e = .returned (.tuple #[.string s, .int .u64 m])) ∧ Below w.heap.size w w' := by
  have T1 := dmod_any v 0 w hv (by omega)
  have T2 := fun w hv => some_any v 11 w hv (by omega)
  go_enter Try.func20, Try.ntmps20
  go_wp2_with fail
  refine T1.mono ?_
  rintro e w1 ⟨⟨m, hm, rfl⟩, hb1⟩
  have hv1 := hv.below hb1
  clear T1
  go_wp2_with fail
  refine (T2 _ hv1).mono ?_
  rintro e w2 ⟨⟨s, q, hs, hq, rfl⟩, hb2⟩
  clear T2
  go_wp2
  go_ret2
  exact ⟨⟨s, m, hs, hm, rfl⟩, hb1.trans (hb2.mono hb1.size)⟩

set_option maxRecDepth 100000 in
set_option maxHeartbeats 1000000 in
theorem dsqr_any (v : Value) (w : World) (hv : Cod w v) :
    Calls Try.prog 23 #[v] w fun e w' => (∃ x : Nat, x < 18446744073709551616 ∧ e = .returned (.int .u64 x)) ∧ Below w.heap.size w w' := by
  have T1 := dword_any v 0 w hv (by omega)
  have T2 := fun w hv => take_any v 10 2 w hv (by omega) (by omega) (by omega)
  go_enter Try.func23, Try.ntmps23
  go_wp2_with fail
  refine T1.mono ?_
  rintro e w1 ⟨⟨x, hx, rfl⟩, hb1⟩
  have hv1 := hv.below hb1
  clear T1
  go_wp2_with fail
  refine (T2 _ hv1).mono ?_
  rintro e w2 ⟨⟨z, hz, rfl⟩, rfl⟩
  clear T2
  have M := fun w => mulS_P x x w hx hx
  have hr : x * x % 2305843009213693951 < 2305843009213693951 := Nat.mod_lt _ (by decide)
  generalize x * x % 2305843009213693951 = y at *
  rcases (show z = 0 ∨ z = 1 by omega) with rfl | rfl
  · clear hx
    go_wp2_with fail
    refine (M _).mono ?_
    rintro e w2 ⟨rfl, rfl⟩
    go_wp2
    go_ret
    exact ⟨⟨y, by omega, rfl⟩, hb1⟩
  · clear hr
    go_wp2
    go_ret
    exact ⟨⟨x, hx, rfl⟩, hb1⟩
end Go.Proofs.Ytaeanelfpaphiab
