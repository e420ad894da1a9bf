import Derived.Test.YtaeanelfpaphiabSomeS
namespace Go.Proofs.Ytaeanelfpaphiab
open Go.RowKit
set_option linter.unusedVariables false

set_option maxRecDepth 100000 in
theorem wpick_none (q : Option Addr) (c i : Nat) (w : World) :
    Calls Try.prog 88 #[.slice q 0 c, .int .i64 i] w fun e w' => e = .returned (.int .i64 i) ∧ w = w' := by
  go_enter Try.func88, Try.ntmps88
  go_wp2
  go_ret
  exact ⟨rfl, rfl⟩
set_option maxRecDepth 100000 in
set_option maxHeartbeats 1000000 in
theorem wpick_some (b o l c i j x : Nat) (w : World) (hl0 : 0 < l) (hl : l ≤ 1048576) (hi : i ≤ 1000) (hj : j = i % l) (hx : x < 256) (hc : w.cell? ⟨b, o + j, none⟩ = some (.int .u8 x)) :
    Calls Try.prog 88 #[.slice (some ⟨b, o, none⟩) l c, .int .i64 i] w fun e w' => e = .returned (.int .i64 x) ∧ w = w' := by
  have h2 : ((l : Int) == 0) = false := by simp; omega
  have h6 : ¬ (l = 0) := by omega
  have hj1 : j < l := by rw [hj]; exact Nat.mod_lt _ hl0
  have ej : (i : Int) % (l : Int) = (j : Int) := by rw [hj]; simp
  have hj2 : (j : Int) < (l : Int) := by omega
  clear hj
  go_enter Try.func88, Try.ntmps88
  go_wp2
  go_ret
  exact ⟨rfl, rfl⟩
theorem wpick_any (v : Value) (i : Nat) (w : World) (hv : Cod w v) (hi : i ≤ 1000) :
    Calls Try.prog 88 #[v, .int .i64 i] w fun e w' => (∃ z : Nat, z ≤ 1000 ∧ e = .returned (.int .i64 z)) ∧ w = w' := by
  rcases hv with ⟨q, c, rfl⟩ | ⟨b, o, l, c, h0, h1, rfl, hc⟩
  · refine (wpick_none q c i w).mono ?_
    rintro e w' ⟨rfl, rfl⟩
    exact ⟨⟨i, hi, rfl⟩, rfl⟩
  · obtain ⟨x, hx, hcell⟩ := hc (i % l) (Nat.mod_lt _ h0)
    refine (wpick_some b o l c i _ x w h0 h1 hi rfl hx hcell).mono ?_
    rintro e w' ⟨rfl, rfl⟩
    exact ⟨⟨x, by omega, rfl⟩, rfl⟩
set_option maxRecDepth 100000 in
set_option maxHeartbeats 1000000 in
theorem wword_any (v : Value) (p : Nat) (w : World) (hv : Cod w v) (hp : p ≤ 900) :
    Calls Try.prog 68 #[v, .int .i64 p] w fun e w' => (∃ x : Nat, x < 18446744073709551616 ∧ e = .returned (.int .u64 x)) ∧ w = w' := by
  have T := fun i hi => wpick_any v (p + i) w hv (by omega : p + i ≤ 1000)
  go_enter Try.func68, Try.ntmps68
  go_wp2
  go_loop [5, 6] (fun rv iv => ∃ (k r : Nat), k ≤ 8 ∧ r < 18446744073709551616 ∧ iv = .int .i64 (k : Int) ∧ rv = .int .u64 (r : Int)) (fun _ i => 8 - (intOf i).toNat)
  case atStart => exact ⟨0, 0, by omega, by omega, rfl, rfl⟩
  case round =>
    obtain ⟨k, r, hk, hr, rfl, rfl⟩ := hrel
    by_cases hlt : k < 8
    · have hki : (k : Int) < 8 := by omega
      have T := T k (by omega)
      have e1 : ((p + k : Nat) : Int) = (p : Int) + (k : Int) := by omega
      rw [e1] at T
      obtain ⟨a, ha⟩ : ∃ a : Nat, a = r * 256 % 18446744073709551616 := ⟨_, rfl⟩
      have ha1 : a < 18446744073709551616 := by rw [ha]; exact Nat.mod_lt _ (by decide)
      have e2 : IntKind.u64.wrap ((r : Int) * 256) = (a : Int) := by rw [IntKind.wrap_u64, ha]; omega
      clear hr ha e1 hlt hk
      go_wp2_with fail
      refine T.mono ?_
      rintro e w' ⟨⟨z, hz, rfl⟩, rfl⟩
      obtain ⟨d, hd⟩ : ∃ d : Nat, d = (a + z) % 18446744073709551616 := ⟨_, rfl⟩
      have hd1 : d < 18446744073709551616 := by rw [hd]; exact Nat.mod_lt _ (by decide)
      have e3 : IntKind.u64.wrap (z : Int) = (z : Int) := by rw [IntKind.wrap_u64]; omega
      have e4 : IntKind.u64.wrap ((a : Int) + (z : Int)) = (d : Int) := by rw [IntKind.wrap_u64, hd]; omega
      clear hd T ha1
      go_wp2
      go_round
      case rel => exact ⟨k + 1, d, by omega, hd1, by go_num, rfl⟩
      case measure => simp [intOf]; omega
    · obtain rfl : k = 8 := by omega
      go_wp2
      go_ret
      exact ⟨⟨r, hr, rfl⟩, rfl⟩
set_option maxRecDepth 100000 in
theorem wkey_any (v : Value) (w : World) (hv : Cod w v) :
    Calls Try.prog 35 #[v, .int .i64 3] w fun e w' => (∃ j : Nat, j < 2305843010818082053 ∧ e = .returned (.int .u64 j)) ∧ w = w' := by
  have T := wword_any v 3 w hv (by omega)
  go_enter Try.func35, Try.ntmps35
  go_wp2_with fail
  refine T.mono ?_
  rintro e w1 ⟨⟨x, hx, rfl⟩, rfl⟩
  obtain ⟨z, hz⟩ : ∃ z : Nat, z = x % 2305843010818082052 := ⟨_, rfl⟩
  have hz1 : z < 2305843010818082052 := by rw [hz]; exact Nat.mod_lt _ (by decide)
  have e1 : (x : Int) % 2305843010818082052 = (z : Int) := by rw [hz]; rfl
  have e2 : IntKind.u64.wrap ((z : Int) + 1) = (z : Int) + 1 := by rw [IntKind.wrap_u64]; omega
  clear hz hx T
  go_wp2
  go_ret
  exact ⟨⟨z + 1, by omega, rfl⟩, rfl⟩
end Go.Proofs.Ytaeanelfpaphiab
