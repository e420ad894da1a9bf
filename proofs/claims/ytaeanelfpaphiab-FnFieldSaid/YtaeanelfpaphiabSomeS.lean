import Derived.Test.YtaeanelfpaphiabLongS
namespace Go.Proofs.Ytaeanelfpaphiab
open Go.RowKit
set_option linter.unusedVariables false

theorem ret_si {s t : ByteArray} {a b : Int} (h : s = t) (h2 : a = b) : Ending.returned (.tuple #[.string s, .int .i64 a]) = .returned (.tuple #[.string t, .int .i64 b]) := by rw [h, h2]
theorem ret_ui {a b c d : Int} (h : a = c) (h2 : b = d) : Ending.returned (.tuple #[.int .u64 a, .int .i64 b]) = .returned (.tuple #[.int .u64 c, .int .i64 d]) := by rw [h, h2]

set_option maxRecDepth 100000 in
set_option maxHeartbeats 1000000 in
/-- a text is drawn -/
theorem some_any (v : Value) (p : Nat) (w : World) (hv : Cod w v) (hp : p ≤ 50000) :
    Calls Try.prog 56 #[v, .int .i64 p] w fun e w' => (∃ (s : ByteArray) (q : Nat), s.size ≤ 65537 ∧ q ≤ p + 42 ∧ e = .returned (.tuple #[.string s, .int .i64 q])) ∧ Below w.heap.size w w' := by
  have T1 := take_any v p 80 w hv (by omega) (by omega) (by omega)
  have T2 := take_any v (p + 1) 40 w hv (by omega) (by omega) (by omega)
  have e1 : ((p + 1 : Nat) : Int) = (p : Int) + 1 := by omega
  rw [e1] at T2
  clear e1
  go_enter Try.func56, Try.ntmps56
  go_wp2_with fail
  refine T1.mono ?_
  rintro e w1 ⟨⟨z, hz, rfl⟩, rfl⟩
  go_wp2_with fail
  refine T2.mono ?_
  rintro e w1 ⟨⟨y, hy, rfl⟩, rfl⟩
  clear T1 T2
  by_cases h79 : z = 79
  · subst h79
    have L := long_any ⟨#[105, 110]⟩ rfl (65535 + y % 2) (by omega)
    have e1 : ((65535 + y % 2 : Nat) : Int) = 65535 + (y : Int) % 2 := by omega
    rw [e1] at L
    clear e1
    go_wp2_with fail
    refine (L _).mono ?_
    rintro e w1 ⟨⟨s, hs, rfl⟩, rfl⟩
    go_wp2
    go_ret2
    exact ⟨⟨s, p + 2, by omega, by omega, ret_si rfl (by omega)⟩, Below.refl _ _⟩
  · have h79i : ((z : Int) == 79) = false := by simp; omega
    by_cases h8 : z < 8
    · have h8i : (z : Int) < 8 := by omega
      go_wp2
      go_ret2
      exact ⟨⟨ByteArray.empty, p + 2, by decide, by omega, ret_si rfl (by omega)⟩, Below.refl _ _⟩
    · have h8i : ¬ ((z : Int) < 8) := by omega
      have L := byt_any v (p + 2) y w hv (by omega) (by omega)
      have e1 : ((p + 2 : Nat) : Int) = (p : Int) + 1 + 1 := by omega
      rw [e1] at L
      clear e1
      go_wp2_with fail
      refine L.mono ?_
      rintro e w1 ⟨⟨s, hs, rfl⟩, hb⟩
      go_wp2
      go_ret2
      exact ⟨⟨s, p + 2 + y, by omega, by omega, ret_si rfl (by omega)⟩, hb⟩
end Go.Proofs.Ytaeanelfpaphiab
