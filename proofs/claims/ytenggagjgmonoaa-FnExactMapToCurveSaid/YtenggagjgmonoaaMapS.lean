import Derived.Test.YtenggagjgmonoaaSqrE
import Derived.Test.YtenggagjgmonoaaCrvV
import Derived.Test.YtenggagjgmonoaaMapM
namespace Go.Proofs.Ytenggagjgmonoaa
open Go.RowKit M
set_option linter.unusedVariables false

set_option maxRecDepth 100000 in
set_option maxHeartbeats 4000000 in
theorem mapS_of (V U u2 s s2 t za iz x0 ia m1 it p1 x1 x g1 y1 x2 g2 y2 n1 n2 : Int) (fd fd2 od tz : Bool) (w : World)
    (hV : V.tmod 2305843009213693951 = U) (hU : 0 ≤ U) (ho : (U % 2 == 1) = od) (ht : (t == 0) = tz) (hx : x = if tz then x0 else x1)
    (hn1 : (2305843009213693951 - y1) % 2305843009213693951 = n1) (hn2 : (2305843009213693951 - y2) % 2305843009213693951 = n2) (hy1 : 0 ≤ y1) (hy1' : y1 < 2305843009213693951) (hy2 : 0 ≤ y2) (hy2' : y2 < 2305843009213693951)
    (L1 : ∀ w, Calls Try.prog 7 #[.int .u64 U, .int .u64 U] w fun e w' => e = .returned (.int .u64 u2) ∧ w = w')
    (L2 : ∀ w, Calls Try.prog 7 #[.int .u64 2305843009213693949, .int .u64 u2] w fun e w' => e = .returned (.int .u64 s) ∧ w = w')
    (L3 : ∀ w, Calls Try.prog 7 #[.int .u64 s, .int .u64 s] w fun e w' => e = .returned (.int .u64 s2) ∧ w = w')
    (L4 : ∀ w, Calls Try.prog 8 #[.int .u64 s2, .int .u64 s, .int .u64 2305843009213693951] w fun e w' => e = .returned (.int .u64 t) ∧ w = w')
    (L5 : ∀ w, Calls Try.prog 7 #[.int .u64 2305843009213693949, .int .u64 2305843009213693948] w fun e w' => e = .returned (.int .u64 za) ∧ w = w')
    (L6 : ∀ w, Calls Try.prog 9 #[.int .u64 za, .int .u64 2305843009213693951] w fun e w' => e = .returned (.int .u64 iz) ∧ w = w')
    (L7 : ∀ w, Calls Try.prog 7 #[.int .u64 111, .int .u64 iz] w fun e w' => e = .returned (.int .u64 x0) ∧ w = w')
    (L8 : ∀ w, Calls Try.prog 9 #[.int .u64 2305843009213693948, .int .u64 2305843009213693951] w fun e w' => e = .returned (.int .u64 ia) ∧ w = w')
    (L9 : ∀ w, Calls Try.prog 7 #[.int .u64 2305843009213693840, .int .u64 ia] w fun e w' => e = .returned (.int .u64 m1) ∧ w = w')
    (L10 : ∀ w, Calls Try.prog 9 #[.int .u64 t, .int .u64 2305843009213693951] w fun e w' => e = .returned (.int .u64 it) ∧ w = w')
    (L11 : ∀ w, Calls Try.prog 8 #[.int .u64 1, .int .u64 it, .int .u64 2305843009213693951] w fun e w' => e = .returned (.int .u64 p1) ∧ w = w')
    (L12 : ∀ w, Calls Try.prog 7 #[.int .u64 m1, .int .u64 p1] w fun e w' => e = .returned (.int .u64 x1) ∧ w = w')
    (L13 : ∀ w, Calls Try.prog 7 #[.int .u64 s, .int .u64 x] w fun e w' => e = .returned (.int .u64 x2) ∧ w = w')
    (R1 : ∀ w, Calls Try.prog 11 #[.int .u64 x] w fun e w' => e = .returned (.int .u64 g1) ∧ w = w')
    (R2 : ∀ w, Calls Try.prog 11 #[.int .u64 x2] w fun e w' => e = .returned (.int .u64 g2) ∧ w = w')
    (Q1 : ∀ w, Calls Try.prog 10 #[.int .u64 g1] w fun e w' => e = .returned (.tuple #[.int .u64 y1, .bool fd]) ∧ w = w')
    (Q2 : ∀ w, Calls Try.prog 10 #[.int .u64 g2] w fun e w' => e = .returned (.tuple #[.int .u64 y2, .bool fd2]) ∧ w = w') :
    Calls Try.prog 4 #[.int .u64 V] w fun e w' => e = .returned (.agg #[.int .u64 (if fd then x else x2), .int .u64 (if od then (if fd then n1 else n2) else (if fd then y1 else y2)), .bool false]) ∧ Below w.heap.size w w' := by
  have z1 : 0 ≤ 2305843009213693951 - y1 := by omega
  have z2 : 2305843009213693951 - y1 < 18446744073709551616 := by omega
  have z3 : 0 ≤ 2305843009213693951 - y2 := by omega
  have z4 : 2305843009213693951 - y2 < 18446744073709551616 := by omega
  go_enter Try.func4, Try.ntmps4
  go_wp2_with fail
  refine (L1 _).mono ?_
  rintro e w' ⟨rfl, rfl⟩
  go_wp2_with fail
  refine (L2 _).mono ?_
  rintro e w' ⟨rfl, rfl⟩
  go_wp2_with fail
  refine (L3 _).mono ?_
  rintro e w' ⟨rfl, rfl⟩
  go_wp2_with fail
  refine (L4 _).mono ?_
  rintro e w' ⟨rfl, rfl⟩
  go_wp2_with fail
  refine (L5 _).mono ?_
  rintro e w' ⟨rfl, rfl⟩
  go_wp2_with fail
  refine (L6 _).mono ?_
  rintro e w' ⟨rfl, rfl⟩
  go_wp2_with fail
  refine (L7 _).mono ?_
  rintro e w' ⟨rfl, rfl⟩
  clear L1 L2 L3 L4 L5 L6 L7
  cases tz with
  | true =>
    simp only [if_true] at hx
    subst hx
    go_wp2_with fail
    refine (R1 _).mono ?_
    rintro e w' ⟨rfl, rfl⟩
    go_wp2_with fail
    refine (Q1 _).mono ?_
    rintro e w' ⟨rfl, rfl⟩
    cases fd with
    | true =>
      cases od with
      | true =>
        go_wp2
        exact bodyPost_ret (by simp [results, Try.results4, go_sem]) rfl ⟨rfl, (Below.refl _ _).alloc (Nat.le_refl _) _⟩
      | false =>
        go_wp2
        exact bodyPost_ret (by simp [results, Try.results4, go_sem]) rfl ⟨rfl, (Below.refl _ _).alloc (Nat.le_refl _) _⟩
    | false =>
      go_wp2_with fail
      refine (L13 _).mono ?_
      rintro e w' ⟨rfl, rfl⟩
      go_wp2_with fail
      refine (R2 _).mono ?_
      rintro e w' ⟨rfl, rfl⟩
      go_wp2_with fail
      refine (Q2 _).mono ?_
      rintro e w' ⟨rfl, rfl⟩
      cases od with
      | true =>
        go_wp2
        exact bodyPost_ret (by simp [results, Try.results4, go_sem]) rfl ⟨rfl, (Below.refl _ _).alloc (Nat.le_refl _) _⟩
      | false =>
        go_wp2
        exact bodyPost_ret (by simp [results, Try.results4, go_sem]) rfl ⟨rfl, (Below.refl _ _).alloc (Nat.le_refl _) _⟩
  | false =>
    simp only [if_false, Bool.false_eq_true] at hx
    subst hx
    go_wp2_with fail
    refine (L8 _).mono ?_
    rintro e w' ⟨rfl, rfl⟩
    go_wp2_with fail
    refine (L9 _).mono ?_
    rintro e w' ⟨rfl, rfl⟩
    go_wp2_with fail
    refine (L10 _).mono ?_
    rintro e w' ⟨rfl, rfl⟩
    go_wp2_with fail
    refine (L11 _).mono ?_
    rintro e w' ⟨rfl, rfl⟩
    go_wp2_with fail
    refine (L12 _).mono ?_
    rintro e w' ⟨rfl, rfl⟩
    go_wp2_with fail
    refine (R1 _).mono ?_
    rintro e w' ⟨rfl, rfl⟩
    go_wp2_with fail
    refine (Q1 _).mono ?_
    rintro e w' ⟨rfl, rfl⟩
    cases fd with
    | true =>
      cases od with
      | true =>
        go_wp2
        exact bodyPost_ret (by simp [results, Try.results4, go_sem]) rfl ⟨rfl, (Below.refl _ _).alloc (Nat.le_refl _) _⟩
      | false =>
        go_wp2
        exact bodyPost_ret (by simp [results, Try.results4, go_sem]) rfl ⟨rfl, (Below.refl _ _).alloc (Nat.le_refl _) _⟩
    | false =>
      go_wp2_with fail
      refine (L13 _).mono ?_
      rintro e w' ⟨rfl, rfl⟩
      go_wp2_with fail
      refine (R2 _).mono ?_
      rintro e w' ⟨rfl, rfl⟩
      go_wp2_with fail
      refine (Q2 _).mono ?_
      rintro e w' ⟨rfl, rfl⟩
      cases od with
      | true =>
        go_wp2
        exact bodyPost_ret (by simp [results, Try.results4, go_sem]) rfl ⟨rfl, (Below.refl _ _).alloc (Nat.le_refl _) _⟩
      | false =>
        go_wp2
        exact bodyPost_ret (by simp [results, Try.results4, go_sem]) rfl ⟨rfl, (Below.refl _ _).alloc (Nat.le_refl _) _⟩
end Go.Proofs.Ytenggagjgmonoaa
