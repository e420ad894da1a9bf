import Derived.Test.YtaeanelfpaphiabDrwF
import Derived.Test.YtaeanelfpaphiabRedI
import Derived.Test.YtaeanelfpaphiabInvI
import Derived.Test.YtaeanelfpaphiabSqrT
namespace Go.Proofs.Ytaeanelfpaphiab
open Go.RowKit
set_option linter.unusedVariables false

theorem mz (a p : Nat) (P : Int) (hp : P = p) (h : a % p = 0) : (a : Int) % P = 0 := by subst hp; rw [← Int.natCast_emod, h]; rfl
theorem mnz (a p : Nat) (P : Int) (hp : P = p) (h : a % p ≠ 0) : ((a : Int) % P == 0) = false := by
  subst hp; rw [← Int.natCast_emod]
  generalize a % p = z at *
  simp; omega

theorem mzt (a p : Nat) (P : Int) (hp : P = p) (h : a % p = 0) : (a : Int).tmod P = 0 := by rw [Int.tmod_eq_emod_of_nonneg (Int.natCast_nonneg a)]; exact mz a p P hp h
theorem mnzt (a p : Nat) (P : Int) (hp : P = p) (h : a % p ≠ 0) : ((a : Int).tmod P != 0) = true := by
  rw [Int.tmod_eq_emod_of_nonneg (Int.natCast_nonneg a)]; have := mnz a p P hp h; simpa using this
theorem mnzn (a p : Nat) (P : Int) (hp : P = p) (h : a % p ≠ 0) : ¬ ((a : Int).tmod P = 0) := by
  rw [Int.tmod_eq_emod_of_nonneg (Int.natCast_nonneg a)]; have := mnz a p P hp h; simpa using this

theorem inv_ok (a p g : Nat) (R : M.Root p g) (hp : p < 18446744073709551616) (h2 : 2 ≤ p) (ha : a % p ≠ 0) : ∃ i : Nat,
    (∀ w, Calls Try.prog 19 #[.int .u64 a, .int .u64 p] w fun e w' => e = .returned (.int .u64 i) ∧ Below w.heap.size w w') ∧
    (∀ w, Calls Try.prog 15 #[.int .u64 a, .int .u64 i, .int .u64 p] w fun e w' => e = .returned (.int .u64 1) ∧ Below w.heap.size w w') := by
  refine ⟨_, fun w => invI_any a p w hp h2, fun w => ?_⟩
  have := mulI_any a (a ^ (p - 2) % p) p w hp (by omega)
  rwa [R.inverse a ha h2] at this
theorem two_mul (a b m : Nat) (ha : a < 18446744073709551616) (hb : b < 18446744073709551616) (hm : m < 18446744073709551616) : ∃ c : Nat, (∀ w, Calls Try.prog 16 #[.int .u64 a, .int .u64 b, .int .u64 m] w fun e w' => e = .returned (.int .u64 c) ∧ w = w') ∧ (∀ w, Calls Try.prog 15 #[.int .u64 a, .int .u64 b, .int .u64 m] w fun e w' => e = .returned (.int .u64 c) ∧ Below w.heap.size w w') := by
  by_cases h0 : m = 0
  · subst h0; exact ⟨0, mulS_zero a b, mulI_zero a b⟩
  · exact ⟨_, fun w => mulS_any a b m w ha hb hm h0, fun w => mulI_any a b m w hm h0⟩
theorem two_pow (a b m : Nat) (ha : a < 18446744073709551616) (hb : b < 18446744073709551616) (hm : m < 18446744073709551616) : ∃ c : Nat, (∀ w, Calls Try.prog 18 #[.int .u64 a, .int .u64 b, .int .u64 m] w fun e w' => e = .returned (.int .u64 c) ∧ w = w') ∧ (∀ w, Calls Try.prog 17 #[.int .u64 a, .int .u64 b, .int .u64 m] w fun e w' => e = .returned (.int .u64 c) ∧ Below w.heap.size w w') := by
  by_cases h0 : m = 0
  · subst h0; exact ⟨0, powS_zero a b, powI_zero a b⟩
  · exact ⟨_, fun w => powS_any a b m w ha hb hm h0, fun w => powM_any a b m w hb hm h0⟩
theorem two_red (s : ByteArray) (m : Nat) (hm : m < 18446744073709551616) : ∃ c : Nat, (∀ w, Calls Try.prog 22 #[.string s, .int .u64 m] w fun e w' => e = .returned (.int .u64 c) ∧ w = w') ∧ (∀ w, Calls Try.prog 21 #[.string s, .int .u64 m] w fun e w' => e = .returned (.int .u64 c) ∧ Below w.heap.size w w') := by
  by_cases h0 : m = 0
  · subst h0; exact ⟨0, redS_zero s, reduI_zero s⟩
  · by_cases h1 : s.size ≤ 65535
    · exact ⟨_, fun w => redS_any s m w h1 hm h0, fun w => reduI_any s m w h1 hm h0⟩
    · exact ⟨0, fun w => redS_long s m w h1 h0, fun w => reduI_long s m w h1 h0⟩

set_option maxRecDepth 100000 in
set_option maxHeartbeats 2000000 in
theorem fieldW (q : Option Addr) (len cap : Nat) (w : World) (hv : Cod w (.slice q len cap)) (hl : len ≤ 1048576) :
    Calls Try.prog 5 #[.slice q len cap] w fun e w' => e = .returned (.bool true) ∧ Below w.heap.size w w' := by
  have hli : ¬ ((1048576 : Int) < (len : Int)) := by omega
  have D1 := dmul_any _ w hv
  go_enter Try.func5, Try.ntmps5
  go_wp2_with fail
  refine D1.mono ?_
  rintro e w1 ⟨⟨a, b, m, ha, hb, hm, rfl⟩, B1⟩
  clear D1
  have hv1 := hv.below B1
  obtain ⟨c1, L1, M1⟩ := two_mul a b m ha hb hm
  obtain ⟨c2, L2, M2⟩ := two_pow a b m ha hb hm
  clear hv hb hm
  go_wp2_with fail
  refine (M1 _).mono ?_
  rintro e w2 ⟨rfl, B2⟩
  have Cw2 := B1.trans (B2.mono B1.size)
  go_wp2_with fail
  refine (L1 _).mono ?_
  rintro e w3 ⟨rfl, rfl⟩
  go_wp2_with fail
  refine (M2 _).mono ?_
  rintro e w4 ⟨rfl, B4⟩
  have Cw4 := Cw2.trans (B4.mono Cw2.size)
  have Ew4 := B2.trans (B4.mono B2.size)
  go_wp2_with fail
  refine (L2 _).mono ?_
  rintro e w5 ⟨rfl, rfl⟩
  clear L1 L2 M1 M2 B2 Cw2 B4
  by_cases hP : a % 2305843009213693951 = 0 <;> by_cases hN : a % 2305843010818082053 = 0
  · have hPi := mzt a 2305843009213693951 2305843009213693951 rfl hP
    have hNi := mzt a 2305843010818082053 2305843010818082053 rfl hN
    clear hP hN
    obtain ⟨A, hA⟩ : ∃ A : Int, A = (a : Int) := ⟨_, rfl⟩
    rw [← hA] at hPi hNi ⊢
    clear hA ha
    have D2 := dred_any _ w4 (hv1.below (Ew4))
    go_wp2_with fail
    refine D2.mono ?_
    rintro e w10 ⟨⟨s, n, hs, hn, rfl⟩, B10⟩
    clear D2
    have C10 := Cw4.trans (B10.mono Cw4.size)
    have hv10 := (hv1.below (Ew4)).below B10
    obtain ⟨c3, L3, M3⟩ := two_red s n hn
    clear hs hn
    go_wp2_with fail
    refine (M3 _).mono ?_
    rintro e w11 ⟨rfl, B11⟩
    have C11 := C10.trans (B11.mono C10.size)
    have hv11 := hv10.below B11
    go_wp2_with fail
    refine (L3 _).mono ?_
    rintro e w12 ⟨rfl, rfl⟩
    clear L3 M3
    have D3 := dsqr_any _ w11 hv11
    go_wp2_with fail
    refine D3.mono ?_
    rintro e w13 ⟨⟨x, hx, rfl⟩, B13⟩
    clear D3
    have C13 := C11.trans (B13.mono C11.size)
    obtain ⟨r, bb, L4, M4, hr, h4, h5⟩ := sq_both x hx
    have M5 := fun w => mulI_any r r 2305843009213693951 w (by decide) (by decide)
    clear hx hv10 hv11
    go_wp2_with fail
    refine (M4 _).mono ?_
    rintro e w14 ⟨rfl, B14⟩
    have C14 := C13.trans (B14.mono C13.size)
    go_wp2_with fail
    refine (L4 _).mono ?_
    rintro e w15 ⟨rfl, rfl⟩
    clear L4 M4
    cases bb
    · obtain rfl := h4 rfl
      clear h4 h5 hr M5
      go_wp2
      go_ret
      exact ⟨rfl, C14⟩
    · obtain ⟨h6, h7⟩ := h5 rfl
      rw [h7] at M5
      have h8 := mz r 2 2 rfl h6
      clear h4 h5 h7 hr
      go_wp2_with fail
      refine (M5 _).mono ?_
      rintro e w16 ⟨rfl, B16⟩
      have C16 := C14.trans (B16.mono C14.size)
      clear M5
      go_wp2
      go_ret
      exact ⟨rfl, C16⟩
  · have hPi := mzt a 2305843009213693951 2305843009213693951 rfl hP
    obtain ⟨iN, IN, JN⟩ := inv_ok a 2305843010818082053 _ M.rootN (by decide) (by decide) hN
    have hNi := mnzt a 2305843010818082053 2305843010818082053 rfl hN
    have hNj := mnzn a 2305843010818082053 2305843010818082053 rfl hN
    clear hP hN
    obtain ⟨A, hA⟩ : ∃ A : Int, A = (a : Int) := ⟨_, rfl⟩
    rw [← hA] at hPi hNi hNj ⊢
    simp only [← hA] at IN JN
    clear hA ha
    go_wp2_with fail
    refine (IN _).mono ?_
    rintro e w8 ⟨rfl, Xw8⟩
    have Cw8 := Cw4.trans (Xw8.mono Cw4.size)
    have Ew8 := Ew4.trans (Xw8.mono Ew4.size)
    go_wp2_with fail
    refine (JN _).mono ?_
    rintro e w9 ⟨rfl, Xw9⟩
    have Cw9 := Cw8.trans (Xw9.mono Cw8.size)
    have Ew9 := Ew8.trans (Xw9.mono Ew8.size)
    clear IN JN Xw8 Xw9 Cw8 Ew8
    have D2 := dred_any _ w9 (hv1.below (Ew9))
    go_wp2_with fail
    refine D2.mono ?_
    rintro e w10 ⟨⟨s, n, hs, hn, rfl⟩, B10⟩
    clear D2
    have C10 := Cw9.trans (B10.mono Cw9.size)
    have hv10 := (hv1.below (Ew9)).below B10
    obtain ⟨c3, L3, M3⟩ := two_red s n hn
    clear hs hn
    go_wp2_with fail
    refine (M3 _).mono ?_
    rintro e w11 ⟨rfl, B11⟩
    have C11 := C10.trans (B11.mono C10.size)
    have hv11 := hv10.below B11
    go_wp2_with fail
    refine (L3 _).mono ?_
    rintro e w12 ⟨rfl, rfl⟩
    clear L3 M3
    have D3 := dsqr_any _ w11 hv11
    go_wp2_with fail
    refine D3.mono ?_
    rintro e w13 ⟨⟨x, hx, rfl⟩, B13⟩
    clear D3
    have C13 := C11.trans (B13.mono C11.size)
    obtain ⟨r, bb, L4, M4, hr, h4, h5⟩ := sq_both x hx
    have M5 := fun w => mulI_any r r 2305843009213693951 w (by decide) (by decide)
    clear hx hv10 hv11
    go_wp2_with fail
    refine (M4 _).mono ?_
    rintro e w14 ⟨rfl, B14⟩
    have C14 := C13.trans (B14.mono C13.size)
    go_wp2_with fail
    refine (L4 _).mono ?_
    rintro e w15 ⟨rfl, rfl⟩
    clear L4 M4
    cases bb
    · obtain rfl := h4 rfl
      clear h4 h5 hr M5
      go_wp2
      go_ret
      exact ⟨rfl, C14⟩
    · obtain ⟨h6, h7⟩ := h5 rfl
      rw [h7] at M5
      have h8 := mz r 2 2 rfl h6
      clear h4 h5 h7 hr
      go_wp2_with fail
      refine (M5 _).mono ?_
      rintro e w16 ⟨rfl, B16⟩
      have C16 := C14.trans (B16.mono C14.size)
      clear M5
      go_wp2
      go_ret
      exact ⟨rfl, C16⟩
  · obtain ⟨iP, IP, JP⟩ := inv_ok a 2305843009213693951 _ M.rootP (by decide) (by decide) hP
    have hPi := mnzt a 2305843009213693951 2305843009213693951 rfl hP
    have hPj := mnzn a 2305843009213693951 2305843009213693951 rfl hP
    have hNi := mzt a 2305843010818082053 2305843010818082053 rfl hN
    clear hP hN
    obtain ⟨A, hA⟩ : ∃ A : Int, A = (a : Int) := ⟨_, rfl⟩
    rw [← hA] at hPi hNi hPj ⊢
    simp only [← hA] at IP JP
    clear hA ha
    go_wp2_with fail
    refine (IP _).mono ?_
    rintro e w6 ⟨rfl, Xw6⟩
    have Cw6 := Cw4.trans (Xw6.mono Cw4.size)
    have Ew6 := Ew4.trans (Xw6.mono Ew4.size)
    go_wp2_with fail
    refine (JP _).mono ?_
    rintro e w7 ⟨rfl, Xw7⟩
    have Cw7 := Cw6.trans (Xw7.mono Cw6.size)
    have Ew7 := Ew6.trans (Xw7.mono Ew6.size)
    clear IP JP Xw6 Xw7 Cw6 Ew6
    have D2 := dred_any _ w7 (hv1.below (Ew7))
    go_wp2_with fail
    refine D2.mono ?_
    rintro e w10 ⟨⟨s, n, hs, hn, rfl⟩, B10⟩
    clear D2
    have C10 := Cw7.trans (B10.mono Cw7.size)
    have hv10 := (hv1.below (Ew7)).below B10
    obtain ⟨c3, L3, M3⟩ := two_red s n hn
    clear hs hn
    go_wp2_with fail
    refine (M3 _).mono ?_
    rintro e w11 ⟨rfl, B11⟩
    have C11 := C10.trans (B11.mono C10.size)
    have hv11 := hv10.below B11
    go_wp2_with fail
    refine (L3 _).mono ?_
    rintro e w12 ⟨rfl, rfl⟩
    clear L3 M3
    have D3 := dsqr_any _ w11 hv11
    go_wp2_with fail
    refine D3.mono ?_
    rintro e w13 ⟨⟨x, hx, rfl⟩, B13⟩
    clear D3
    have C13 := C11.trans (B13.mono C11.size)
    obtain ⟨r, bb, L4, M4, hr, h4, h5⟩ := sq_both x hx
    have M5 := fun w => mulI_any r r 2305843009213693951 w (by decide) (by decide)
    clear hx hv10 hv11
    go_wp2_with fail
    refine (M4 _).mono ?_
    rintro e w14 ⟨rfl, B14⟩
    have C14 := C13.trans (B14.mono C13.size)
    go_wp2_with fail
    refine (L4 _).mono ?_
    rintro e w15 ⟨rfl, rfl⟩
    clear L4 M4
    cases bb
    · obtain rfl := h4 rfl
      clear h4 h5 hr M5
      go_wp2
      go_ret
      exact ⟨rfl, C14⟩
    · obtain ⟨h6, h7⟩ := h5 rfl
      rw [h7] at M5
      have h8 := mz r 2 2 rfl h6
      clear h4 h5 h7 hr
      go_wp2_with fail
      refine (M5 _).mono ?_
      rintro e w16 ⟨rfl, B16⟩
      have C16 := C14.trans (B16.mono C14.size)
      clear M5
      go_wp2
      go_ret
      exact ⟨rfl, C16⟩
  · obtain ⟨iP, IP, JP⟩ := inv_ok a 2305843009213693951 _ M.rootP (by decide) (by decide) hP
    have hPi := mnzt a 2305843009213693951 2305843009213693951 rfl hP
    have hPj := mnzn a 2305843009213693951 2305843009213693951 rfl hP
    obtain ⟨iN, IN, JN⟩ := inv_ok a 2305843010818082053 _ M.rootN (by decide) (by decide) hN
    have hNi := mnzt a 2305843010818082053 2305843010818082053 rfl hN
    have hNj := mnzn a 2305843010818082053 2305843010818082053 rfl hN
    clear hP hN
    obtain ⟨A, hA⟩ : ∃ A : Int, A = (a : Int) := ⟨_, rfl⟩
    rw [← hA] at hPi hNi hPj hNj ⊢
    simp only [← hA] at IP JP
    simp only [← hA] at IN JN
    clear hA ha
    go_wp2_with fail
    refine (IP _).mono ?_
    rintro e w6 ⟨rfl, Xw6⟩
    have Cw6 := Cw4.trans (Xw6.mono Cw4.size)
    have Ew6 := Ew4.trans (Xw6.mono Ew4.size)
    go_wp2_with fail
    refine (JP _).mono ?_
    rintro e w7 ⟨rfl, Xw7⟩
    have Cw7 := Cw6.trans (Xw7.mono Cw6.size)
    have Ew7 := Ew6.trans (Xw7.mono Ew6.size)
    clear IP JP Xw6 Xw7 Cw6 Ew6
    go_wp2_with fail
    refine (IN _).mono ?_
    rintro e w8 ⟨rfl, Xw8⟩
    have Cw8 := Cw7.trans (Xw8.mono Cw7.size)
    have Ew8 := Ew7.trans (Xw8.mono Ew7.size)
    go_wp2_with fail
    refine (JN _).mono ?_
    rintro e w9 ⟨rfl, Xw9⟩
    have Cw9 := Cw8.trans (Xw9.mono Cw8.size)
    have Ew9 := Ew8.trans (Xw9.mono Ew8.size)
    clear IN JN Xw8 Xw9 Cw8 Ew8
    have D2 := dred_any _ w9 (hv1.below (Ew9))
    go_wp2_with fail
    refine D2.mono ?_
    rintro e w10 ⟨⟨s, n, hs, hn, rfl⟩, B10⟩
    clear D2
    have C10 := Cw9.trans (B10.mono Cw9.size)
    have hv10 := (hv1.below (Ew9)).below B10
    obtain ⟨c3, L3, M3⟩ := two_red s n hn
    clear hs hn
    go_wp2_with fail
    refine (M3 _).mono ?_
    rintro e w11 ⟨rfl, B11⟩
    have C11 := C10.trans (B11.mono C10.size)
    have hv11 := hv10.below B11
    go_wp2_with fail
    refine (L3 _).mono ?_
    rintro e w12 ⟨rfl, rfl⟩
    clear L3 M3
    have D3 := dsqr_any _ w11 hv11
    go_wp2_with fail
    refine D3.mono ?_
    rintro e w13 ⟨⟨x, hx, rfl⟩, B13⟩
    clear D3
    have C13 := C11.trans (B13.mono C11.size)
    obtain ⟨r, bb, L4, M4, hr, h4, h5⟩ := sq_both x hx
    have M5 := fun w => mulI_any r r 2305843009213693951 w (by decide) (by decide)
    clear hx hv10 hv11
    go_wp2_with fail
    refine (M4 _).mono ?_
    rintro e w14 ⟨rfl, B14⟩
    have C14 := C13.trans (B14.mono C13.size)
    go_wp2_with fail
    refine (L4 _).mono ?_
    rintro e w15 ⟨rfl, rfl⟩
    clear L4 M4
    cases bb
    · obtain rfl := h4 rfl
      clear h4 h5 hr M5
      go_wp2
      go_ret
      exact ⟨rfl, C14⟩
    · obtain ⟨h6, h7⟩ := h5 rfl
      rw [h7] at M5
      have h8 := mz r 2 2 rfl h6
      clear h4 h5 h7 hr
      go_wp2_with fail
      refine (M5 _).mono ?_
      rintro e w16 ⟨rfl, B16⟩
      have C16 := C14.trans (B16.mono C14.size)
      clear M5
      go_wp2
      go_ret
      exact ⟨rfl, C16⟩
end Go.Proofs.Ytaeanelfpaphiab
