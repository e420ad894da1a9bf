import Derived.Test.YtaeanelfpaphiabGetP
namespace Go.Proofs.Ytaeanelfpaphiab
open Go.RowKit M
set_option linter.unusedVariables false

theorem and61 (n : Nat) (hn : n < 18446744073709551616) : bits .and .u64 (n : Int) 2305843009213693952 = ((n / 2305843009213693952 % 2 * 2305843009213693952 : Nat) : Int) := by
  have := bits_and_u64_nat n 2305843009213693952 hn (by decide)
  have e : n &&& 2305843009213693952 = n / 2305843009213693952 % 2 * 2305843009213693952 := by
    have h2 : (2 : Nat) ^ 61 = 2305843009213693952 := by decide
    have h3 : n / 2305843009213693952 % 2 < 2 := Nat.mod_lt _ (by decide)
    have hb : n.testBit 61 = decide (n / 2305843009213693952 % 2 = 1) := by rw [Nat.testBit_eq_decide_div_mod_eq, h2]
    generalize n / 2305843009213693952 % 2 = z at *
    rw [← h2]
    apply Nat.eq_of_testBit_eq
    intro i
    rw [Nat.testBit_and, Nat.testBit_two_pow]
    match z, h3 with
    | 0, _ =>
      by_cases hi : 61 = i
      · subst hi; rw [hb]; simp
      · simp [hi]
    | 1, _ =>
      rw [Nat.one_mul, Nat.testBit_two_pow]
      by_cases hi : 61 = i
      · subst hi; rw [hb]; simp
      · simp [hi]
  rw [e] at this
  exact this
/-- the texts of points: what both sides make of one -/
def GetIs (s : ByteArray) (r : Option Pt) : Prop :=
  (∀ w, Calls Try.prog 12 #[.string s] w fun e w' => e = .returned (.tuple #[ptW (r.getD none), .bool r.isSome]) ∧ Below w.heap.size w w') ∧
  (∀ w, Calls Try.prog 13 #[.string s] w fun e w' => e = .returned (.tuple #[ptW (r.getD none), .bool r.isSome]) ∧ Below w.heap.size w w') ∧
  (∀ p, r = some p → on p ∧ p ≠ none ∧ strOfNums (be8 (putN p : Nat)) = s) ∧
  (∀ p, on p → p ≠ none → strOfNums (be8 (putN p : Nat)) = s → r = some p)
theorem size8 (n : Int) : (strOfNums (be8 n)).size = 8 := by rw [strOfNums_size]; rfl
theorem byt_toList (s : ByteArray) : byt s = s.toList.map (fun b => (b.toNat : Int)) := by
  unfold byt
  rw [ByteArray.toList_eq]
theorem str_ne {s t : ByteArray} (h : s ≠ t) : (s.toList == t.toList) = false := by
  rw [beq_eq_false_iff_ne]
  intro e
  exact h (byt_inj (by rw [byt_toList, byt_toList, e]))
/-- where a point's number lies -/
theorem putN_parts (X Y : Fp) : putN (some (X, Y)) % 2305843009213693952 = X.val ∧ putN (some (X, Y)) / 2305843009213693952 = 2 + Y.val % 2 := by
  have hx := val_lt X
  have hy : Y.val % 2 < 2 := Nat.mod_lt _ (by decide)
  rw [putN_some]
  generalize X.val = x at *
  generalize Y.val % 2 = z at *
  omega
theorem neg_odd {Y : Fp} (h0 : Y ≠ 0) (he : Y.val % 2 = 0) : (-Y).val % 2 = 1 := by
  have e := neg_val (y := Y) (z := -Y) (by grobner) h0
  have := val_lt Y
  rw [e]; omega
theorem get_any (s : ByteArray) : ∃ r, GetIs s r := by
  by_cases h8 : s.size = 8
  · have h81 : ((s.size : Int) == 8) = true := by simp; omega
    have hn := numL_8 s h8
    have L := wdS_any (s := s) (hs := h8)
    have LI := wdI_any (s := s) (hs := h8)
    have hstr := str8 s h8
    generalize numL (byt s) = n at *
    have hn0 : (0 : Int) ≤ (n : Int) := by omega
    have hxt : (n : Int).tmod 2305843009213693952 = ((n % 2305843009213693952 : Nat) : Int) := by
      rw [Int.tmod_eq_emod_of_nonneg hn0]; omega
    have hq : (n : Int).tdiv 4611686018427387904 = ((n / 4611686018427387904 : Nat) : Int) := by
      rw [Int.tdiv_eq_ediv_of_nonneg hn0]; omega
    have hqw : IntKind.u64.wrap ((n / 4611686018427387904 : Nat) : Int) = ((n / 4611686018427387904 : Nat) : Int) := by
      rw [IntKind.wrap_u64]; omega
    have hm := and61 n hn
    have hpn : ∀ p : Pt, p ≠ none → strOfNums (be8 (putN p : Nat)) = s → ∃ X Y, p = some (X, Y) ∧ n % 2305843009213693952 = X.val ∧ n / 2305843009213693952 = 2 + Y.val % 2 := by
      intro p hp hs
      rcases p with _ | ⟨X, Y⟩
      · exact absurd rfl hp
      · have e := (hstr _ (putN_lt _)).1 hs
        have := putN_parts X Y
        rw [e] at this
        exact ⟨X, Y, rfl, this.1, this.2⟩
    have hdiv : n / 4611686018427387904 = n / 2305843009213693952 / 2 := by omega
    have hnx : n = n / 2305843009213693952 * 2305843009213693952 + n % 2305843009213693952 := by omega
    by_cases hx : n % 2305843009213693952 < 2305843009213693951
    · obtain ⟨xf, hxf⟩ : ∃ xf : Fp, xf.val = n % 2305843009213693952 := ⟨⟨_, hx⟩, rfl⟩
      have R := rightS xf
      have Cs := csqV xf
      have E := fun w => exP_less (n % 2305843009213693952 : Nat) w (by omega)
      rw [hxf] at R
      unfold fv at Cs
      rw [hxf] at Cs
      obtain ⟨r0, b, Sq, Ev, hr, hb0, hb1⟩ := ev_both (crv xf).val (val_lt _)
      have hxi : ((n % 2305843009213693952 : Nat) : Int) < 2305843009213693951 := by omega
      cases b with
      | false =>
        obtain ⟨-, hno⟩ := hb0 rfl
        refine ⟨none, fun w => getS_no s n _ _ _ w h81 hxt hn0 hxi L R Sq, fun w => getI_of s n 0 0 true false w h81 LI fun w => ?_, fun p hp => (by cases hp), fun p hp hne hs => ?_⟩
        · by_cases hq1 : n / 4611686018427387904 = 1
          · rw [hq1] at hq
            exact powI_no n _ _ _ w hn0 hxt hq E Cs Ev
          · exact powI_mark n _ _ _ w hn0 hxt hq hqw (by simp; omega) E
        · exfalso
          obtain ⟨X, Y, rfl, h1, -⟩ := hpn p hne hs
          have hX : X = xf := Fin.ext (h1.symm.trans hxf.symm)
          subst hX
          have hY : Y * Y = crv X := hp
          exact hno Y.val (by rw [← Fin.val_mul, hY])
      | true =>
        obtain ⟨he, hsq⟩ := hb1 rfl
        obtain ⟨rf, hrf⟩ : ∃ rf : Fp, rf.val = r0 := ⟨⟨r0, hr⟩, rfl⟩
        rw [← hrf] at he hsq Sq Ev
        have hon : on (some (xf, rf)) := by
          show rf * rf = crv xf
          exact Fin.ext (by rw [Fin.val_mul]; exact hsq)
        have hne0 := y_ne hon
        have hon2 : on (some (xf, -rf)) := ng_on hon
        have ho := neg_odd hne0 he
        have P1 := putS_any xf.val rf.val false
        have N1 := negS_any xf.val rf.val false
        have P2 := putS_any xf.val (-rf).val false
        rw [asPt_some (toPt_self hon)] at P1 N1
        rw [asPt_some (toPt_self hon2)] at P2
        rw [hxf] at P1 N1 P2
        have hp1 := putN_parts xf rf
        have hp2 := putN_parts xf (-rf)
        rw [hxf, he] at hp1
        rw [hxf, ho] at hp2
        have N1' : ∀ w, Calls Try.prog 44 #[.agg #[.int .u64 ((n % 2305843009213693952 : Nat) : Int), .int .u64 (rf.val : Int), .bool false]] w fun e w' => e = .returned (.agg #[.int .u64 ((n % 2305843009213693952 : Nat) : Int), .int .u64 ((-rf).val : Int), .bool false]) ∧ Below w.heap.size w w' := by
          intro w
          have := N1 w
          rw [show ptW (ng (some (xf, rf))) = .agg #[.int .u64 (xf.val : Int), .int .u64 ((-rf).val : Int), .bool false] from rfl, hxf] at this
          exact this
        by_cases c2 : n / 2305843009213693952 = 2
        · have es : strOfNums (be8 (putN (some (xf, rf)) : Nat)) = s := (hstr _ (putN_lt _)).2 (by omega)
          rw [es] at P1
          have hq1 : n / 4611686018427387904 = 1 := by omega
          rw [hq1] at hq
          rw [c2] at hm
          refine ⟨some (some (xf, rf)), fun w => ?_, fun w => ?_, fun p hp => ?_, fun p hp hne hs => ?_⟩
          · have := getS_even s n _ _ _ w h81 hxt hn0 hxi L R Sq P1
            rw [← hxf] at this
            exact this
          · have := getI_of s n _ _ false true w h81 LI fun w => powI_even n _ _ _ _ w hn0 hxt hq hm rfl E Cs Ev
            rw [← hxf] at this
            exact this
          · cases hp; exact ⟨hon, (by intro e; cases e), es⟩
          · obtain ⟨X, Y, rfl, h1, h2⟩ := hpn p hne hs
            have hX : X = xf := Fin.ext (h1.symm.trans hxf.symm)
            subst hX
            rcases same_x hp hon with rfl | h
            · rfl
            · exfalso
              have : Y = -rf := by grobner
              rw [this, ho] at h2
              omega
        · have ns1 : strOfNums (be8 (putN (some (xf, rf)) : Nat)) ≠ s := fun e => by
            have := (hstr _ (putN_lt _)).1 e
            rw [this] at hp1; omega
          by_cases c3 : n / 2305843009213693952 = 3
          · have es : strOfNums (be8 (putN (some (xf, -rf)) : Nat)) = s := (hstr _ (putN_lt _)).2 (by omega)
            rw [es] at P2
            have hq1 : n / 4611686018427387904 = 1 := by omega
            rw [hq1] at hq
            rw [c3] at hm
            have Ng := ngV rf
            rw [show (0 : Fp) - rf = -rf by grobner] at Ng
            unfold fv at Ng
            refine ⟨some (some (xf, -rf)), fun w => ?_, fun w => ?_, fun p hp => ?_, fun p hp hne hs => ?_⟩
            · have := getS_odd s _ s n _ _ _ _ _ _ true w h81 hxt hn0 hxi (str_ne ns1) (by simp) L R Sq P1 N1' P2
              rw [← hxf] at this
              exact this
            · have := getI_of s n _ _ false true w h81 LI fun w => powI_odd n _ _ _ _ _ w hn0 hxt hq hm rfl E Cs Ev Ng
              rw [← hxf] at this
              exact this
            · cases hp; exact ⟨hon2, (by intro e; cases e), es⟩
            · obtain ⟨X, Y, rfl, h1, h2⟩ := hpn p hne hs
              have hX : X = xf := Fin.ext (h1.symm.trans hxf.symm)
              subst hX
              rcases same_x hp hon with rfl | h
              · exfalso
                omega
              · have : Y = -rf := by grobner
                rw [this]
          · have ns2 : strOfNums (be8 (putN (some (xf, -rf)) : Nat)) ≠ s := fun e => by
              have := (hstr _ (putN_lt _)).1 e
              rw [this] at hp2; omega
            refine ⟨none, fun w => ?_, fun w => getI_of s n 0 0 true false w h81 LI fun w => powI_mark n _ _ _ w hn0 hxt hq hqw (by simp; omega) E, fun p hp => (by cases hp), fun p hp hne hs => ?_⟩
            · exact getS_odd s _ _ n _ _ _ _ _ _ false w h81 hxt hn0 hxi (str_ne ns1) (str_ne ns2) L R Sq P1 N1' P2
            · exfalso
              obtain ⟨X, Y, rfl, -, h2⟩ := hpn p hne hs
              have : Y.val % 2 < 2 := Nat.mod_lt _ (by decide)
              omega
    · have E := fun w => exP_more (n % 2305843009213693952 : Nat) w (by omega)
      refine ⟨none, fun w => getS_big s n _ w h81 hxt hn0 (by omega) L, fun w => getI_of s n 0 0 true false w h81 LI fun w => powI_big n _ _ w hn0 hxt E, fun p hp => (by cases hp), fun p hp hne hs => ?_⟩
      exfalso
      obtain ⟨X, Y, rfl, h1, -⟩ := hpn p hne hs
      have := val_lt X
      omega
  · have h81 : ((s.size : Int) == 8) = false := by simp; omega
    refine ⟨none, fun w => getS_len s w h81, fun w => getI_len s w h81, fun p hp => (by cases hp), fun p hp hne hs => ?_⟩
    exact absurd (by rw [← hs]; exact size8 _) h8
end Go.Proofs.Ytaeanelfpaphiab
