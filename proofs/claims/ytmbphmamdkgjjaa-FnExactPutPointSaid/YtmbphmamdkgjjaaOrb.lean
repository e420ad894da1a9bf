import Derived.Test.YtmbphmamdkgjjaaAsc
namespace Go.Proofs.Ytmbphmamdkgjjaa.M

/-- the base, k times -/
def ph : Nat → Pt
  | 0 => none
  | k + 1 => ad (ph k) gG
/-- the base added k times -/
def tk : Nat → Pt → Pt
  | 0, p => p
  | k + 1, p => ad (tk k p) gG
theorem ph_on : ∀ k, on (ph k)
  | 0 => trivial
  | k + 1 => ad_on (ph_on k) gG_on
theorem tk_on {p : Pt} (h : on p) : ∀ k, on (tk k p)
  | 0 => h
  | k + 1 => ad_on (tk_on h k) gG_on
theorem ad_ph {p : Pt} (h : on p) : ∀ k, ad p (ph k) = tk k p
  | 0 => ad_o p
  | k + 1 => by show ad p (ad (ph k) gG) = ad (tk k p) gG; rw [asc h (ph_on k), ad_ph h k]
theorem tk_add (p : Pt) (i : Nat) : ∀ j, tk (i + j) p = tk j (tk i p)
  | 0 => rfl
  | j + 1 => by show ad (tk (i + j) p) gG = _; rw [tk_add p i j]; rfl
theorem tk_o : ∀ k, tk k none = ph k
  | 0 => rfl
  | k + 1 => by show ad (tk k none) gG = _; rw [tk_o k]; rfl
theorem ph_add (i j : Nat) : ph (i + j) = ad (ph i) (ph j) := by
  rw [ad_ph (ph_on i), ← tk_o i, ← tk_add, tk_o]

def finx (x1 x2 s : Nat) : Nat := (s * s + (2305843009213693951 - x1) + (2305843009213693951 - x2)) % 2305843009213693951
def finN (x1 y1 x2 s : Nat) : Nat × Nat × Nat :=
  (finx x1 x2 s, (s * (x1 + (2305843009213693951 - finx x1 x2 s)) + (2305843009213693951 - y1)) % 2305843009213693951, 1)
/-- two numbers are a point, or 0 at the third place: zero; iv: the inverse -/
def adn (iv : Nat → Nat) (p q : Nat × Nat × Nat) : Nat × Nat × Nat :=
  bif p.2.2 == 0 then q else bif q.2.2 == 0 then p else
    bif p.1 == q.1 then
      bif (p.2.1 + q.2.1) % 2305843009213693951 == 0 then (0, 0, 0) else
        finN p.1 p.2.1 q.1 ((3 * (p.1 * p.1) + (2305843009213693951 - 3)) % 2305843009213693951 * iv ((p.2.1 + p.2.1) % 2305843009213693951) % 2305843009213693951)
    else finN p.1 p.2.1 q.1 ((q.2.1 + (2305843009213693951 - p.2.1)) % 2305843009213693951 * iv ((q.1 + (2305843009213693951 - p.1)) % 2305843009213693951) % 2305843009213693951)
def ofn (p : Nat × Nat × Nat) : Pt := if p.2.2 = 0 then none else some ((Fin.ofNat _ p.1), (Fin.ofNat _ p.2.1))
def okn (p : Nat × Nat × Nat) : Prop := p.1 < 2305843009213693951 ∧ p.2.1 < 2305843009213693951
theorem of_le {b : Nat} (h : b < 2305843009213693951) : Fin.ofNat 2305843009213693951 (2305843009213693951 - b) = - Fin.ofNat 2305843009213693951 b := by
  have := of_sub 0 b
  rw [Nat.mod_eq_of_lt h, Nat.zero_add] at this
  rw [this]
  show (0 : Fp) - _ = _
  generalize Fin.ofNat 2305843009213693951 b = u
  grobner
theorem fi_pw {p : Nat} (a : Nat) (hp : p < 2 ^ 64) : pw 64 a (p - 2) p = ivn p (a % p) := by
  unfold ivn
  rw [pw_is p 64 a (p - 2) (by omega), ← Nat.pow_mod]
theorem of_inj {a b : Nat} (ha : a < 2305843009213693951) (hb : b < 2305843009213693951) : Fin.ofNat 2305843009213693951 a = Fin.ofNat _ b ↔ a = b := by
  constructor
  · intro h
    have := congrArg Fin.val h
    simp only [Fin.ofNat] at this
    rwa [Nat.mod_eq_of_lt ha, Nat.mod_eq_of_lt hb] at this
  · intro h; rw [h]
theorem of_z (a : Nat) : Fin.ofNat 2305843009213693951 a = 0 ↔ a % 2305843009213693951 = 0 := by
  constructor
  · intro h; exact congrArg Fin.val h
  · intro h; apply Fin.ext; exact h
theorem finx_lt (x1 x2 s : Nat) : finx x1 x2 s < 2305843009213693951 := Nat.mod_lt _ (by decide)
theorem finN_ok (x1 y1 x2 s : Nat) : okn (finN x1 y1 x2 s) := ⟨finx_lt x1 x2 s, Nat.mod_lt _ (by decide)⟩
theorem finx_of {x1 x2 s : Nat} (h1 : x1 < 2305843009213693951) (h3 : x2 < 2305843009213693951) : Fin.ofNat 2305843009213693951 (finx x1 x2 s) = Fin.ofNat _ s * Fin.ofNat _ s - Fin.ofNat _ x1 - Fin.ofNat _ x2 := by
  unfold finx
  rw [of_mod, of_add, of_add, of_mul, of_le h1, of_le h3]
  generalize Fin.ofNat 2305843009213693951 s = u
  generalize Fin.ofNat 2305843009213693951 x1 = v
  generalize Fin.ofNat 2305843009213693951 x2 = w
  grobner
theorem ofn_c (x y : Nat) : ofn (x, y, 1) = some ((Fin.ofNat _ x), (Fin.ofNat _ y)) := if_neg (show ¬ (1 : Nat) = 0 by decide)
theorem finN_is {x1 y1 x2 s : Nat} (h1 : x1 < 2305843009213693951) (h2 : y1 < 2305843009213693951) (h3 : x2 < 2305843009213693951) (S : Fp) (hS : Fin.ofNat _ s = S) :
    ofn (finN x1 y1 x2 s) = third (Fin.ofNat _ x1) (Fin.ofNat _ y1) (Fin.ofNat _ x2) S := by
  subst hS
  have e := finx_of (s := s) h1 h3
  have hx := finx_lt x1 x2 s
  unfold finN
  generalize finx x1 x2 s = x at e hx
  rw [ofn_c, of_mod, of_add, of_mul, of_add, of_le h2, of_le hx, e]
  unfold third
  generalize Fin.ofNat 2305843009213693951 s = u
  generalize Fin.ofNat 2305843009213693951 x1 = v
  generalize Fin.ofNat 2305843009213693951 x2 = w
  generalize Fin.ofNat 2305843009213693951 y1 = z
  have : u * (v + -(u * u - v - w)) + -z = u * (v - (u * u - v - w)) - z := by grobner
  rw [this]
theorem sub_of (a b : Fp) : a + - b = a - b := by grobner
section adn
variable (iv : Nat → Nat) {x1 y1 z1 x2 y2 z2 : Nat}
theorem adn_0 : adn iv (x1, y1, 0) (x2, y2, z2) = (x2, y2, z2) := rfl
theorem adn_1 (c1 : z1 ≠ 0) : adn iv (x1, y1, z1) (x2, y2, 0) = (x1, y1, z1) := by
  have d1 : (z1 == 0) = false := by simp [c1]
  simp only [adn, d1, cond_false, beq_self_eq_true, cond_true]
theorem adn_2 (c1 : z1 ≠ 0) (c2 : z2 ≠ 0) (c4 : (y1 + y2) % 2305843009213693951 = 0) : adn iv (x1, y1, z1) (x1, y2, z2) = (0, 0, 0) := by
  have d1 : (z1 == 0) = false := by simp [c1]
  have d2 : (z2 == 0) = false := by simp [c2]
  simp only [adn, d1, d2, cond_false, beq_self_eq_true, cond_true, c4]
theorem adn_3 (c1 : z1 ≠ 0) (c2 : z2 ≠ 0) (c4 : (y1 + y2) % 2305843009213693951 ≠ 0) : adn iv (x1, y1, z1) (x1, y2, z2) = finN x1 y1 x1 ((3 * (x1 * x1) + (2305843009213693951 - 3)) % 2305843009213693951 * iv ((y1 + y1) % 2305843009213693951) % 2305843009213693951) := by
  have d1 : (z1 == 0) = false := by simp [c1]
  have d2 : (z2 == 0) = false := by simp [c2]
  have d4 : ((y1 + y2) % 2305843009213693951 == 0) = false := by simp [c4]
  simp only [adn, d1, d2, d4, cond_false, beq_self_eq_true, cond_true]
theorem adn_4 (c1 : z1 ≠ 0) (c2 : z2 ≠ 0) (c3 : x1 ≠ x2) : adn iv (x1, y1, z1) (x2, y2, z2) = finN x1 y1 x2 ((y2 + (2305843009213693951 - y1)) % 2305843009213693951 * iv ((x2 + (2305843009213693951 - x1)) % 2305843009213693951) % 2305843009213693951) := by
  have d1 : (z1 == 0) = false := by simp [c1]
  have d2 : (z2 == 0) = false := by simp [c2]
  have d3 : (x1 == x2) = false := by simp [c3]
  simp only [adn, d1, d2, d3, cond_false]
end adn
theorem ad_c0 {x1 y1 x2 y2 : Fp} (h1 : x1 = x2) (h2 : y1 + y2 = 0) : ad (some (x1, y1)) (some (x2, y2)) = none := by simp only [ad]; rw [if_pos h1, if_pos h2]
theorem ad_c1 {x1 y1 x2 y2 : Fp} (h1 : x1 = x2) (h2 : y1 + y2 ≠ 0) : ad (some (x1, y1)) (some (x2, y2)) = third x1 y1 x1 ((3 * (x1 * x1) - 3) * fi (y1 + y1)) := by simp only [ad]; rw [if_pos h1, if_neg h2]
theorem ad_c2 {x1 y1 x2 y2 : Fp} (h1 : x1 ≠ x2) : ad (some (x1, y1)) (some (x2, y2)) = third x1 y1 x2 ((y2 - y1) * fi (x2 - x1)) := by simp only [ad]; rw [if_neg h1]
theorem adn_is (iv : Nat → Nat) (hiv : ∀ a, Fin.ofNat 2305843009213693951 (iv (a % 2305843009213693951)) = fi (Fin.ofNat _ a)) (p q : Nat × Nat × Nat) (hp : okn p) (hq : okn q) : ofn (adn iv p q) = ad (ofn p) (ofn q) ∧ okn (adn iv p q) := by
  obtain ⟨x1, y1, z1⟩ := p
  obtain ⟨x2, y2, z2⟩ := q
  have a1 : x1 < 2305843009213693951 := hp.1
  have a2 : y1 < 2305843009213693951 := hp.2
  have b1 : x2 < 2305843009213693951 := hq.1
  by_cases c1 : z1 = 0
  · subst c1; rw [adn_0]; exact ⟨rfl, hq⟩
  · by_cases c2 : z2 = 0
    · subst c2; rw [adn_1 iv c1]; exact ⟨(ad_o _).symm, hp⟩
    · have f1 : ofn (x1, y1, z1) = some ((Fin.ofNat _ x1), (Fin.ofNat _ y1)) := if_neg c1
      have f2 : ofn (x2, y2, z2) = some ((Fin.ofNat _ x2), (Fin.ofNat _ y2)) := if_neg c2
      rw [f1, f2]
      by_cases c3 : x1 = x2
      · subst c3
        by_cases c4 : (y1 + y2) % 2305843009213693951 = 0
        · have g : Fin.ofNat 2305843009213693951 y1 + Fin.ofNat _ y2 = 0 := by rw [← of_add]; exact (of_z _).mpr c4
          rw [adn_2 iv c1 c2 c4, ad_c0 rfl g]
          exact ⟨rfl, by decide, by decide⟩
        · have g : Fin.ofNat 2305843009213693951 y1 + Fin.ofNat _ y2 ≠ 0 := by rw [← of_add]; exact fun h => c4 ((of_z _).mp h)
          rw [adn_3 iv c1 c2 c4, ad_c1 rfl g]
          refine ⟨finN_is a1 a2 a1 _ ?_, finN_ok _ _ _ _⟩
          rw [of_mod, of_mul, of_mod, of_add, of_mul, of_mul, hiv, of_add, of_le (show 3 < 2305843009213693951 by decide), n3, sub_of]
      · rw [adn_4 iv c1 c2 c3, ad_c2 (fun h => c3 ((of_inj a1 b1).mp h))]
        refine ⟨finN_is a1 a2 b1 _ ?_, finN_ok _ _ _ _⟩
        rw [of_mod, of_mul, of_mod, of_add, of_le a2, hiv, of_add, of_le a1, sub_of, sub_of]
/-- k times, by doubling, for what is reckoned out -/
def phn {α : Type} (A : α → α → α) (z g : α) : Nat → Nat → α
  | 0, _ => z
  | f + 1, k => let r := phn A z g f (k / 2); let d := A r r; bif k % 2 == 1 then A d g else d
theorem phn_is {α : Type} (A : α → α → α) (z g : α) (ok : α → Prop) (v : α → Pt) (hA : ∀ p q, ok p → ok q → v (A p q) = ad (v p) (v q) ∧ ok (A p q)) (hz : v z = none ∧ ok z) (hg : v g = gG ∧ ok g) : ∀ f k, k < 2 ^ f → v (phn A z g f k) = ph k ∧ ok (phn A z g f k)
  | 0, k, h => by
    have : k = 0 := by simp at h; exact h
    subst this
    exact hz
  | f + 1, k, h => by
    have h1 : k / 2 < 2 ^ f := by rw [Nat.pow_succ] at h; omega
    obtain ⟨i1, i2⟩ := phn_is A z g ok v hA hz hg f (k / 2) h1
    obtain ⟨d1, d2⟩ := hA _ _ i2 i2
    rw [i1, ← ph_add] at d1
    simp only [phn]
    by_cases c : k % 2 = 1
    · simp only [c, beq_self_eq_true, cond_true]
      obtain ⟨g1, g2⟩ := hA (A (phn A z g f (k / 2)) (phn A z g f (k / 2))) g d2 hg.2
      refine ⟨?_, g2⟩
      rw [g1, d1, hg.1]
      have e : k = k / 2 + k / 2 + 1 := by omega
      conv => rhs; rw [e]
      rfl
    · have c' : (k % 2 == 1) = false := by simp [c]
      simp only [c', cond_false]
      refine ⟨?_, d2⟩
      rw [d1]; congr 1; omega
theorem iv_is {p : Nat} (hp : p < 2 ^ 64) (a : Nat) : pw 64 (a % p) (p - 2) p = ivn p (a % p) := by
  unfold ivn
  rw [pw_is p 64 (a % p) (p - 2) (by omega)]
def ivP (a : Nat) : Nat := pw 64 a (2305843009213693951 - 2) 2305843009213693951
theorem ivP_is (a : Nat) : Fin.ofNat 2305843009213693951 (ivP (a % 2305843009213693951)) = fi (Fin.ofNat _ a) :=
  congrArg (Fin.ofNat 2305843009213693951) (iv_is (p := 2305843009213693951) (by decide) a)
theorem phN_is (k : Nat) (h : k < 2 ^ 62) : ofn (phn (adn ivP) (0, 0, 0) (1, 509478702933351334, 1) 62 k) = ph k :=
  (phn_is (adn ivP) (0, 0, 0) (1, 509478702933351334, 1) okn ofn (fun p q hp hq => adn_is ivP ivP_is p q hp hq) ⟨rfl, by decide, by decide⟩ ⟨rfl, by decide, by decide⟩ 62 k h).1
theorem ph_N : ph 2305843010818082053 = none := by
  have h := phN_is 2305843010818082053 (by decide)
  have : (phn (adn ivP) (0, 0, 0) (1, 509478702933351334, 1) 62 2305843010818082053).2.2 = 0 := by decide +kernel
  exact h.symm.trans (if_pos this)
end Go.Proofs.Ytmbphmamdkgjjaa.M
