import Derived.Test.YtmbphmamdkgjjaaFld
import Derived.Test.YtmbphmamdkgjjaaAs
namespace Go.Proofs.Ytmbphmamdkgjjaa.M

def fi (a : Fp) : Fp := Fin.ofNat _ (ivn 2305843009213693951 a.val)
theorem val_ne {a : Fp} (h : a ≠ 0) : a.val % 2305843009213693951 ≠ 0 := by
  intro e
  rw [Nat.mod_eq_of_lt a.isLt] at e
  exact h (Fin.ext e)
theorem fi_mul {a : Fp} (h : a ≠ 0) : a * fi a = 1 := by
  apply Fin.ext
  rw [Fin.val_mul]
  exact rootP.iv a.val (val_ne h) (by decide)
theorem noz {a b : Fp} (h : a * b = 0) : a = 0 ∨ b = 0 := by
  by_cases c : a = 0
  · exact Or.inl c
  · refine Or.inr ?_
    have := fi_mul c
    grobner
theorem ne_mul {a b : Fp} (h1 : a ≠ 0) (h2 : b ≠ 0) : a * b ≠ 0 := by
  intro h
  rcases noz h with e | e
  · exact h1 e
  · exact h2 e

/-- the square, k times -/
def sqn : Nat → Fp → Fp
  | 0, x => x
  | k + 1, x => sqn k (x * x)
theorem sqn_val : ∀ k (x : Fp), (sqn k x).val = x.val ^ (2 ^ k) % 2305843009213693951
  | 0, x => by simp only [sqn]; rw [Nat.pow_zero, Nat.pow_one, Nat.mod_eq_of_lt x.isLt]
  | k + 1, x => by
    simp only [sqn]
    rw [sqn_val k (x * x), Fin.val_mul, ← Nat.pow_mod, ← Nat.pow_two, ← Nat.pow_mul, Nat.pow_succ, Nat.mul_comm 2]
theorem sqn61 (x : Fp) : sqn 61 x = x * x := by
  apply Fin.ext
  rw [sqn_val 61 x, rootP.two 61 x.val (by decide), Fin.val_mul]

/-- three numbers: a term in a root of the curve's right side, and its square -/
def tsq (t : Nat × Nat × Nat) : Nat × Nat × Nat :=
  let m := 2305843009213693951
  let c3 := 2 * t.2.1 * t.2.2
  let c4 := t.2.2 * t.2.2
  ((t.1 * t.1 + (m - 111) * c3) % m, (2 * t.1 * t.2.1 + 3 * c3 + (m - 111) * c4) % m, (2 * t.1 * t.2.2 + t.2.1 * t.2.1 + 3 * c4) % m)
def tsn : Nat → Nat × Nat × Nat → Nat × Nat × Nat
  | 0, t => t
  | k + 1, t => tsn k (tsq t)
def tev (r : Fp) (t : Nat × Nat × Nat) : Fp := Fin.ofNat _ t.1 + Fin.ofNat _ t.2.1 * r + Fin.ofNat _ t.2.2 * (r * r)
theorem nm111 : Fin.ofNat 2305843009213693951 (2305843009213693951 - 111) = -111 := by decide
theorem n2 : Fin.ofNat 2305843009213693951 2 = 2 := rfl
theorem tsq_ev (r : Fp) (h : r * r * r = 3 * r - 111) (t : Nat × Nat × Nat) : tev r (tsq t) = tev r t * tev r t := by
  simp only [tev, tsq, of_mod, of_add, of_mul, nm111, n2, n3]
  grobner
theorem tsn_ev (r : Fp) (h : r * r * r = 3 * r - 111) : ∀ k t, tev r (tsn k t) = sqn k (tev r t)
  | 0, t => rfl
  | k + 1, t => by simp only [tsn, sqn]; rw [tsn_ev r h k, tsq_ev r h]
theorem no_root (r : Fp) : r * r * r - 3 * r + 111 ≠ 0 := by
  intro h0
  have h : r * r * r = 3 * r - 111 := by grobner
  have e : tsn 61 (0, 1, 0) = (311388172664779689, 246475026467563493, 2150148922881304106) := by decide +kernel
  have a := tsn_ev r h 61 (0, 1, 0)
  have b : tev r (0, 1, 0) = r := by
    show (0 : Fp) + 1 * r + 0 * (r * r) = r
    grobner
  rw [e, b, sqn61] at a
  have c : (311388172664779689 : Fp) + 246475026467563493 * r + 2150148922881304106 * (r * r) = r * r := a
  clear a b e h0
  grobner

/-- a point of the plane, or zero -/
abbrev Pt := Option (Fp × Fp)
def crv (x : Fp) : Fp := x * x * x - 3 * x + 111
def on : Pt → Prop
  | none => True
  | some (x, y) => y * y = crv x
theorem y_ne {x y : Fp} (h : on (some (x, y))) : y ≠ 0 := by
  intro e
  have h' : y * y = x * x * x - 3 * x + 111 := h
  subst e
  exact no_root x (by grobner)
theorem two_ne : (2 : Fp) ≠ 0 := by decide
theorem same_x {x y z : Fp} (h1 : on (some (x, y))) (h2 : on (some (x, z))) : y = z ∨ y + z = 0 := by
  have h1' : y * y = x * x * x - 3 * x + 111 := h1
  have h2' : z * z = x * x * x - 3 * x + 111 := h2
  have : (y - z) * (y + z) = 0 := by grobner
  rcases noz this with e | e
  · exact Or.inl (by grobner)
  · exact Or.inr e
/-- the third point of a line, mirrored -/
def third (x1 y1 x2 s : Fp) : Pt := some ((s * s - x1 - x2), (s * (x1 - (s * s - x1 - x2)) - y1))
theorem third_on {x1 y1 x2 y2 s : Fp} (h1 : on (some (x1, y1))) (h2 : on (some (x2, y2))) (hx : x1 ≠ x2) (hs : s * (x2 - x1) = y2 - y1) : on (third x1 y1 x2 s) := by
  have h1' : y1 * y1 = x1 * x1 * x1 - 3 * x1 + 111 := h1
  have h2' : y2 * y2 = x2 * x2 * x2 - 3 * x2 + 111 := h2
  show (s * (x1 - (s * s - x1 - x2)) - y1) * (s * (x1 - (s * s - x1 - x2)) - y1) = (s * s - x1 - x2) * (s * s - x1 - x2) * (s * s - x1 - x2) - 3 * (s * s - x1 - x2) + 111
  have : (x2 - x1) * ((s * (x1 - (s * s - x1 - x2)) - y1) * (s * (x1 - (s * s - x1 - x2)) - y1) - ((s * s - x1 - x2) * (s * s - x1 - x2) * (s * s - x1 - x2) - 3 * (s * s - x1 - x2) + 111)) = 0 := by grobner
  rcases noz this with e | e
  · exact absurd (show x1 = x2 by grobner) hx
  · grobner
theorem third_dbl {x1 y1 s : Fp} (h1 : on (some (x1, y1))) (hs : s * (y1 + y1) = 3 * (x1 * x1) - 3) : on (third x1 y1 x1 s) := by
  have h1' : y1 * y1 = x1 * x1 * x1 - 3 * x1 + 111 := h1
  show (s * (x1 - (s * s - x1 - x1)) - y1) * (s * (x1 - (s * s - x1 - x1)) - y1) = (s * s - x1 - x1) * (s * s - x1 - x1) * (s * s - x1 - x1) - 3 * (s * s - x1 - x1) + 111
  grobner
end Go.Proofs.Ytmbphmamdkgjjaa.M
