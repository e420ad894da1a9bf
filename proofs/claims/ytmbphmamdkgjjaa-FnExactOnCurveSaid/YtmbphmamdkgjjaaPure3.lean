/-
  Plain laws: what the program's way of reckoning words, rounds and texts comes to.
-/
import Derived.Test.YtmbphmamdkgjjaaPure2
namespace Go.Proofs.Ytmbphmamdkgjjaa
def accTo (m : List Int) (p : Nat) : Nat → Int
  | 0 => 0
  | j + 1 => bits BinOp.or IntKind.u32 (accTo m p j * 256 % 4294967296) (lk m (p + j))
theorem accTo_lo (m : List Int) (p : Nat) : ∀ j, 0 ≤ accTo m p j ∧ accTo m p j < 4294967296
  | 0 => by simp [accTo]
  | j + 1 => bits_lo _ _ _
theorem or_add (k : Nat) (a b : Int) (ha : 0 ≤ a) (ha1 : a < 4294967296) (hb : 0 ≤ b) (hb1 : b < 4294967296) (hk : a % 2 ^ k = 0) (hbk : b < 2 ^ k) : bits BinOp.or IntKind.u32 a b = a + b := by
  rw [u32_or a b ha ha1 hb hb1, nat_join k a.toNat b.toNat]
  · omega
  · have : ((a.toNat % 2 ^ k : Nat) : Int) = 0 := by
      rw [Int.natCast_emod, Int.toNat_of_nonneg ha]; simpa using hk
    omega
  · have : ((b.toNat : Nat) : Int) < ((2 ^ k : Nat) : Int) := by rw [Int.toNat_of_nonneg hb]; simpa using hbk
    omega
theorem word_sum (m : List Int) (p : Nat) (hb : ∀ i, 0 ≤ lk m i ∧ lk m i < 256) : word m p = lk m p * 16777216 + lk m (p + 1) * 65536 + lk m (p + 2) * 256 + lk m (p + 3) := by
  have h0 := hb p
  have h1 := hb (p + 1)
  have h2 := hb (p + 2)
  have h3 := hb (p + 3)
  unfold word
  rw [or_add 24 (lk m p * 16777216) (lk m (p + 1) * 65536) (by omega) (by omega) (by omega) (by omega) (by omega) (by omega)]
  rw [or_add 16 (lk m p * 16777216 + lk m (p + 1) * 65536) (lk m (p + 2) * 256) (by omega) (by omega) (by omega) (by omega) (by omega) (by omega)]
  rw [or_add 8 (lk m p * 16777216 + lk m (p + 1) * 65536 + lk m (p + 2) * 256) (lk m (p + 3)) (by omega) (by omega) (by omega) (by omega) (by omega) (by omega)]
theorem accTo4 (m : List Int) (p : Nat) (hb : ∀ i, 0 ≤ lk m i ∧ lk m i < 256) : accTo m p 4 = word m p := by
  have h0 := hb p
  have h1 := hb (p + 1)
  have h2 := hb (p + 2)
  have h3 := hb (p + 3)
  rw [word_sum m p hb]
  have e1 : accTo m p 1 = lk m p := by
    show bits BinOp.or IntKind.u32 (0 * 256 % 4294967296) (lk m (p + 0)) = _
    rw [Nat.add_zero, or_add 8 _ _ (by omega) (by omega) (by omega) (by omega) (by omega) (by omega)]; omega
  have e2 : accTo m p 2 = lk m p * 256 + lk m (p + 1) := by
    show bits BinOp.or IntKind.u32 (accTo m p 1 * 256 % 4294967296) (lk m (p + 1)) = _
    rw [e1, or_add 8 _ _ (by omega) (by omega) (by omega) (by omega) (by omega) (by omega)]; omega
  have e3 : accTo m p 3 = lk m p * 65536 + lk m (p + 1) * 256 + lk m (p + 2) := by
    show bits BinOp.or IntKind.u32 (accTo m p 2 * 256 % 4294967296) (lk m (p + 2)) = _
    rw [e2, or_add 8 _ _ (by omega) (by omega) (by omega) (by omega) (by omega) (by omega)]; omega
  show bits BinOp.or IntKind.u32 (accTo m p 3 * 256 % 4294967296) (lk m (p + 3)) = _
  rw [e3, or_add 8 _ _ (by omega) (by omega) (by omega) (by omega) (by omega) (by omega)]; omega
theorem lk_mid (l r : List Int) (x : Int) (k : Nat) (h : l.length = k) : lk (l ++ x :: r) k = x := by
  unfold lk; subst h; simp
theorem set_at (l r : List Int) (x y : Int) (k : Nat) (h : l.length = k) : (l ++ x :: r).set k y = l ++ y :: r := by
  subst h; rw [List.set_append_right _ _ (Nat.le_refl _)]; simp
theorem set_rep (l : List Int) (k : Nat) (y : Int) (h : l.length = k) (hk : k < 64) : (l ++ List.replicate (64 - k) 0).set k y = (l ++ [y]) ++ List.replicate (64 - (k + 1)) 0 := by
  rw [show List.replicate (64 - k) (0 : Int) = 0 :: List.replicate (64 - (k + 1)) 0 by rw [← List.replicate_succ]; congr 1; omega, set_at _ _ _ _ _ h]; simp
theorem cons_snoc (l r : List Int) (x : Int) : l ++ x :: r = (l ++ [x]) ++ r := by simp
theorem wsTo_at (m : List Int) (p k : Nat) (h : k < 16) : wsTo m p (k + 1) = wsTo m p k ++ [word m (p + 4 * k)] := by rw [wsTo, if_pos h]
theorem wsTo_at' (m : List Int) (p k : Nat) (h : 16 ≤ k) : wsTo m p (k + 1) = wsTo m p k ++ [nextw (wsTo m p k) k] := by rw [wsTo, if_neg (by omega)]
theorem rnd_a (s : St) (k w : Int) : ((s.z + bg1 s.e + chF s.e s.f s.g + w + k + bg0 s.a) % 4294967296 + majF s.a s.b s.c) % 4294967296 = (rnd s k w).a := by
  simp only [rnd, tt1, tt2]; omega
theorem rnd_e (s : St) (k w : Int) : (s.d + (s.z + bg1 s.e + chF s.e s.f s.g + w + k) % 4294967296) % 4294967296 = (rnd s k w).e := by
  simp only [rnd, tt1]; omega
/-- the eight words of a state, as a list -/
def stL (s : St) : List Int := [s.a, s.b, s.c, s.d, s.e, s.f, s.g, s.z]
theorem lk_blockF (ks h ws : List Int) (i : Nat) (hi : i < 8) : lk (blockF ks h ws) i = (lk h i + lk (stL (rndTo (stOf h) ks ws 64)) i) % 4294967296 := by
  match i, hi with
  | 0, _ => rfl
  | 1, _ => rfl
  | 2, _ => rfl
  | 3, _ => rfl
  | 4, _ => rfl
  | 5, _ => rfl
  | 6, _ => rfl
  | 7, _ => rfl
theorem lk_stL {s : St} (h : s.ok) (i : Nat) (hi : i < 8) : w32 (lk (stL s) i) := by
  obtain ⟨h1, h2, h3, h4, h5, h6, h7, h8⟩ := h
  match i, hi with
  | 0, _ => exact h1
  | 1, _ => exact h2
  | 2, _ => exact h3
  | 3, _ => exact h4
  | 4, _ => exact h5
  | 5, _ => exact h6
  | 6, _ => exact h7
  | 7, _ => exact h8
theorem lk_stOf {h : List Int} (hk : (stOf h).ok) (i : Nat) (hi : i < 8) : w32 (lk h i) := by
  obtain ⟨h1, h2, h3, h4, h5, h6, h7, h8⟩ := hk
  match i, hi with
  | 0, _ => exact h1
  | 1, _ => exact h2
  | 2, _ => exact h3
  | 3, _ => exact h4
  | 4, _ => exact h5
  | 5, _ => exact h6
  | 6, _ => exact h7
  | 7, _ => exact h8
end Go.Proofs.Ytmbphmamdkgjjaa
