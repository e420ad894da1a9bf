import Derived.Test.YtmbphmamdkgjjaaOrb
namespace Go.Proofs.Ytmbphmamdkgjjaa.M

theorem ng_ad : ∀ {p : Pt}, on p → ad (ng p) p = none
  | none, _ => rfl
  | some (x, y), _ => ad_c0 rfl (by generalize y = u; grobner)
theorem gG_ne : gG ≠ none := by intro h; cases h
/-- two steps of which one leads back do so with their greatest common divisor -/
theorem back_gcd (m : Nat → Prop) (h0 : m 0) (ha : ∀ i j, m i → m j → m (i + j)) (hs : ∀ i j, m i → m (i + j) → m j) (i j : Nat) : m i → m j → m (Nat.gcd i j) := by
  have hk : ∀ i k, m i → m (i * k) := by
    intro i k h
    induction k with
    | zero => exact h0
    | succ k ih => rw [Nat.mul_succ]; exact ha _ _ ih h
  refine Nat.gcd.induction (P := fun i j => m i → m j → m (Nat.gcd i j)) i j ?_ ?_
  · intro n _ h; rw [Nat.gcd_zero_left]; exact h
  · intro a n _ ih h1 h2
    rw [Nat.gcd_rec]
    refine ih ?_ h1
    have e := Nat.div_add_mod n a
    exact hs (a * (n / a)) (n % a) (hk a _ h1) (e.symm ▸ h2)
theorem gcd_N (p : Nat) (hp : ∀ a b, a * b % p = 0 → a % p = 0 ∨ b % p = 0) (i : Nat) (h0 : 0 < i) (hi : i < p) : Nat.gcd i p = 1 := by
  obtain ⟨e, he⟩ := Nat.gcd_dvd_right i p
  have h1 : Nat.gcd i p ≤ i := Nat.le_of_dvd h0 (Nat.gcd_dvd_left i p)
  have h2 : 0 < Nat.gcd i p := Nat.gcd_pos_of_pos_left p h0
  generalize Nat.gcd i p = d at he h1 h2
  have k : d * e % p = 0 := by rw [← he]; exact Nat.mod_self p
  rcases hp d e k with r | r
  · rw [Nat.mod_eq_of_lt (by omega)] at r; omega
  · obtain ⟨f, hf⟩ := Nat.dvd_of_mod_eq_zero r
    have hp0 : 0 < p := by omega
    have e1 : p * (d * f) = p * 1 := by
      rw [Nat.mul_one]
      calc p * (d * f) = d * (p * f) := Nat.mul_left_comm p d f
        _ = p := by rw [← hf, ← he]
    have e2 := Nat.eq_of_mul_eq_mul_left hp0 e1
    exact (Nat.eq_one_of_mul_eq_one_right e2)
theorem tk_N {p : Pt} (h : on p) : tk 2305843010818082053 p = p := by
  have a := ad_ph h 2305843010818082053
  have b := congrArg (ad p) ph_N
  exact a.symm.trans (b.trans (ad_o p))
theorem tk_sub {p q : Pt} (n : Nat) (hn : ∀ r, on r → tk n r = r) (hp : on p) (hq : on q) {i : Nat} (hi : i ≤ n) (e : tk i p = tk i q) : p = q := by
  have a : tk (n - i) (tk i p) = tk (n - i) (tk i q) := by rw [e]
  rw [← tk_add, ← tk_add, Nat.add_sub_cancel' hi, hn p hp, hn q hq] at a
  exact a
/-- no point is led back by fewer steps -/
theorem tk_ne {p : Pt} (n : Nat) (hn : ∀ r, on r → tk n r = r) (hpr : ∀ a b, a * b % n = 0 → a % n = 0 ∨ b % n = 0) (hp : on p) {i : Nat} (h0 : 0 < i) (hi : i < n) : tk i p ≠ p := by
  intro e
  have g := back_gcd (fun j => tk j p = p) rfl (fun a b h1 h2 => by show tk (a + b) p = p; rw [tk_add, h1, h2]) (fun a b h1 h2 => by
    have h2' : tk (a + b) p = p := h2
    rw [tk_add, h1] at h2'
    exact h2') i n e (hn p hp)
  rw [gcd_N n hpr i h0 hi] at g
  have g1 : ad p gG = p := g
  have a := asc (ng_on hp) hp
  rw [g1, ng_ad hp, o_ad] at a
  exact gG_ne a.symm
theorem tk_dif {p : Pt} (n : Nat) (hn : ∀ r, on r → tk n r = r) (hpr : ∀ a b, a * b % n = 0 → a % n = 0 ∨ b % n = 0) (hp : on p) {i j : Nat} (h0 : i < j) (hj : j < n) : tk i p ≠ tk j p := by
  intro e
  have : j = (j - i) + i := by omega
  rw [this, tk_add] at e
  exact tk_ne n hn hpr hp (show 0 < j - i by omega) (by omega) (tk_sub n hn hp (tk_on hp (j - i)) (by omega) e).symm

/-- a number for each point of the curve -/
def code : Pt → Nat
  | none => 4611686018427387902
  | some (x, y) => 2 * x.val + y.val % 2
theorem code_lt : ∀ p, code p < 4611686018427387903
  | none => by decide
  | some (x, y) => by
    have := x.isLt
    show 2 * x.val + y.val % 2 < _
    omega
theorem neg_val {y z : Fp} (h : y + z = 0) (hy : y ≠ 0) : z.val = 2305843009213693951 - y.val := by
  have e := congrArg Fin.val h
  rw [Fin.val_add] at e
  have e' : (y.val + z.val) % 2305843009213693951 = 0 := e
  have h1 := y.isLt
  have h2 := z.isLt
  have h3 : y.val ≠ 0 := fun c => hy (Fin.ext c)
  omega
theorem code_inj : ∀ {p q : Pt}, on p → on q → code p = code q → p = q
  | none, none, _, _, _ => rfl
  | none, some (x, y), _, _, e => by
    have := x.isLt
    have e' : 4611686018427387902 = 2 * x.val + y.val % 2 := e
    omega
  | some (x, y), none, _, _, e => by
    have := x.isLt
    have e' : 2 * x.val + y.val % 2 = 4611686018427387902 := e
    omega
  | some (x, y), some (x', y'), h1, h2, e => by
    have e' : 2 * x.val + y.val % 2 = 2 * x'.val + y'.val % 2 := e
    have ex : x = x' := Fin.ext (by omega)
    subst ex
    rcases same_x h1 h2 with r | r
    · rw [r]
    · have := neg_val r (y_ne h1)
      have := y.isLt
      have : y.val ≠ 0 := fun c => y_ne h1 (Fin.ext c)
      omega
/-- all points of the curve are times the base -/
theorem all_ph {c : Pt} (hc : on c) (n : Nat) (hn : ∀ r, on r → tk n r = r) (hpr : ∀ a b, a * b % n = 0 → a % n = 0 ∨ b % n = 0) (big : 4611686018427387903 < n + n) : ∃ k, k < n ∧ ph k = c := by
  by_cases h : ∃ k, k < n ∧ ph k = c
  · exact h
  · exfalso
    obtain ⟨i, j, h1, h2, h3⟩ := php 4611686018427387903 (fun i => code (if i < n then ph i else tk (i - n) c)) (fun i _ => code_lt _)
    have oi : ∀ i, on (if i < n then ph i else tk (i - n) c) := by
      intro i; split
      · exact ph_on i
      · exact tk_on hc _
    have e := code_inj (oi i) (oi j) h3
    split at e
    · rename_i a
      split at e
      · rename_i b
        rw [← tk_o, ← tk_o] at e
        exact tk_dif n hn hpr (p := none) trivial h1 b e
      · rename_i b
        -- the base so many times is c, moved: then c is the base, some times
        have s : tk (n - (j - n)) (ph i) = c := by
          rw [e, ← tk_add, Nat.add_sub_cancel' (by omega), hn c hc]
        have s' : ph (i + (n - (j - n))) = c := by rw [← s, ← tk_o, tk_add, tk_o]
        have s2 : ∃ k, k < n ∧ ph k = c := by
          by_cases lt : i + (n - (j - n)) < n
          · exact ⟨_, lt, s'⟩
          · refine ⟨i + (n - (j - n)) - n, by omega, ?_⟩
            rw [← s', ← tk_o, ← tk_o]
            have : i + (n - (j - n)) = n + (i + (n - (j - n)) - n) := by omega
            conv => rhs; rw [this, tk_add, hn none trivial]
        exact h s2
    · rename_i a
      split at e
      · rename_i b; omega
      · rename_i b
        exact tk_dif n hn hpr hc (show i - n < j - n by omega) (by omega) e
theorem is_ph {c : Pt} (hc : on c) : ∃ k, k < 2305843010818082053 ∧ ph k = c :=
  all_ph hc 2305843010818082053 (fun _ h => tk_N h) (fun a b h => rootN.noz a b h) (by decide)

/-- so many times a point -/
def nt : Nat → Pt → Pt
  | 0, _ => none
  | k + 1, p => ad (nt k p) p
theorem ad_comm {p q : Pt} (hp : on p) (hq : on q) : ad p q = ad q p := by
  obtain ⟨i, _, rfl⟩ := is_ph hp
  obtain ⟨j, _, rfl⟩ := is_ph hq
  rw [← ph_add, ← ph_add, Nat.add_comm]
theorem ad_assoc {p q r : Pt} (hp : on p) (hq : on q) (hr : on r) : ad (ad p q) r = ad p (ad q r) := by
  obtain ⟨i, _, rfl⟩ := is_ph hp
  obtain ⟨j, _, rfl⟩ := is_ph hq
  obtain ⟨k, _, rfl⟩ := is_ph hr
  rw [← ph_add, ← ph_add, ← ph_add, ← ph_add, Nat.add_assoc]
theorem ad_ng {p : Pt} (hp : on p) : ad p (ng p) = none := by rw [ad_comm hp (ng_on hp), ng_ad hp]
theorem nt_on {p : Pt} (h : on p) : ∀ k, on (nt k p)
  | 0 => trivial
  | k + 1 => ad_on (nt_on h k) h
theorem nt_ph (i : Nat) : ∀ k, nt k (ph i) = ph (k * i)
  | 0 => by rw [Nat.zero_mul]; rfl
  | k + 1 => by show ad (nt k (ph i)) (ph i) = _; rw [nt_ph i k, ← ph_add, Nat.succ_mul]
theorem nt_add {p : Pt} (h : on p) (i j : Nat) : nt (i + j) p = ad (nt i p) (nt j p) := by
  obtain ⟨m, _, rfl⟩ := is_ph h
  rw [nt_ph, nt_ph, nt_ph, ← ph_add, Nat.add_mul]
theorem nt_mul {p : Pt} (h : on p) (i j : Nat) : nt i (nt j p) = nt (i * j) p := by
  obtain ⟨m, _, rfl⟩ := is_ph h
  rw [nt_ph, nt_ph, nt_ph, Nat.mul_assoc]
theorem nt_ad {p q : Pt} (hp : on p) (hq : on q) (i : Nat) : nt i (ad p q) = ad (nt i p) (nt i q) := by
  obtain ⟨m, _, rfl⟩ := is_ph hp
  obtain ⟨n, _, rfl⟩ := is_ph hq
  rw [← ph_add, nt_ph, nt_ph, nt_ph, ← ph_add, Nat.mul_add]
theorem ph_mul_o (n k : Nat) (h : ph n = none) : ph (n * k) = none := by
  induction k with
  | zero => rfl
  | succ k ih => rw [Nat.mul_succ, ph_add, ih, o_ad]; exact h
theorem nt_per {p : Pt} (h : on p) (n : Nat) (hn : ph n = none) : nt n p = none := by
  obtain ⟨m, _, rfl⟩ := is_ph h
  rw [nt_ph]
  exact ph_mul_o n m hn
theorem nt_mod' {p : Pt} (h : on p) (n : Nat) (hn : nt n p = none) (k : Nat) : nt (k % n) p = nt k p := by
  have e := Nat.div_add_mod k n
  have z : ∀ d, nt (n * d) p = none := by
    intro d
    rw [Nat.mul_comm, ← nt_mul h, hn]
    clear e hn
    induction d with
    | zero => rfl
    | succ d ih => show ad (nt d none) none = none; rw [ih]; rfl
  conv => rhs; rw [← e, nt_add h, z, o_ad]
theorem nt_N {p : Pt} (h : on p) : nt 2305843010818082053 p = none := nt_per h _ ph_N
theorem nt_mod {p : Pt} (h : on p) (k : Nat) : nt (k % 2305843010818082053) p = nt k p := nt_mod' h _ (nt_N h) k
end Go.Proofs.Ytmbphmamdkgjjaa.M
