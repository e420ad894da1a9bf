import Derived.Test.YtaeanelfpaphiabChecked
import Derived.WalkKit
import Derived.ProofKit
import Derived.WalkSpells
import Derived.WalkLawsBesides
import Derived.Outline
import Derived.Laws.Bits64b
namespace Go.Proofs.Ytaeanelfpaphiab
open Go.RowKit
set_option linter.unusedVariables false

/-- code that is drawn from: a row of bytes, of at most 2^20 -/
def Cod (W : World) (v : Value) : Prop := (∃ p c, v = .slice p 0 c) ∨ ∃ b o n c : Nat, 0 < n ∧ n ≤ 1048576 ∧ v = .slice (some ⟨b, o, none⟩) n c ∧ ∀ i, i < n → ∃ x : Nat, x < 256 ∧ W.cell? ⟨b, o + i, none⟩ = some (.int .u8 x)
theorem Cod.below {W W' : World} {v : Value} (h : Cod W v) (hb : Below W.heap.size W W') : Cod W' v := by
  rcases h with h | ⟨b, o, n, c, h0, h1, rfl, hc⟩
  · exact .inl h
  · refine .inr ⟨b, o, n, c, h0, h1, rfl, fun i hi => ?_⟩
    obtain ⟨x, hx, hcell⟩ := hc i hi
    exact ⟨x, hx, (hb.cell (p := ⟨b, o + i, none⟩) (World.block_lt_of_cell? W _ hcell)).trans hcell⟩

theorem xor_i64 (a b : Nat) (ha : a < 9223372036854775808) (hb : b < 9223372036854775808) : bits .xor .i64 (a : Int) (b : Int) = ((a ^^^ b : Nat) : Int) := by
  have hx : a ^^^ b < 2 ^ 63 := Nat.xor_lt_two_pow (by omega) (by omega)
  have h1 : (BitVec.ofInt 64 (a : Int)).toNat = a := by
    rw [BitVec.ofInt_natCast, BitVec.toNat_ofNat]; exact Nat.mod_eq_of_lt (by omega)
  have h2 : (BitVec.ofInt 64 (b : Int)).toNat = b := by
    rw [BitVec.ofInt_natCast, BitVec.toNat_ofNat]; exact Nat.mod_eq_of_lt (by omega)
  show IntKind.i64.wrap ((BitVec.ofInt 64 (a : Int) ^^^ BitVec.ofInt 64 (b : Int)).toNat : Int) = _
  rw [BitVec.toNat_xor, h1, h2]
  generalize a ^^^ b = z at *
  simp [IntKind.wrap, IntKind.bits, IntKind.signed]
  omega
theorem ret_ii {a b c d : Int} (h : a = c) (h2 : b = d) : Ending.returned (.tuple #[.int .i64 a, .int .i64 b]) = .returned (.tuple #[.int .i64 c, .int .i64 d]) := by rw [h, h2]

set_option maxRecDepth 100000 in
set_option maxHeartbeats 1000000 in
theorem take_none_any (q : Option Addr) (c : Nat) (p n : Nat) (w : World) (hp : p ≤ 1000000) (hn : 1 ≤ n) :
    Calls Try.prog 58 #[.slice q 0 c, .int .i64 p, .int .i64 n] w fun e w' => e = .returned (.tuple #[.int .i64 0, .int .i64 ((p : Int) + 1)]) ∧ w = w' := by
  have h1 : ¬ ((n : Int) < 1) := by omega
  go_enter Try.func58, Try.ntmps58
  go_wp2
  go_ret2
  exact ⟨rfl, rfl⟩
set_option maxRecDepth 100000 in
set_option maxHeartbeats 1000000 in
theorem take_near (b o l c : Nat) (p n x : Nat) (w : World) (hl : l ≤ 1048576) (hn : 1 ≤ n) (hn2 : n ≤ 256) (hpl : p < l) (hx : x < 256) (hc : w.cell? ⟨b, o + p, none⟩ = some (.int .u8 x)) :
    Calls Try.prog 58 #[.slice (some ⟨b, o, none⟩) l c, .int .i64 p, .int .i64 n] w fun e w' => e = .returned (.tuple #[.int .i64 (x % n : Nat), .int .i64 ((p : Int) + 1)]) ∧ w = w' := by
  have h1 : ¬ ((n : Int) < 1) := by omega
  have h2 : ((l : Int) == 0) = false := by simp; omega
  have h3 : (p : Int) < (l : Int) := by omega
  have h4 : (n : Int) ≤ 256 := by omega
  have h5 : ¬ (n = 0) := by omega
  go_enter Try.func58, Try.ntmps58
  go_wp2
  go_ret2
  exact ⟨ret_ii (by simp) rfl, rfl⟩
set_option maxRecDepth 100000 in
set_option maxHeartbeats 1000000 in
theorem take_far (b o l c : Nat) (p n i j k x y : Nat) (w : World) (hl0 : 0 < l) (hl : l ≤ 1048576) (hn : 1 ≤ n) (hn2 : n ≤ 256) (hpl : ¬ p < l) (hp : p ≤ 1000000) (hx : x < 256) (hy : y < 256)
    (hi : i = p % l) (hj : j = (p * 7 + 3) % l) (hk : k = p / l) (hc : w.cell? ⟨b, o + i, none⟩ = some (.int .u8 x)) (hd : w.cell? ⟨b, o + j, none⟩ = some (.int .u8 y)) :
    Calls Try.prog 58 #[.slice (some ⟨b, o, none⟩) l c, .int .i64 p, .int .i64 n] w fun e w' => (∃ z : Nat, z < n ∧ e = .returned (.tuple #[.int .i64 z, .int .i64 ((p : Int) + 1)])) ∧ w = w' := by
  have h1 : ¬ ((n : Int) < 1) := by omega
  have h2 : ((l : Int) == 0) = false := by simp; omega
  have h3 : ¬ ((p : Int) < (l : Int)) := by omega
  have h5 : ¬ (n = 0) := by omega
  have h6 : ¬ (l = 0) := by omega
  have hi1 : i < l := by rw [hi]; exact Nat.mod_lt _ hl0
  have hj1 : j < l := by rw [hj]; exact Nat.mod_lt _ hl0
  have hk1 : k ≤ p := by rw [hk]; exact Nat.div_le_self _ _
  have ei : (p : Int) % (l : Int) = (i : Int) := by rw [hi]; simp
  have ej : ((p : Int) * 7 + 3) % (l : Int) = (j : Int) := by rw [hj]; simp
  have ek : (p : Int) / (l : Int) = (k : Int) := by rw [hk]; simp
  have hi2 : (i : Int) < (l : Int) := by omega
  have hj2 : (j : Int) < (l : Int) := by omega
  clear hi hj hk
  obtain ⟨t, ht⟩ : ∃ t : Nat, t = x * 131 + y * 1117 + p * 29 + k * 53 := ⟨_, rfl⟩
  have ht1 : t ≤ 1000000000 := by omega
  have e1 : (x : Int) * 131 + (y : Int) * 1117 + (p : Int) * 29 + (k : Int) * 53 = (t : Int) := by rw [ht]; simp
  have e2 : (t : Int) / 64 = ((t / 64 : Nat) : Int) := by omega
  have e3 := xor_i64 t (t / 64) (by omega) (by omega)
  rw [← e2] at e3
  have ez : ((t ^^^ (t / 64) : Nat) : Int).tmod (n : Int) = (((t ^^^ (t / 64)) % n : Nat) : Int) := by rw [Int.tmod_eq_emod_of_nonneg (Int.natCast_nonneg _)]; simp
  have hz : (t ^^^ (t / 64)) % n < n := Nat.mod_lt _ (by omega)
  generalize (t ^^^ (t / 64)) % n = z at *
  generalize t ^^^ (t / 64) = y' at *
  clear ht e2
  go_enter Try.func58, Try.ntmps58
  go_wp2
  go_ret2
  exact ⟨⟨z, hz, rfl⟩, rfl⟩

/-- one number is taken -/
theorem take_any (v : Value) (p n : Nat) (w : World) (hv : Cod w v) (hn : 1 ≤ n) (hn2 : n ≤ 256) (hp : p ≤ 1000000) :
    Calls Try.prog 58 #[v, .int .i64 p, .int .i64 n] w fun e w' => (∃ z : Nat, z < n ∧ e = .returned (.tuple #[.int .i64 z, .int .i64 ((p : Int) + 1)])) ∧ w = w' := by
  rcases hv with ⟨q, c, rfl⟩ | ⟨b, o, l, c, h0, h1, rfl, hc⟩
  · refine (take_none_any q c p n w hp hn).mono ?_
    rintro e w' ⟨rfl, rfl⟩
    exact ⟨⟨0, by omega, rfl⟩, rfl⟩
  · by_cases hpl : p < l
    · obtain ⟨x, hx, hcell⟩ := hc p hpl
      refine (take_near b o l c p n x w h1 hn hn2 hpl hx hcell).mono ?_
      rintro e w' ⟨rfl, rfl⟩
      exact ⟨⟨x % n, Nat.mod_lt _ (by omega), rfl⟩, rfl⟩
    · obtain ⟨x, hx, hcell⟩ := hc (p % l) (Nat.mod_lt _ h0)
      obtain ⟨y, hy, hcell2⟩ := hc ((p * 7 + 3) % l) (Nat.mod_lt _ h0)
      exact take_far b o l c p n _ _ _ x y w h0 h1 hn hn2 hpl hp hx hy rfl rfl rfl hcell hcell2
end Go.Proofs.Ytaeanelfpaphiab
