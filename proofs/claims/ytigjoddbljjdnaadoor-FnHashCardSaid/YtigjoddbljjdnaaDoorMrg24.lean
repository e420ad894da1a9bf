import Derived.Test.YtigjoddbljjdnaaDoorMrg11
import Derived.Test.YtigjoddbljjdnaaDoorMrg23
namespace Go.Proofs.YtigjoddbljjdnaaDoor
open Go.RowKit
set_option linter.unusedVariables false

theorem numL_lt (l : List Int) (h : ∀ x ∈ l, 0 ≤ x ∧ x < 256) : numL l < 256 ^ l.length := by
  suffices ∀ (l : List Int) (a n : Nat), (∀ x ∈ l, 0 ≤ x ∧ x < 256) → a < 256 ^ n → l.foldl (fun r x => r * 256 + x.toNat) a < 256 ^ (n + l.length) by
    have := this l 0 0 h (by decide)
    rwa [Nat.zero_add] at this
  intro l
  induction l with
  | nil => intro a n _ h; simpa using h
  | cons x l ih =>
    intro a n hx ha
    have := ih (a * 256 + x.toNat) (n + 1) (fun y hy => hx y (List.mem_cons_of_mem _ hy)) (by
      have := hx x List.mem_cons_self
      rw [Nat.pow_succ]; omega)
    rw [List.foldl_cons, List.length_cons, show n + (l.length + 1) = n + 1 + l.length by omega]
    exact this
theorem numL_take_lt (s : ByteArray) (k : Nat) (hk : k < 8) : numL ((byt s).take k) < 72057594037927936 := by
  have h1 := numL_lt ((byt s).take k) (fun x hx => byt_lt s x (List.mem_of_mem_take hx))
  have h2 : (256 : Nat) ^ ((byt s).take k).length ≤ 256 ^ 7 := Nat.pow_le_pow_right (by decide) (by rw [List.length_take]; omega)
  have : (256 : Nat) ^ 7 = 72057594037927936 := by decide
  omega
theorem numL_8 (s : ByteArray) (h : s.size = 8) : numL (byt s) < 18446744073709551616 := by
  have h1 := numL_lt (byt s) (byt_lt s)
  rw [byt_length, h] at h1
  have : (256 : Nat) ^ 8 = 18446744073709551616 := by decide
  omega

/-- a byte behind a word that is moved up -/
theorem or_byte (z : Nat) (v : UInt8) : bits .or .u64 (IntKind.u64.wrap ((z : Int) * 256)) ((v.toNat : Nat) : Int) = ((z * 256 % 18446744073709551616 + v.toNat : Nat) : Int) := by
  have hv := v.toNat_lt
  have e : IntKind.u64.wrap ((z : Int) * 256) = ((z * 256 % 18446744073709551616 : Nat) : Int) := by rw [IntKind.wrap_u64]; omega
  rw [e, orN _ _ (Nat.mod_lt _ (by decide)) (by omega)]
  have e2 : z * 256 % 18446744073709551616 = z % 72057594037927936 * 2 ^ 8 := by omega
  rw [e2, Dv.or_add _ _ 8 (by omega)]
end Go.Proofs.YtigjoddbljjdnaaDoor

namespace Go.Proofs.YtigjoddbljjdnaaDoor
open Go.RowKit
set_option linter.unusedVariables false


set_option maxRecDepth 100000 in
set_option maxHeartbeats 1000000 in
theorem reduI_any (s : ByteArray) (m : Nat) (w : World) (hs : s.size ≤ 65535) (hm : m < 18446744073709551616) (h0 : m ≠ 0) :
    Calls Tryd.prog 18 #[.string s, .int .u64 m] w fun e w' => e = .returned (.int .u64 (numL (byt s) % m : Nat)) ∧ Below w.heap.size w w' := by
  obtain ⟨c, hc⟩ : ∃ c, Hid (c = numL (byt s) % m) := ⟨_, rfl⟩
  rw [← hc.out]
  have z0 : ((m : Int) == 0) = false := by simp; omega
  have z1 : ¬ ((65535 : Int) < (s.size : Int)) := by omega
  go_enter Tryd.func18, Tryd.ntmps18
  go_wp2
  go_loopw [5, 16] (fun rv iv wr => ∃ (k r : Nat), k ≤ s.size ∧ r < m ∧ iv = .int .i64 (k : Int) ∧ rv = .int .u64 (r : Int) ∧ Hid (r = numL ((byt s).take k) % m) ∧ Below w.heap.size w wr) (fun _ i _ => s.size - (intOf i).toNat)
  case atStart => exact ⟨0, 0, by omega, by omega, rfl, rfl, by simp [Hid, numL], Below.refl _ _⟩
  case round =>
    obtain ⟨k, r, hk, hrm, rfl, rfl, hr, hbl⟩ := hrel
    by_cases hlt : k < s.size
    · have hlti : (k : Int) < (s.size : Int) := by omega
      have hv := s[k].toNat_lt
      have e0 : IntKind.u64.wrap (s[k].toNat : Int) = (s[k].toNat : Int) := by simp only [IntKind.wrap_u64]; omega
      have e1 := or_byte r s[k]
      have e2 : (r : Int) / 72057594037927936 = ((r / 72057594037927936 : Nat) : Int) := by omega
      have D := fun w => div_any (r / 72057594037927936) (r * 256 % 18446744073709551616 + s[k].toNat) m w (by omega) hm (by omega)
      have e3 : r / 72057594037927936 * 18446744073709551616 + (r * 256 % 18446744073709551616 + s[k].toNat) = r * 256 + s[k].toNat := by omega
      rw [e3] at D
      have hn : Hid ((r * 256 + s[k].toNat) % m = numL ((byt s).take (k + 1)) % m) := by
        simp only [Hid]; rw [numL_take s k hlt, hr.out, Nat.add_mod, Nat.mod_mul_mod, ← Nat.add_mod]
      have hd := Nat.mod_lt (r * 256 + s[k].toNat) (show 0 < m by omega)
      generalize (r * 256 + s[k].toNat) % m = r' at *
      generalize r / 72057594037927936 = hi at *
      generalize r * 256 % 18446744073709551616 + s[k].toNat = lo at *
      clear hv e3 hs hm h0
      go_wp2_with fail
      refine (D _).mono ?_
      rintro e w' ⟨⟨z, rfl⟩, hw⟩
      have hb2 : Below w.heap.size w w' := by
        rcases hw with rfl | rfl
        · exact hbl
        · exact hbl.drew
      clear hw
      go_wp2
      go_roundw
      case rel => exact ⟨k + 1, r', by omega, hd, by go_num, rfl, hn, hb2⟩
      case measure => simp [intOf]; omega
    · obtain rfl : k = s.size := by omega
      rw [List.take_of_length_le (by rw [byt_length]; omega)] at hr
      go_wp2
      go_ret
      exact ⟨congrArg (fun z : Int => Ending.returned (Value.int .u64 z)) (by rw [hc.out, hr.out]), hbl⟩
set_option maxRecDepth 100000 in
theorem reduI_zero (s : ByteArray) (w : World) :
    Calls Tryd.prog 18 #[.string s, .int .u64 0] w fun e w' => e = .returned (.int .u64 0) ∧ Below w.heap.size w w' := by
  go_enter Tryd.func18, Tryd.ntmps18
  go_wp2
  go_ret
  exact ⟨rfl, Below.refl _ _⟩
set_option maxRecDepth 100000 in
theorem reduI_long (s : ByteArray) (m : Nat) (w : World) (hs : ¬ s.size ≤ 65535) (h0 : m ≠ 0) :
    Calls Tryd.prog 18 #[.string s, .int .u64 m] w fun e w' => e = .returned (.int .u64 0) ∧ Below w.heap.size w w' := by
  have z0 : ((m : Int) == 0) = false := by simp; omega
  have z1 : ((65535 : Int) < (s.size : Int)) := by omega
  clear hs h0
  go_enter Tryd.func18, Tryd.ntmps18
  go_wp2
  go_ret
  exact ⟨rfl, Below.refl _ _⟩
end Go.Proofs.YtigjoddbljjdnaaDoor
