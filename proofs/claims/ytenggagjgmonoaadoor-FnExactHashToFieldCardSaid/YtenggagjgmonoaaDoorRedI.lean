import Derived.Test.YtenggagjgmonoaaDoorStrP
namespace Go.Proofs.YtenggagjgmonoaaDoor
open Go.RowKit
set_option linter.unusedVariables false


set_option maxRecDepth 100000 in
set_option maxHeartbeats 1000000 in
theorem reduI_any (s : ByteArray) (m : Nat) (w : World) (hs : s.size ≤ 65535) (hm : m < 18446744073709551616) (h0 : m ≠ 0) :
    Calls Tryd.prog 41 #[.string s, .int .u64 m] w fun e w' => e = .returned (.int .u64 (numL (byt s) % m : Nat)) ∧ Below w.heap.size w w' := by
  obtain ⟨c, hc⟩ : ∃ c, Hid (c = numL (byt s) % m) := ⟨_, rfl⟩
  rw [← hc.out]
  have z0 : ((m : Int) == 0) = false := by simp; omega
  have z1 : ¬ ((65535 : Int) < (s.size : Int)) := by omega
  go_enter Tryd.func41, Tryd.ntmps41
  go_wp2
  go_loopw [5, 16] (fun rv iv wr => ∃ (k r : Nat), k ≤ s.size ∧ r < m ∧ iv = .int .i64 (k : Int) ∧ rv = .int .u64 (r : Int) ∧ Hid (r = numL ((byt s).take k) % m) ∧ Below w.heap.size w wr) (fun _ i _ => s.size - (intOf i).toNat)
  case atStart => exact ⟨0, 0, by omega, by omega, rfl, rfl, by simp [Hid, numL], Below.refl _ _⟩
  case round =>
    obtain ⟨k, r, hk, hrm, rfl, rfl, hr, hbl⟩ := hrel
    by_cases hlt : k < s.size
    · have hlti : (k : Int) < (s.size : Int) := by omega
      have hv := s[k].toNat_lt
      have e0 : IntKind.u64.wrap (s[k].toNat : Int) = (s[k].toNat : Int) := by simp only [IntKind.wrap_u64]; omega
      have e1 := or_byte r s[k]
      have e2 : (r : Int) / 72057594037927936 = ((r / 72057594037927936 : Nat) : Int) := by omega
      have D := fun w => div_any (r / 72057594037927936) (r * 256 % 18446744073709551616 + s[k].toNat) m w (by omega) hm (by omega)
      have e3 : r / 72057594037927936 * 18446744073709551616 + (r * 256 % 18446744073709551616 + s[k].toNat) = r * 256 + s[k].toNat := by omega
      rw [e3] at D
      have hn : Hid ((r * 256 + s[k].toNat) % m = numL ((byt s).take (k + 1)) % m) := by
        simp only [Hid]; rw [numL_take s k hlt, hr.out, Nat.add_mod, Nat.mod_mul_mod, ← Nat.add_mod]
      have hd := Nat.mod_lt (r * 256 + s[k].toNat) (show 0 < m by omega)
      generalize (r * 256 + s[k].toNat) % m = r' at *
      generalize r / 72057594037927936 = hi at *
      generalize r * 256 % 18446744073709551616 + s[k].toNat = lo at *
      clear hv e3 hs hm h0
      go_wp2_with fail
      refine (D _).mono ?_
      rintro e w' ⟨⟨z, rfl⟩, hw⟩
      have hb2 : Below w.heap.size w w' := by
        rcases hw with rfl | rfl
        · exact hbl
        · exact hbl.drew
      clear hw
      go_wp2
      go_roundw
      case rel => exact ⟨k + 1, r', by omega, hd, by go_num, rfl, hn, hb2⟩
      case measure => simp [intOf]; omega
    · obtain rfl : k = s.size := by omega
      rw [List.take_of_length_le (by rw [byt_length]; omega)] at hr
      go_wp2
      go_ret
      exact ⟨congrArg (fun z : Int => Ending.returned (Value.int .u64 z)) (by rw [hc.out, hr.out]), hbl⟩
set_option maxRecDepth 100000 in
theorem reduI_zero (s : ByteArray) (w : World) :
    Calls Tryd.prog 41 #[.string s, .int .u64 0] w fun e w' => e = .returned (.int .u64 0) ∧ Below w.heap.size w w' := by
  go_enter Tryd.func41, Tryd.ntmps41
  go_wp2
  go_ret
  exact ⟨rfl, Below.refl _ _⟩
set_option maxRecDepth 100000 in
theorem reduI_long (s : ByteArray) (m : Nat) (w : World) (hs : ¬ s.size ≤ 65535) (h0 : m ≠ 0) :
    Calls Tryd.prog 41 #[.string s, .int .u64 m] w fun e w' => e = .returned (.int .u64 0) ∧ Below w.heap.size w w' := by
  have z0 : ((m : Int) == 0) = false := by simp; omega
  have z1 : ((65535 : Int) < (s.size : Int)) := by omega
  clear hs h0
  go_enter Tryd.func41, Tryd.ntmps41
  go_wp2
  go_ret
  exact ⟨rfl, Below.refl _ _⟩
end Go.Proofs.YtenggagjgmonoaaDoor
