import Derived.Test.YtagnikeaellbiaaRetU
import Derived.Test.YtagnikeaellbiaaStrP
import Derived.Test.YtagnikeaellbiaaBe
import Derived.Test.YtagnikeaellbiaaWordS
namespace Go.Proofs.Ytagnikeaellbiaa
open Go.RowKit
set_option linter.unusedVariables false


set_option maxRecDepth 100000 in
set_option maxHeartbeats 1000000 in
/-- the program's word of eight bytes -/
theorem wdI_any (s : ByteArray) (w : World) (hs : s.size = 8) :
    Calls Try.prog 18 #[.string s] w fun e w' => e = .returned (.int .u64 (numL (byt s) : Nat)) ∧ w = w' := by
  obtain ⟨c, hc⟩ : ∃ c, Hid (c = numL (byt s)) := ⟨_, rfl⟩
  rw [← hc.out]
  go_enter Try.func18, Try.ntmps18
  go_wp2
  go_loop [3, 7] (fun rv iv => ∃ (k r : Nat), k ≤ 8 ∧ iv = .int .i64 (k : Int) ∧ rv = .int .u64 (r : Int) ∧ Hid (r = numL ((byt s).take k))) (fun _ i => 8 - (intOf i).toNat)
  case atStart => exact ⟨0, 0, by omega, rfl, rfl, by simp [Hid, numL]⟩
  case round =>
    obtain ⟨k, r, hk, rfl, rfl, hr⟩ := hrel
    by_cases hlt : k < 8
    · have hlt' : k < s.size := by omega
      have hlti : (k : Int) < (s.size : Int) := by omega
      have hv := s[k].toNat_lt
      have hl := numL_take_lt s k hlt
      rw [← hr.out] at hl
      have e0 : IntKind.u64.wrap (s[k].toNat : Int) = (s[k].toNat : Int) := by simp only [IntKind.wrap_u64]; omega
      have e1 := or_byte r s[k]
      rw [Nat.mod_eq_of_lt (show r * 256 < 18446744073709551616 by omega)] at e1
      have hn : Hid (r * 256 + s[k].toNat = numL ((byt s).take (k + 1))) := by simp only [Hid]; rw [numL_take s k hlt', ← hr.out]
      generalize r * 256 + s[k].toNat = r' at *
      clear hl hv
      go_wp2
      go_round
      case rel => exact ⟨k + 1, r', by omega, by go_num, rfl, hn⟩
      case measure => simp [intOf]; omega
    · obtain rfl : k = 8 := by omega
      rw [List.take_of_length_le (by rw [byt_length]; omega)] at hr
      go_wp2
      go_ret
      exact ⟨ret_u64 (by rw [hc.out, hr.out]), rfl⟩

set_option maxRecDepth 100000 in
theorem putI_any (n : Nat) (w : World) (hn : n < 18446744073709551616) :
    Calls Try.prog 12 #[.int .u64 n] w fun e w' => e = .returned (.string (strOfNums (be8 n))) ∧ Below w.heap.size w w' := by
  have L := fun w => beI_any (n : Int) 8 w (by omega) (by omega) (by omega) (by omega)
  rw [beTo8] at L
  clear hn
  go_enter Try.func12, Try.ntmps12
  go_wp2_with fail
  refine (L _).mono ?_
  rintro e w' ⟨rfl, hb⟩
  go_wp2
  go_ret
  exact ⟨rfl, hb⟩
end Go.Proofs.Ytagnikeaellbiaa
