import Derived.Test.YtkgaodmbiloggaaDoorHmacS
import Derived.Test.YtkgaodmbiloggaaDoorPure6
namespace Go.Proofs.YtkgaodmbiloggaaDoor
open Go.RowKit
set_option linter.unusedVariables false

set_option maxRecDepth 100000 in
theorem expS_no (key info : ByteArray) (n : Int) (w : World) (hn : n < 0 ∨ 8160 < n) :
    Calls Tryd.prog 13 #[.string key, .string info, .int .i64 n] w fun e w' => e = .returned (.tuple #[.string ⟨#[]⟩, .bool false]) ∧ Below w.heap.size w w' := by
  rcases hn with hn | hn
  · go_enter Tryd.func13, Tryd.ntmps13
    go_wp2
    go_ret2
    exact ⟨rfl, Below.refl _ _⟩
  · have h0 : ¬ n < 0 := by omega
    go_enter Tryd.func13, Tryd.ntmps13
    go_wp2
    go_ret2
    exact ⟨rfl, Below.refl _ _⟩

set_option maxRecDepth 100000 in
set_option maxHeartbeats 1000000 in
theorem expS_yes (key info : ByteArray) (n : Nat) (w : World) (hk : key.size ≤ 1048576) (hi : info.size ≤ 1048576) (hn : n ≤ 8160) :
    Calls Tryd.prog 13 #[.string key, .string info, .int .i64 n] w fun e w' => e = .returned (.tuple #[.string (strOfNums (expF (byt key) (byt info) n)), .bool true]) ∧ Below w.heap.size w w' := by
  have h0 : ¬ ((n : Int) < 0) := by omega
  have h1 : ¬ ((8160 : Int) < (n : Int)) := by omega
  go_enter Tryd.func13, Tryd.ntmps13
  go_wp2
  go_loopw [8, 9, 10] (fun ov tv i wr => ∃ k : Nat, 32 * k ≤ n + 31 ∧ i = .int .i64 ((k : Int) + 1) ∧ tv = .string (strOfNums (tTo (byt key) (byt info) k)) ∧ ov = .string (strOfNums (outTo (byt key) (byt info) k)) ∧ Below w.heap.size w wr) (fun _ _ i _ => 300 - (intOf i).toNat)
  case atStart => exact ⟨0, by omega, rfl, rfl, rfl, Below.refl _ _⟩
  case round =>
    obtain ⟨k, hkn, rfl, rfl, rfl, hbl⟩ := hrel
    have hzo : (strOfNums (outTo (byt key) (byt info) k)).size = 32 * k := by rw [strOfNums_size, outTo_length]
    have hzt : (strOfNums (tTo (byt key) (byt info) k)).size ≤ 32 := by rw [strOfNums_size]; exact tTo_le _ _ _
    by_cases hlt : 32 * k < n
    · have hk255 : k < 255 := by omega
      have hcv := run_convert_bytes_arg (P := Tryd.prog) (wr.alloc (.cells #[.int .u8 ((k : Int) + 1)] 5)) 32 5 Tryd.underlying32 Tryd.underlying5 wr.heap.size 0 1 1 [(k : Int) + 1] rfl (fun i h => by
        obtain rfl : i = 0 := by omega
        rw [cell_of_row _ _ _ _ _ _ (heap_alloc_new wr _)]; rfl) 9 Tryd.underlying9
      have hz1 : (strOfNums [(k : Int) + 1]).size = 1 := by rw [strOfNums_size]; rfl
      have ht1 : Hid (hmacF (byt key) (byt (strOfNums (tTo (byt key) (byt info) k) ++ info ++ strOfNums [(k : Int) + 1])) = tTo (byt key) (byt info) (k + 1)) := by
        simp only [Hid]; rw [byt_append, byt_append, byt_str _ (tTo_lt _ _ _), byt_one k hk255, tTo]
      have ho1 : Hid (strOfNums (outTo (byt key) (byt info) k) ++ strOfNums (tTo (byt key) (byt info) (k + 1)) = strOfNums (outTo (byt key) (byt info) (k + 1))) := by
        simp only [Hid]; rw [str_append', outTo]
      go_wp2_with fail
      refine (hmacS_any key _ _ (by omega) (by rw [ByteArray.size_append, ByteArray.size_append, hz1]; omega)).mono ?_
      rintro e W1 ⟨rfl, hb1⟩
      rw [ht1.out]
      have hzt1 : (strOfNums (tTo (byt key) (byt info) (k + 1))).size = 32 := by rw [strOfNums_size, tTo, hmacF_length]
      have hb2 : Below w.heap.size w W1 := (hbl.alloc hbl.size _).trans (hb1.mono (by have := hbl.size; simp; omega))
      clear hcv hb1
      go_wp2
      go_roundw
      case rel =>
        have R : Value.string (strOfNums (outTo (byt key) (byt info) k) ++ strOfNums (tTo (byt key) (byt info) (k + 1))) = Value.string (strOfNums (outTo (byt key) (byt info) (k + 1))) := by rw [ho1.out]
        first
          | exact ⟨k + 1, by omega, by go_num, rfl, R, hb2⟩
          | ((repeat apply Exists.intro); exact ⟨⟨k + 1, by omega, by go_num, rfl, R, hb2⟩, rfl⟩)
      case measure => simp [intOf]; omega
    · have hkk : k = (n + 31) / 32 := by omega
      have hres : Hid ((strOfNums (outTo (byt key) (byt info) k)).extract 0 n = strOfNums (expF (byt key) (byt info) n)) := by
        simp only [Hid]; rw [str_take, expF, ← hkk]
      clear hkk
      go_wp2
      go_ret2
      refine ⟨?_, hbl⟩
      show Ending.returned (.tuple #[.string ((strOfNums (outTo (byt key) (byt info) k)).extract 0 n), .bool true]) = _
      rw [hres.out]
end Go.Proofs.YtkgaodmbiloggaaDoor
