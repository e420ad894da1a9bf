import Derived.Test.YtenggagjgmonoaaDoorOwn
import Derived.Test.YtenggagjgmonoaaDoorPure7
import Derived.Test.YtenggagjgmonoaaDoorChecked
import Derived.WalkKit
import Derived.ProofKit
import Derived.WalkSpells
import Derived.WalkLawsBesides
import Derived.Outline
import Derived.Laws.BytesArg
import Derived.Laws.BitsAllLaws
import Derived.Deep.RegionHeld3
namespace Go.Proofs.YtenggagjgmonoaaDoor
open Go.RowKit
set_option linter.unusedVariables false

theorem infoU8x : (Tryd.prog.info? 5).map (fun i => (i.zero, i.size, i.bytes)) = some (some (.int .u8 0), 1, 1) := by kernel_rfl
theorem xorB_take (a b : ByteArray) (j : Nat) (ha : j < a.size) (hb : j < b.size) : (xorB (byt a) (byt b)).take (j + 1) = (xorB (byt a) (byt b)).take j ++ [((a[j].toNat ^^^ b[j].toNat : Nat) : Int)] := by
  rw [List.take_succ_eq_append_getElem (by rw [xorB_length, byt_length, byt_length]; omega)]
  simp [xorB, byt]
  rfl

set_option maxRecDepth 100000 in
set_option maxHeartbeats 1000000 in
theorem bothS_any (a b : ByteArray) (w : World) (ha : a.size ≤ 1000) (hab : a.size ≤ b.size) :
    Calls Tryd.prog 21 #[.string a, .string b] w fun e w' => e = .returned (.string (strOfNums (xorB (byt a) (byt b)))) ∧ Below w.heap.size w w' := by
  obtain ⟨i0, hi, hz0, hz1, hz2⟩ := info_parts infoU8x
  have hlen : (xorB (byt a) (byt b)).length = a.size := by rw [xorB_length, byt_length, byt_length]; omega
  have htk := xorB_take a b
  generalize xorB (byt a) (byt b) = L at *
  go_enter Tryd.func21, Tryd.ntmps21
  go_wp2
  go_loopw [5, 6] (fun v i wr => ∃ j g cap : Nat, j ≤ a.size ∧ i = .int .i64 (j : Int) ∧ v = .slice (some ⟨g, 0, none⟩) j cap ∧ Row wr w.heap.size g j cap ((L.take j).map (Value.int .u8)) ∧ Below w.heap.size w wr) (fun _ i _ => a.size - (intOf i).toNat)
  case atStart => exact ⟨0, w.heap.size, 0, by omega, rfl, rfl, Row.of_block (n := 0) (cs := #[]) (heap_alloc_new w _) (Nat.le_refl _) (by simp) (by simp), (Below.refl _ _).alloc (Nat.le_refl _) _⟩
  case round =>
    obtain ⟨j, g1, cap1, hj, rfl, rfl, hrow, hbl⟩ := hrel
    have hsz1 : w.heap.size ≤ wr.heap.size := hbl.size
    by_cases hlt : j < a.size
    · have hlt2 : j < b.size := by omega
      have hlti : (j : Int) < (a.size : Int) := by omega
      have hlti2 : (j : Int) < (b.size : Int) := by omega
      have ex := u8_xor_nat a[j].toNat b[j].toNat a[j].toNat_lt b[j].toNat_lt
      have ht := htk j hlt hlt2
      generalize a[j].toNat ^^^ b[j].toNat = z at *
      have tj : ((j : Int)).toNat = j := by omega
      go_wp2
      go_region_held3 (fun _ => True) (trivial)
        ((refine step_append_row (by rfl) _ _ _ (by rfl) w.heap.size 5 i0 _ 1 Tryd.underlying40 hi hz0 hz1 hz2 rfl g1 j cap1 ((L.take j).map (Value.int .u8)) (by rfl) (hrow.alloc _).drew ⟨wr.heap.size, 0, none⟩ 1 1 [.int .u8 z] (by rfl) (by rfl) (World.news_of_block (cs := #[.int .u8 z]) (t := 5) (fr := (0, 0)) (heap_alloc_new wr _)) (by simp [Value.oneCell']) (by unfold maxLen; omega) (by omega) (by simp; omega) (wr.heap.size + 1) (by simp) ?_; intro g3 cap3 w3 hrow3 hgr3 _ _))
      all_goals go_wp2
      all_goals
        have R1 : Row w3 w.heap.size g3 (j + 1) cap3 ((L.take (j + 1)).map (Value.int .u8)) := by rw [ht, List.map_append]; exact hrow3
        have R2 : Below w.heap.size w w3 := ((hbl.alloc hsz1 _).drew).grown hgr3 (by simp; omega) (fun r hr => by simp at hr; have := hrow.lo; omega)
        exact ⟨⟨j + 1, g3, cap3, by omega, by go_num, rfl, R1, R2⟩, by simp [intOf]; omega⟩
    · obtain rfl : j = a.size := by omega
      rw [List.take_of_length_le (by omega)] at hrow
      have hcv := run_convert_bytes_arg (P := Tryd.prog) wr 40 5 Tryd.underlying40 Tryd.underlying5 g1 0 a.size cap1 L hlen (fun i h => by rw [Nat.zero_add]; exact hrow.cell i h) 9 Tryd.underlying9
      go_wp2
      go_ret
      exact ⟨rfl, hbl⟩
end Go.Proofs.YtenggagjgmonoaaDoor
