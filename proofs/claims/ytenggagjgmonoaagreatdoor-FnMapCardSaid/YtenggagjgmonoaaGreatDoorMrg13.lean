import Derived.Test.YtenggagjgmonoaaGreatDoorMrg1
import Derived.Test.YtenggagjgmonoaaGreatDoorMrg10
import Derived.Test.YtenggagjgmonoaaGreatDoorChecked
import Derived.WalkKit
import Derived.ProofKit
import Derived.WalkSpells
import Derived.WalkLawsBesides
import Derived.Outline
import Derived.Laws.BytesArg
import Derived.Laws.BitsAllLaws
import Derived.Deep.RegionHeld3
namespace Go.Proofs.YtenggagjgmonoaaGreatDoor
open Go.RowKit
set_option linter.unusedVariables false

theorem infoU8x : (Tryz.prog.info? 5).map (fun i => (i.zero, i.size, i.bytes)) = some (some (.int .u8 0), 1, 1) := by kernel_rfl
theorem xorB_take (a b : ByteArray) (j : Nat) (ha : j < a.size) (hb : j < b.size) : (xorB (byt a) (byt b)).take (j + 1) = (xorB (byt a) (byt b)).take j ++ [((a[j].toNat ^^^ b[j].toNat : Nat) : Int)] := by
  rw [List.take_succ_eq_append_getElem (by rw [xorB_length, byt_length, byt_length]; omega)]
  simp [xorB, byt]
  rfl

set_option maxRecDepth 100000 in
set_option maxHeartbeats 1000000 in
theorem bothS_any (a b : ByteArray) (w : World) (ha : a.size ≤ 1000) (hab : a.size ≤ b.size) :
    Calls Tryz.prog 62 #[.string a, .string b] w fun e w' => e = .returned (.string (strOfNums (xorB (byt a) (byt b)))) ∧ Below w.heap.size w w' := by
  obtain ⟨i0, hi, hz0, hz1, hz2⟩ := info_parts infoU8x
  have hlen : (xorB (byt a) (byt b)).length = a.size := by rw [xorB_length, byt_length, byt_length]; omega
  have htk := xorB_take a b
  generalize xorB (byt a) (byt b) = L at *
  go_enter Tryz.func62, Tryz.ntmps62
  go_wp2
  go_loopw [5, 6] (fun v i wr => ∃ j g cap : Nat, j ≤ a.size ∧ i = .int .i64 (j : Int) ∧ v = .slice (some ⟨g, 0, none⟩) j cap ∧ Row wr w.heap.size g j cap ((L.take j).map (Value.int .u8)) ∧ Below w.heap.size w wr) (fun _ i _ => a.size - (intOf i).toNat)
  case atStart => exact ⟨0, w.heap.size, 0, by omega, rfl, rfl, Row.of_block (n := 0) (cs := #[]) (heap_alloc_new w _) (Nat.le_refl _) (by simp) (by simp), (Below.refl _ _).alloc (Nat.le_refl _) _⟩
  case round =>
    obtain ⟨j, g1, cap1, hj, rfl, rfl, hrow, hbl⟩ := hrel
    have hsz1 : w.heap.size ≤ wr.heap.size := hbl.size
    by_cases hlt : j < a.size
    · have hlt2 : j < b.size := by omega
      have hlti : (j : Int) < (a.size : Int) := by omega
      have hlti2 : (j : Int) < (b.size : Int) := by omega
      have ex := u8_xor_nat a[j].toNat b[j].toNat a[j].toNat_lt b[j].toNat_lt
      have ht := htk j hlt hlt2
      generalize a[j].toNat ^^^ b[j].toNat = z at *
      have tj : ((j : Int)).toNat = j := by omega
      go_wp2
      go_region_held3 (fun _ => True) (trivial)
        ((refine step_append_row (by rfl) _ _ _ (by rfl) w.heap.size 5 i0 _ 1 Tryz.underlying22 hi hz0 hz1 hz2 rfl g1 j cap1 ((L.take j).map (Value.int .u8)) (by rfl) (hrow.alloc _).drew ⟨wr.heap.size, 0, none⟩ 1 1 [.int .u8 z] (by rfl) (by rfl) (World.news_of_block (cs := #[.int .u8 z]) (t := 5) (fr := (0, 0)) (heap_alloc_new wr _)) (by simp [Value.oneCell']) (by unfold maxLen; omega) (by omega) (by simp; omega) (wr.heap.size + 1) (by simp) ?_; intro g3 cap3 w3 hrow3 hgr3 _ _))
      all_goals go_wp2
      all_goals
        have R1 : Row w3 w.heap.size g3 (j + 1) cap3 ((L.take (j + 1)).map (Value.int .u8)) := by rw [ht, List.map_append]; exact hrow3
        have R2 : Below w.heap.size w w3 := ((hbl.alloc hsz1 _).drew).grown hgr3 (by simp; omega) (fun r hr => by simp at hr; have := hrow.lo; omega)
        exact ⟨⟨j + 1, g3, cap3, by omega, by go_num, rfl, R1, R2⟩, by simp [intOf]; omega⟩
    · obtain rfl : j = a.size := by omega
      rw [List.take_of_length_le (by omega)] at hrow
      have hcv := run_convert_bytes_arg (P := Tryz.prog) wr 22 5 Tryz.underlying22 Tryz.underlying5 g1 0 a.size cap1 L hlen (fun i h => by rw [Nat.zero_add]; exact hrow.cell i h) 9 Tryz.underlying9
      go_wp2
      go_ret
      exact ⟨rfl, hbl⟩
end Go.Proofs.YtenggagjgmonoaaGreatDoor

namespace Go.Proofs.YtenggagjgmonoaaGreatDoor
open Go.RowKit
set_option linter.unusedVariables false

def strN : Value → Nat
  | .string s => s.size
  | _ => 0
theorem zeros_app (m n : Nat) : strOfNums (List.replicate m 0) ++ strOfNums (List.replicate n 0) = strOfNums (List.replicate (m + n) 0) := by
  rw [← List.replicate_append_replicate]
  apply ByteArray.ext
  simp [strOfNums]

set_option maxRecDepth 100000 in
set_option maxHeartbeats 1000000 in
/-- n bytes of 0 -/
theorem lonZ_any : ∀ (n : Nat), n ≤ 65536 → ∀ (w : World),
    Calls Tryz.prog 45 #[.int .i64 n, .string ⟨#[0]⟩] w fun e w' => e = .returned (.string (strOfNums (List.replicate n 0))) ∧ w = w' := by
  intro n
  induction n using Nat.strongRecOn with
  | _ n ih =>
  intro hn w
  by_cases h0 : n = 0
  · subst h0
    go_enter Tryz.func45, Tryz.ntmps45
    go_wp2
    go_loop [5] (fun v => v = .string ByteArray.empty) (fun _ => 0)
    case atStart => rfl
    case round =>
      subst hrel
      go_wp2
      go_ret
      exact ⟨rfl, rfl⟩
  · have hpos : (0 : Int) < (n : Int) := by omega
    go_enter Tryz.func45, Tryz.ntmps45
    go_wp2
    go_loop [5] (fun v => ∃ (s : ByteArray) (m : Nat), v = .string s ∧ s = strOfNums (List.replicate m 0) ∧ s.size = m ∧ 1 ≤ m ∧ m ≤ n) (fun v => n + 2 - strN v)
    case atStart => exact ⟨⟨#[0]⟩, 1, rfl, rfl, rfl, by omega, by omega⟩
    case round =>
      obtain ⟨s, m, rfl, hs, hm, h1, h2⟩ := hrel
      have hsi : (s.size : Int) = (m : Int) := by omega
      by_cases hd : m * 2 ≤ n
      · have hmi : (m : Int) * 2 ≤ (n : Int) := by omega
        have hsz : (s ++ s).size = m + m := by simp; omega
        have hss : Hid (s ++ s = strOfNums (List.replicate (m + m) 0)) := by simp only [Hid]; rw [hs, zeros_app]
        clear hs
        go_wp2
        go_round
        case rel => exact ⟨s ++ s, m + m, rfl, hss.out, hsz, by omega, by omega⟩
        case measure => simp only [strN]; omega
      · have hmi : ¬ ((m : Int) * 2 ≤ (n : Int)) := by omega
        by_cases hl : m < n
        · have hli : (m : Int) < (n : Int) := by omega
          have I := ih (n - m) (by omega) (by omega)
          have e1 : ((n - m : Nat) : Int) = (n : Int) - (m : Int) := by omega
          rw [e1] at I
          have hss : Hid (s ++ strOfNums (List.replicate (n - m) 0) = strOfNums (List.replicate n 0)) := by simp only [Hid]; rw [hs, zeros_app]; congr 2; omega
          clear hs e1 ih
          have hrz : (strOfNums (List.replicate (n - m) 0)).size ≤ 65536 := by rw [strOfNums_size, List.length_replicate]; omega
          generalize strOfNums (List.replicate (n - m) 0) = r at *
          have hsz2 : s.size ≤ 65536 := by omega
          go_wp2_with fail
          refine (I _).mono ?_
          rintro e w' ⟨rfl, rfl⟩
          clear I
          go_wp2
          go_ret
          exact ⟨by rw [← hss.out]; rfl, rfl⟩
        · have hli : ¬ ((m : Int) < (n : Int)) := by omega
          obtain rfl : m = n := by omega
          have hss : Hid (s = strOfNums (List.replicate m 0)) := hs
          clear hs
          go_wp2
          go_ret
          exact ⟨by rw [← hss.out]; rfl, rfl⟩
end Go.Proofs.YtenggagjgmonoaaGreatDoor
