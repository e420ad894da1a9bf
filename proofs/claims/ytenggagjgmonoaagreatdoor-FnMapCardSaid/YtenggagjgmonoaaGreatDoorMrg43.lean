import Derived.Test.YtenggagjgmonoaaGreatDoorChecked
import Derived.WalkKit
import Derived.ProofKit
import Derived.WalkSpells
import Derived.WalkLawsBesides
import Derived.Test.YtenggagjgmonoaaGreatDoorMrg1
import Derived.Deep.RegionHeld3
import Derived.Laws.ResultCell
import Derived.Test.YtenggagjgmonoaaGreatDoorMrg33
import Derived.Test.YtenggagjgmonoaaGreatDoorMrg12
import Derived.Test.YtenggagjgmonoaaGreatDoorMrg34
namespace Go.Proofs.YtenggagjgmonoaaGreatDoor
open Go.RowKit
set_option linter.unusedVariables false

def nm (m x : Nat) : Value := .agg #[.int .u64 m, .int .u64 x]

set_option maxRecDepth 100000 in
theorem valI (m : Nat) (w : World) :
    Calls Tryz.prog 114 #[.int .u64 m] w fun e w' => e = .returned (.int .u64 m) ∧ w = w' := by
  go_enter Tryz.func114, Tryz.ntmps114
  go_wp2
  go_ret
  exact ⟨rfl, rfl⟩

theorem methM (m : Int) (w : World) : (method 264 65 (.int .u64 m) "loop.example/s02095/impl.value").run Tryz.prog w = .ok (114, .int .u64 m) w := by kernel_rfl

theorem fldM (x y : Int) (w : World) : (Instr.field 67 (.agg #[.int .u64 x, .int .u64 y]) 1).run Tryz.prog w = .ok (.int .u64 y) w := by kernel_rfl

set_option maxRecDepth 100000 in
theorem redI_any (a m : Nat) (w : World) (h0 : m ≠ 0) :
    Calls Tryz.prog 48 #[.int .u64 a, .int .u64 m] w fun e w' => e = .returned (nm m (a % m)) ∧ w' = w.alloc (.cells #[.int .u64 m, .int .u64 (a % m : Nat)] 67) := by
  have hm := methM m
  have z0 : ¬ (m = 0) := h0
  go_enter Tryz.func48, Tryz.ntmps48
  go_wp2_with fail
  refine (valI m _).mono ?_
  rintro e w' ⟨rfl, rfl⟩
  go_wp2
  refine bodyPost_ret (v := nm m (a % m)) (by simp [results, Tryz.results48, go_sem, nm]) rfl ⟨rfl, by simp⟩
end Go.Proofs.YtenggagjgmonoaaGreatDoor

namespace Go.Proofs.YtenggagjgmonoaaGreatDoor
open Go.RowKit
set_option linter.unusedVariables false


theorem infoG : (Tryz.prog.info? 67).map (fun i => (i.zero, i.size, i.bytes)) = some (some (.agg #[.int .u64 0, .int .u64 0]), 2, 16) := by kernel_rfl
def cellsG (m : Int) (H : List Int) : List Value := H.flatMap fun x => [.int .u64 m, .int .u64 x]
theorem cellsG_app (m : Int) (l r : List Int) : cellsG m (l ++ r) = cellsG m l ++ cellsG m r := by simp [cellsG]

set_option maxRecDepth 100000 in
set_option maxHeartbeats 2000000 in
theorem h2nG_yes (msg tag : ByteArray) (m : Nat) (c : Nat) (w : World) (hT : TabK w) (hm : m < 18446744073709551616) (h : okH msg tag m c) :
    Calls Tryz.prog 28 #[.string msg, .string tag, .int .u64 m, .int .i64 c] w fun e w' => ∃ v, e = .returned (.tuple #[v, .bool true]) ∧ w'.ownsRow w.heap.size 67 2 v c (cellsG m (h2f (byt msg) (byt tag) m c)) ∧ Below w.heap.size w w' := by
  obtain ⟨i0, hi, hz0, hz1, hz2⟩ := info_parts infoG
  obtain ⟨h1, h2, h3, h4⟩ := h
  obtain ⟨N, hN⟩ : ∃ N : Nat, N = 24 * c := ⟨_, rfl⟩
  have hNi : (N : Int) = 24 * (c : Int) := by omega
  have X := fun w hT => exmI_yes msg tag N w hT (by rw [hNi]; exact h4)
  rw [hNi] at X
  have hlen := expM_length (byt msg) (byt tag) N
  have hby := expM_lt (byt msg) (byt tag) N
  have hll := h2f_length (byt msg) (byt tag) m c
  have htk := h2f_take (byt msg) (byt tag) m c
  rw [← hN] at htk
  generalize expM (byt msg) (byt tag) N = L at *
  generalize h2f (byt msg) (byt tag) m c = H at *
  have hzS : (strOfNums L).size = 24 * c := by rw [strOfNums_size]; omega
  have g1 : ¬ (c : Int) < 1 := by omega
  have g2 : ¬ (340 : Int) < (c : Int) := by omega
  have hme := methM m
  go_enter Tryz.func28, Tryz.ntmps28
  go_wp2_with fail
  refine (X _ hT).mono ?_
  rintro e W1 ⟨rfl, hb0⟩
  clear X
  go_wp2
  go_loopw [12, 13, 14, 32] (fun ov _ _ iv wr => ∃ k : Nat, k ≤ c ∧ iv = .int .i64 (k : Int) ∧ wr.ownsRow w.heap.size 67 2 ov k (cellsG m (H.take k)) ∧ Below w.heap.size w wr) (fun _ _ _ i _ => c - (intOf i).toNat)
  case atStart => exact ⟨0, by omega, rfl, World.ownsRow_nil _ _ _ _, hb0⟩
  case round =>
    clear hb0
    obtain ⟨k, hk, rfl, hown, hbl⟩ := hrel
    have hsz := hbl.size
    by_cases hlt : k < c
    · have hli : (k : Int) < (c : Int) := by omega
      have q1 : IntKind.i64.wrap (24 * (k : Int)) = 24 * (k : Int) := i64_in _ (by omega) (by omega)
      have q2 : IntKind.i64.wrap ((k : Int) + 1) = (k : Int) + 1 := i64_in _ (by omega) (by omega)
      have q5 : IntKind.i64.wrap (24 * ((k : Int) + 1)) = 24 * ((k : Int) + 1) := i64_in _ (by omega) (by omega)
      have q3 : (0 : Int) ≤ 24 * (k : Int) := by omega
      have q6 : 24 * (k : Int) ≤ 24 * ((k : Int) + 1) := by omega
      have q4 : 24 * ((k : Int) + 1) ≤ ((strOfNums L).size : Int) := by omega
      have t1 : (24 * (k : Int)).toNat = 24 * k := by omega
      have t2 : (24 * ((k : Int) + 1)).toNat = 24 * k + 24 := by omega
      have hp := piece_length (l := L) (c := c) (by omega) k hlt
      have R := fun w => reduI_any (strOfNums (piece L k)) m w (by rw [strOfNums_size]; omega) hm h3
      rw [byt_str _ (piece_lt hby k)] at R
      have hpe := str_piece L k
      have ht := htk k hlt
      obtain ⟨z, hz⟩ : ∃ z : Nat, z = numL (piece L k) % m := ⟨_, rfl⟩
      have D := fun w => (redI_any z m w h3).mono (fun e w' ⟨h, h'⟩ => (⟨h, h' ▸ (Below.refl _ w).alloc (Nat.le_refl _) _⟩ : e = _ ∧ Below w.heap.size w w'))
      rw [← hz] at R ht
      have hzm : z < m := by rw [hz]; exact Nat.mod_lt _ (by omega)
      clear hz
      rw [Nat.mod_eq_of_lt hzm] at D
      unfold nm at D
      go_wp2_with fail
      refine (valI m _).mono ?_
      rintro e w' ⟨rfl, rfl⟩
      go_wp2_with fail
      refine (R _).mono ?_
      rintro e W2 ⟨rfl, hb2⟩
      go_wp2_with fail
      refine (D _).mono ?_
      rintro e W3 ⟨rfl, hb3⟩
      have hb4 : Below wr.heap.size wr W3 := hb2.trans (hb3.mono hb2.size)
      have hown4 := own_keep hown hb4
      have hbl4 := hbl.trans (hb4.mono hsz)
      have hsz4 := hbl4.size
      clear R D hb2 hb3 hb4 hown hbl
      go_wp2_with (first
        | (at_builtin; refine wpList_append_own _ rfl _ _ 62 rfl w.heap.size 67 i0 (.agg #[.int .u64 0, .int .u64 0]) 2 16 Tryz.underlying62 hi hz0 hz1 hz2 rfl (by omega) _ k (cellsG m (H.take k)) rfl (hown4.alloc _) ⟨W3.heap.size, 0, none⟩ 1 1 [.int .u64 m, .int .u64 z] rfl rfl (World.news_of_block (cs := #[.int .u64 m, .int .u64 z]) (heap_alloc_new W3 _)) (by simp [Value.oneCell']) (by unfold maxLen; omega) (by omega) (by simp; omega) ?_; intro v2 w2 hown2 hgr2 _)
        | go_in)
      have R1 : w2.ownsRow w.heap.size 67 2 v2 (k + 1) (cellsG m (H.take (k + 1))) := by rw [ht, cellsG_app]; exact hown2
      have R2 : Below w.heap.size w w2 := (hbl4.alloc hsz4 _).grown hgr2 (by simp; omega) (fun r hr => ((hown4.alloc (.cells #[.int .u64 m, .int .u64 z] 67)).lt r hr).1)
      go_roundw
      case rel =>
        first
          | exact ⟨k + 1, by omega, by go_num, R1, R2⟩
          | ((repeat apply Exists.intro); exact ⟨⟨k + 1, by omega, by go_num, R1, R2⟩, rfl⟩)
      case measure => simp [intOf]; omega
    · obtain rfl : k = c := by omega
      rw [List.take_of_length_le (by omega)] at hown
      go_wp2
      go_ret2
      exact ⟨_, rfl, hown, hbl⟩

set_option maxRecDepth 100000 in
theorem h2nG_no (msg tag : ByteArray) (m : Nat) (c : Int) (w : World) (hm0 : m ≠ 0) (h : ¬ okH msg tag m c) :
    Calls Tryz.prog 28 #[.string msg, .string tag, .int .u64 m, .int .i64 c] w fun e w' => e = .returned (.tuple #[.slice none 0 0, .bool false]) ∧ Below w.heap.size w w' := by
  by_cases h1 : c < 1
  · go_enter Tryz.func28, Tryz.ntmps28
    go_wp2
    go_ret2
    exact ⟨rfl, Below.refl _ _⟩
  · by_cases h2 : 340 < c
    · go_enter Tryz.func28, Tryz.ntmps28
      go_wp2
      go_ret2
      exact ⟨rfl, Below.refl _ _⟩
    · have X := fun w => exmI_no msg tag (24 * c) w (fun hh => h ⟨by omega, by omega, hm0, hh⟩)
      have q1 : IntKind.i64.wrap (24 * c) = 24 * c := i64_in _ (by omega) (by omega)
      go_enter Tryz.func28, Tryz.ntmps28
      go_wp2_with fail
      refine (X _).mono ?_
      rintro e W1 ⟨rfl, hb1⟩
      go_wp2
      go_ret2
      exact ⟨rfl, hb1⟩
end Go.Proofs.YtenggagjgmonoaaGreatDoor
