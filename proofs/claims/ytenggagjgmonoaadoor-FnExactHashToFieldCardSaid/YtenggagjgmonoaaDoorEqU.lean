import Derived.Test.YtenggagjgmonoaaDoorOwn
import Derived.Test.YtenggagjgmonoaaDoorPure4
import Derived.Test.YtenggagjgmonoaaDoorChecked
import Derived.WalkKit
import Derived.ProofKit
import Derived.WalkSpells
import Derived.WalkLawsBesides
import Derived.Deep.RegionHeld3
namespace Go.Proofs.YtenggagjgmonoaaDoor
open Go.RowKit
set_option linter.unusedVariables false

set_option maxRecDepth 100000 in
set_option maxHeartbeats 1000000 in
/-- two slices of the same numbers -/
theorem eqU_any (g1 g2 n c1 c2 : Nat) (H : List Int) (w : World) (hn : n ≤ 100000) (h1 : ∀ i, i < n → w.cell? ⟨g1, i, none⟩ = some (.int .u64 (lk H i))) (h2 : ∀ i, i < n → w.cell? ⟨g2, i, none⟩ = some (.int .u64 (lk H i))) :
    Calls Tryd.prog 13 #[.slice (some ⟨g1, 0, none⟩) n c1, .slice (some ⟨g2, 0, none⟩) n c2] w fun e w' => e = .returned (.bool true) ∧ Below w.heap.size w w' := by
  have H1 : Hid (∀ i, i < n → w.cell? ⟨g1, i, none⟩ = some (.int .u64 (lk H i))) := h1
  have H2 : Hid (∀ i, i < n → w.cell? ⟨g2, i, none⟩ = some (.int .u64 (lk H i))) := h2
  clear h1 h2
  go_enter Tryd.func13, Tryd.ntmps13
  go_wp2
  go_loopw [5] (fun iv wr => ∃ k : Nat, k ≤ n ∧ iv = .int .i64 (k : Int) ∧ Hid (∀ p : Addr, wr.cell? p = w.cell? p) ∧ Below w.heap.size w wr) (fun i _ => n - (intOf i).toNat)
  case atStart => exact ⟨0, by omega, rfl, fun _ => rfl, Below.refl _ _⟩
  case round =>
    obtain ⟨k, hk, rfl, hc, hbl⟩ := hrel
    by_cases hlt : k < n
    · have hli : (k : Int) < (n : Int) := by omega
      have q0 : (0 : Int) ≤ (k : Int) := by omega
      have d1 := (hc.out ⟨g1, k, none⟩).trans (H1.out k hlt)
      have d2 := (hc.out ⟨g2, k, none⟩).trans (H2.out k hlt)
      have hc' : Hid (∀ p : Addr, wr.drew.cell? p = w.cell? p) := hc
      generalize lk H k = z at *
      go_wp2
      go_region_held3 (fun w' => w'.cell? ⟨g1, k, none⟩ = some (.int .u64 z) ∧ w'.cell? ⟨g2, k, none⟩ = some (.int .u64 z)) (go_keep) (fail)
      go_wp2
      go_roundw
      case rel =>
        first
          | exact ⟨k + 1, by omega, by go_num, hc', hbl.drew⟩
          | ((repeat apply Exists.intro); exact ⟨⟨k + 1, by omega, by go_num, hc', hbl.drew⟩, rfl⟩)
      case measure => simp [intOf]; omega
    · obtain rfl : k = n := by omega
      go_wp2
      go_ret
      exact ⟨rfl, hbl⟩

set_option maxRecDepth 100000 in
theorem eqU_zero (a1 a2 : Option Addr) (c1 c2 : Nat) (w : World) :
    Calls Tryd.prog 13 #[.slice a1 0 c1, .slice a2 0 c2] w fun e w' => e = .returned (.bool true) ∧ Below w.heap.size w w' := by
  go_enter Tryd.func13, Tryd.ntmps13
  go_wp2
  go_loopw [5] (fun iv wr => iv = .int .i64 0 ∧ wr = w) (fun _ _ => 0)
  case atStart => exact ⟨rfl, rfl⟩
  case round =>
    obtain ⟨rfl, rfl⟩ := hrel
    go_wp2
    go_ret
    exact ⟨rfl, Below.refl _ _⟩

/-- marks -/
def marks (n : Nat) : List Int := (List.range n).map fun i : Nat => (i : Int) + 1
theorem marks_length (n : Nat) : (marks n).length = n := by simp [marks]
theorem lk_marks (n i : Nat) (h : i < n) : lk (marks n) i = (i : Int) + 1 := by
  unfold lk marks
  rw [List.getD_eq_getElem?_getD, List.getElem?_map, List.getElem?_range h]
  rfl
theorem marks_succ (n : Nat) : marks (n + 1) = marks n ++ [(n : Int) + 1] := by simp [marks, List.range_succ]

set_option maxRecDepth 100000 in
set_option maxHeartbeats 1000000 in
theorem markU_any (base g n cap : Nat) (H : List Int) (w : World) (hn : n ≤ 100000) (hr : Row w base g n cap (H.map (Value.int .u64))) :
    Calls Tryd.prog 14 #[.slice (some ⟨g, 0, none⟩) n cap, .int .i64 1] w fun e w' => e = .returned (.int .i64 ((n : Int) + 1)) ∧ Row w' base g n cap ((marks n).map (Value.int .u64)) ∧ Below base w w' ∧ (∀ b, b ≠ g → w'.heap[b]? = w.heap[b]?) ∧ w.heap.size ≤ w'.heap.size := by
  have hl : H.length = n := by have := hr.len; rwa [List.length_map] at this
  have hlo := hr.lo
  go_enter Tryd.func14, Tryd.ntmps14
  go_wp2
  go_loopw [1, 5] (fun kv iv wr => ∃ k : Nat, k ≤ n ∧ kv = .int .i64 ((k : Int) + 1) ∧ iv = .int .i64 (k : Int) ∧ Row wr base g n cap ((marks k ++ H.drop k).map (Value.int .u64)) ∧ Below base w wr ∧ (∀ b, b ≠ g → wr.heap[b]? = w.heap[b]?) ∧ w.heap.size ≤ wr.heap.size) (fun _ i _ => n - (intOf i).toNat)
  case atStart => exact ⟨0, by omega, rfl, rfl, by simpa [marks] using hr, Below.refl _ _, fun _ _ => rfl, Nat.le_refl _⟩
  case round =>
    clear hr
    obtain ⟨k, hk, rfl, rfl, hrow, hbl, ho, hs⟩ := hrel
    have hle := hrow.le
    by_cases hlt : k < n
    · have hli : (k : Int) < (n : Int) := by omega
      have q0 : (0 : Int) ≤ (k : Int) := by omega
      have q1 : IntKind.u64.wrap ((k : Int) + 1) = (k : Int) + 1 := by rw [IntKind.wrap_u64]; omega
      have hc := hrow.cell k hlt
      have hfz := (hrow.room k (by omega)).2
      have hset : Hid ((marks k ++ H.drop k).set k ((k : Int) + 1) = marks (k + 1) ++ H.drop (k + 1)) := by
        simp only [Hid]
        rw [List.drop_eq_getElem_cons (by omega), set_at _ _ _ _ _ (marks_length k), marks_succ, ← cons_snoc]
      go_wp2
      have R1 := hrow.set k hlt (.int .u64 ((k : Int) + 1))
      rw [← List.map_set, hset.out] at R1
      have R2 := hbl.setCell (p := ⟨g, k, none⟩) hlo (.int .u64 ((k : Int) + 1))
      have R3 : ∀ b, b ≠ g → (wr.setCell ⟨g, k, none⟩ (.int .u64 ((k : Int) + 1))).heap[b]? = w.heap[b]? := fun b hb => by
        rw [← ho b hb]
        simp [World.setCell, Array.getElem?_modify, Ne.symm hb]
      have R4 : w.heap.size ≤ (wr.setCell ⟨g, k, none⟩ (.int .u64 ((k : Int) + 1))).heap.size := by simpa [World.setCell] using hs
      go_roundw
      case rel =>
        first
          | exact ⟨k + 1, by omega, by go_num, by go_num, R1, R2, R3, R4⟩
          | ((repeat apply Exists.intro); exact ⟨⟨k + 1, by omega, by go_num, by go_num, R1, R2, R3, R4⟩, rfl⟩)
      case measure => simp [intOf]; omega
    · obtain rfl : k = n := by omega
      rw [List.drop_of_length_le (by omega), List.append_nil] at hrow
      go_wp2
      go_ret
      exact ⟨rfl, hrow, hbl, ho, hs⟩

set_option maxRecDepth 100000 in
set_option maxHeartbeats 1000000 in
theorem heldU_any (g n cap : Nat) (w : World) (hn : n ≤ 100000) (h : ∀ i, i < n → w.cell? ⟨g, i, none⟩ = some (.int .u64 (lk (marks n) i))) :
    Calls Tryd.prog 15 #[.slice (some ⟨g, 0, none⟩) n cap, .int .i64 1] w fun e w' => e = .returned (.int .i64 ((n : Int) + 1)) ∧ w = w' := by
  have H : Hid (∀ i, i < n → w.cell? ⟨g, i, none⟩ = some (.int .u64 (lk (marks n) i))) := h
  clear h
  go_enter Tryd.func15, Tryd.ntmps15
  go_wp2
  go_loop [1, 5] (fun kv iv => ∃ k : Nat, k ≤ n ∧ kv = .int .i64 ((k : Int) + 1) ∧ iv = .int .i64 (k : Int)) (fun _ i => n - (intOf i).toNat)
  case atStart => exact ⟨0, by omega, rfl, rfl⟩
  case round =>
    obtain ⟨k, hk, rfl, rfl⟩ := hrel
    by_cases hlt : k < n
    · have hli : (k : Int) < (n : Int) := by omega
      have q0 : (0 : Int) ≤ (k : Int) := by omega
      have q1 : IntKind.u64.wrap ((k : Int) + 1) = (k : Int) + 1 := by rw [IntKind.wrap_u64]; omega
      have hc := H.out k hlt
      rw [lk_marks n k hlt] at hc
      go_wp2
      go_round
      case rel => exact ⟨k + 1, by omega, by go_num, by go_num⟩
      case measure => simp [intOf]; omega
    · obtain rfl : k = n := by omega
      go_wp2
      go_ret
      exact ⟨rfl, rfl⟩
set_option maxRecDepth 100000 in
theorem markU_zero (a : Option Addr) (c : Nat) (w : World) :
    Calls Tryd.prog 14 #[.slice a 0 c, .int .i64 1] w fun e w' => e = .returned (.int .i64 1) ∧ w = w' := by
  go_enter Tryd.func14, Tryd.ntmps14
  go_wp2
  go_loop [1, 5] (fun kv iv => kv = .int .i64 1 ∧ iv = .int .i64 0) (fun _ _ => 0)
  case atStart => exact ⟨rfl, rfl⟩
  case round =>
    obtain ⟨rfl, rfl⟩ := hrel
    go_wp2
    go_ret
    exact ⟨rfl, rfl⟩
set_option maxRecDepth 100000 in
theorem heldU_zero (a : Option Addr) (c : Nat) (w : World) :
    Calls Tryd.prog 15 #[.slice a 0 c, .int .i64 1] w fun e w' => e = .returned (.int .i64 1) ∧ w = w' := by
  go_enter Tryd.func15, Tryd.ntmps15
  go_wp2
  go_loop [1, 5] (fun kv iv => kv = .int .i64 1 ∧ iv = .int .i64 0) (fun _ _ => 0)
  case atStart => exact ⟨rfl, rfl⟩
  case round =>
    obtain ⟨rfl, rfl⟩ := hrel
    go_wp2
    go_ret
    exact ⟨rfl, rfl⟩
end Go.Proofs.YtenggagjgmonoaaDoor
