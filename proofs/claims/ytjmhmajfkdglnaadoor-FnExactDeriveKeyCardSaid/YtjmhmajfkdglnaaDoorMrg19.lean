import Derived.Test.YtjmhmajfkdglnaaDoorMrg18
import Derived.Test.YtjmhmajfkdglnaaDoorMrg8
namespace Go.Proofs.YtjmhmajfkdglnaaDoor
open Go.RowKit
set_option linter.unusedVariables false

set_option maxRecDepth 100000 in
set_option maxHeartbeats 2000000 in
theorem h2sS_yes (msg tag : ByteArray) (w : World) (h : okT msg tag) :
    Calls Tryd.prog 7 #[.string msg, .string tag] w fun e w' => e = .returned (.tuple #[.int .u64 (hNum msg tag 2305843010818082053 1 0 : Nat), .bool true]) ∧ Below w.heap.size w w' := by
  have X : ∀ w, Calls Tryd.prog 12 #[.string msg, .string tag, .int .u64 2305843010818082053, .int .i64 1] w fun e w' => ∃ g cap, e = .returned (.tuple #[.slice (some ⟨g, 0, none⟩) 1 cap, .bool true]) ∧ Row w' w.heap.size g 1 cap ((h2f (byt msg) (byt tag) 2305843010818082053 1).map (Value.int .u64)) ∧ Below w.heap.size w w' :=
    fun w => h2fS_yes msg tag 2305843010818082053 1 w (by decide) ((okT_H (by decide) (by decide) (by decide)).1 h)
  have hz := h2f_at msg tag 2305843010818082053 1 0 (by omega)
  generalize ((hNum msg tag 2305843010818082053 1 0 : Nat) : Int) = z at *
  go_enter Tryd.func7, Tryd.ntmps7
  go_wp2_with fail
  refine (X _).mono ?_
  rintro e W1 ⟨g, cap, rfl, hr, hb⟩
  have hc := hr.cell 0 (by omega)
  rw [hz] at hc
  clear X hz
  go_wp2
  go_ret2
  exact ⟨rfl, hb⟩
set_option maxRecDepth 100000 in
set_option maxHeartbeats 2000000 in
theorem h2sS_no (msg tag : ByteArray) (w : World) (h : ¬ okT msg tag) :
    Calls Tryd.prog 7 #[.string msg, .string tag] w fun e w' => e = .returned (.tuple #[.int .u64 0, .bool false]) ∧ Below w.heap.size w w' := by
  have X : ∀ w, Calls Tryd.prog 12 #[.string msg, .string tag, .int .u64 2305843010818082053, .int .i64 1] w fun e w' => ∃ g cap, e = .returned (.tuple #[.slice (some ⟨g, 0, none⟩) 0 cap, .bool false]) ∧ Row w' w.heap.size g 0 cap [] ∧ Below w.heap.size w w' :=
    fun w => h2fS_no msg tag 2305843010818082053 1 w (fun hh => h ((okT_H (by decide) (by decide) (by decide)).2 hh))
  go_enter Tryd.func7, Tryd.ntmps7
  go_wp2_with fail
  refine (X _).mono ?_
  rintro e W1 ⟨g, cap, rfl, hr, hb⟩
  clear X
  go_wp2
  go_ret2
  exact ⟨rfl, hb⟩
end Go.Proofs.YtjmhmajfkdglnaaDoor

/-
  Keys of seeds, purely.
-/
namespace Go.Proofs.YtjmhmajfkdglnaaDoor
open Go.RowKit
set_option linter.unusedVariables false

def dkW : ByteArray := ⟨#[68, 101, 114, 105, 118, 101, 75, 101, 121, 80, 97, 105, 114]⟩
/-- the text of try i -/
def dkM (seed info : ByteArray) (i : Nat) : ByteArray := seed ++ sizB info ++ strOfNums [(i : Int)]
def dkN (k : Nat) (seed info : ByteArray) (i : Nat) : Nat := hNum (dkM seed info i) (tagB dkW k) 2305843010818082053 1 0
/-- the first that is not 0, of n from i on -/
def dkR (f : Nat → Nat) : Nat → Nat → Nat × Int
  | _, 0 => (0, 3)
  | i, n + 1 => if f i = 0 then dkR f (i + 1) n else (f i, 0)
def dkB (mode : Int) (seed info : ByteArray) : Bool := decide ((0 ≤ mode ∧ mode ≤ 2) ∧ seed.size = 32 ∧ info.size ≤ 60000)
def dkV (mode : Int) (seed info : ByteArray) : Nat × Int := if dkB mode seed info = true then dkR (dkN mode.toNat seed info) 0 256 else (0, 1)
theorem dkT_size (k : Nat) (h : k < 3) : (tagB dkW k).size = 25 := tagB_size _ k h
theorem sizB_sz (s : ByteArray) : (sizB s).size = s.size + 2 := by
  unfold sizB
  rw [ByteArray.size_append, strOfNums_size]
  simp only [List.length_cons, List.length_nil]
  omega
theorem dkM_size (seed info : ByteArray) (i : Nat) : (dkM seed info i).size = seed.size + info.size + 3 := by
  unfold dkM
  rw [ByteArray.size_append, ByteArray.size_append, sizB_sz, strOfNums_size]
  simp only [List.length_cons, List.length_nil]
  omega
theorem dkR_step {f : Nat → Nat} {j : Nat} (hj : j < 256) (h : f j = 0) : dkR f j (256 - j) = dkR f (j + 1) (256 - (j + 1)) := by
  rw [show 256 - j = (256 - (j + 1)) + 1 by omega]
  show (if f j = 0 then _ else _) = _
  rw [if_pos h]
theorem dkR_hit {f : Nat → Nat} {j : Nat} (hj : j < 256) (h : ¬ f j = 0) : dkR f j (256 - j) = (f j, 0) := by
  rw [show 256 - j = (256 - (j + 1)) + 1 by omega]
  show (if f j = 0 then _ else _) = _
  rw [if_neg h]
theorem dkR_end (f : Nat → Nat) : dkR f 256 (256 - 256) = (0, 3) := rfl
theorem dk_mod {mode : Int} (h1 : 0 ≤ mode) (h2 : mode ≤ 2) : mode.toNat < 3 ∧ ((mode.toNat : Nat) : Int) = mode := by omega
end Go.Proofs.YtjmhmajfkdglnaaDoor
