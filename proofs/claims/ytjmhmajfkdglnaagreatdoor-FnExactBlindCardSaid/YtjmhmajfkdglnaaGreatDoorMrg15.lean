import Derived.Test.YtjmhmajfkdglnaaGreatDoorMrg14
import Derived.Test.YtjmhmajfkdglnaaGreatDoorMrg9
namespace Go.Proofs.YtjmhmajfkdglnaaGreatDoor
open Go.RowKit
set_option linter.unusedVariables false

/-- a message and a tag that can be hashed -/
def okT (msg tag : ByteArray) : Prop := 1 ≤ tag.size ∧ tag.size ≤ 255 ∧ msg.size ≤ 65535
theorem okT_H {msg tag : ByteArray} {m : Nat} {c : Int} (h0 : m ≠ 0) (h1 : 1 ≤ c) (h2 : c ≤ 340) : okT msg tag ↔ okH msg tag m c := by
  constructor
  · rintro ⟨h3, h4, h5⟩
    exact ⟨h1, h2, h0, h3, h4, by omega, by omega, h5⟩
  · rintro ⟨-, -, -, h3, h4, -, -, h5⟩
    exact ⟨h3, h4, h5⟩
/-- the number of a message below m, the i-th of c -/
def hNum (msg tag : ByteArray) (m c i : Nat) : Nat := numL (piece (expM (byt msg) (byt tag) (24 * c)) i) % m
theorem h2f_at (msg tag : ByteArray) (m c i : Nat) (hi : i < c) : lk (h2f (byt msg) (byt tag) m c) i = (hNum msg tag m c i : Nat) := by
  unfold lk h2f hNum
  rw [List.getD_eq_getElem?_getD, List.getElem?_map, List.getElem?_range hi]
  rfl

end Go.Proofs.YtjmhmajfkdglnaaGreatDoor

namespace Go.Proofs.YtjmhmajfkdglnaaGreatDoor
open Go.RowKit
set_option linter.unusedVariables false

set_option maxRecDepth 100000 in
set_option maxHeartbeats 2000000 in
theorem h2sS_yes (msg tag : ByteArray) (w : World) (h : okT msg tag) :
    Calls Tryz.prog 125 #[.string msg, .string tag] w fun e w' => e = .returned (.tuple #[.int .u64 (hNum msg tag 2305843010818082053 1 0 : Nat), .bool true]) ∧ Below w.heap.size w w' := by
  have X : ∀ w, Calls Tryz.prog 112 #[.string msg, .string tag, .int .u64 2305843010818082053, .int .i64 1] w fun e w' => ∃ g cap, e = .returned (.tuple #[.slice (some ⟨g, 0, none⟩) 1 cap, .bool true]) ∧ Row w' w.heap.size g 1 cap ((h2f (byt msg) (byt tag) 2305843010818082053 1).map (Value.int .u64)) ∧ Below w.heap.size w w' :=
    fun w => h2fS_yes msg tag 2305843010818082053 1 w (by decide) ((okT_H (by decide) (by decide) (by decide)).1 h)
  have hz := h2f_at msg tag 2305843010818082053 1 0 (by omega)
  generalize ((hNum msg tag 2305843010818082053 1 0 : Nat) : Int) = z at *
  go_enter Tryz.func125, Tryz.ntmps125
  go_wp2_with fail
  refine (X _).mono ?_
  rintro e W1 ⟨g, cap, rfl, hr, hb⟩
  have hc := hr.cell 0 (by omega)
  rw [hz] at hc
  clear X hz
  go_wp2
  go_ret2
  exact ⟨rfl, hb⟩
set_option maxRecDepth 100000 in
set_option maxHeartbeats 2000000 in
theorem h2sS_no (msg tag : ByteArray) (w : World) (h : ¬ okT msg tag) :
    Calls Tryz.prog 125 #[.string msg, .string tag] w fun e w' => e = .returned (.tuple #[.int .u64 0, .bool false]) ∧ Below w.heap.size w w' := by
  have X : ∀ w, Calls Tryz.prog 112 #[.string msg, .string tag, .int .u64 2305843010818082053, .int .i64 1] w fun e w' => ∃ g cap, e = .returned (.tuple #[.slice (some ⟨g, 0, none⟩) 0 cap, .bool false]) ∧ Row w' w.heap.size g 0 cap [] ∧ Below w.heap.size w w' :=
    fun w => h2fS_no msg tag 2305843010818082053 1 w (fun hh => h ((okT_H (by decide) (by decide) (by decide)).2 hh))
  go_enter Tryz.func125, Tryz.ntmps125
  go_wp2_with fail
  refine (X _).mono ?_
  rintro e W1 ⟨g, cap, rfl, hr, hb⟩
  clear X
  go_wp2
  go_ret2
  exact ⟨rfl, hb⟩
end Go.Proofs.YtjmhmajfkdglnaaGreatDoor

namespace Go.Proofs.YtjmhmajfkdglnaaGreatDoor
open Go.RowKit
set_option linter.unusedVariables false

/-- the tag of a mode's scalars -/
def scaT (k : Nat) : ByteArray := tagB ⟨#[72, 97, 115, 104, 84, 111, 83, 99, 97, 108, 97, 114, 45]⟩ k
def scaN (s : ByteArray) (k : Nat) : Nat := hNum s (scaT k) 2305843010818082053 1 0
set_option maxRecDepth 100000 in
/-- the model's scalar of a text -/
theorem scaS_any (s : ByteArray) (k : Nat) (w : World) (hk : k < 3) (hs : s.size ≤ 65535) :
    Calls Tryz.prog 84 #[.string s, .int .i64 k] w fun e w' => e = .returned (.int .u64 (scaN s k)) ∧ Below w.heap.size w w' := by
  have T := tagS_any ⟨#[72, 97, 115, 104, 84, 111, 83, 99, 97, 108, 97, 114, 45]⟩ k w hk (by decide)
  have hz := tagB_size ⟨#[72, 97, 115, 104, 84, 111, 83, 99, 97, 108, 97, 114, 45]⟩ k hk
  have hz2 : (ByteArray.mk #[72, 97, 115, 104, 84, 111, 83, 99, 97, 108, 97, 114, 45]).size = 13 := rfl
  have H := fun w' => h2sS_yes s (scaT k) w' ⟨by unfold scaT; omega, by unfold scaT; omega, hs⟩
  change Calls _ _ _ _ (fun e w' => e = .returned (.string (scaT k)) ∧ _) at T
  unfold scaN
  generalize scaT k = t at *
  go_enter Tryz.func84, Tryz.ntmps84
  go_wp2_with fail
  refine T.mono ?_
  rintro e w1 ⟨rfl, b1⟩
  go_wp2_with fail
  refine (H w1).mono ?_
  rintro e w2 ⟨rfl, b2⟩
  go_wp2
  go_ret
  exact ⟨rfl, b1.trans (b2.mono b1.size)⟩
end Go.Proofs.YtjmhmajfkdglnaaGreatDoor
