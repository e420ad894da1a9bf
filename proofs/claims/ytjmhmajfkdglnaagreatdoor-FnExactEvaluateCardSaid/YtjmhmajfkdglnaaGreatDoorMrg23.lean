import Derived.Test.YtjmhmajfkdglnaaGreatDoorMrg9
import Derived.Test.YtjmhmajfkdglnaaGreatDoorMrg10
import Derived.Test.YtjmhmajfkdglnaaGreatDoorMrg22
import Derived.Test.YtjmhmajfkdglnaaGreatDoorMrg16
import Derived.Test.YtjmhmajfkdglnaaGreatDoorMrg13
import Derived.Test.YtjmhmajfkdglnaaGreatDoorMrg18
import Derived.Test.YtjmhmajfkdglnaaGreatDoorProg
import Derived.Test.YtjmhmajfkdglnaaGreatDoorMrg0
set_option linter.unusedVariables false
set_option maxRecDepth 100000
set_option maxHeartbeats 16000000
namespace Go.Proofs.YtjmhmajfkdglnaaGreatDoor
open Go.RowKit M
noncomputable def mapP (u : Nat) : Pt := some (mXX (toF u), mYo (toF u))
noncomputable def hPt (msg tag : ByteArray) : Pt := ad (mapP (hNum msg tag 2305843009213693951 2 0)) (mapP (hNum msg tag 2305843009213693951 2 1))
noncomputable def elT (t : Tri) : Bool := onT t && !t.2.2
def keyB (k : Nat) : Bool := decide (1 ≤ k ∧ k < 2305843010818082053)
def txtB (mode : Int) (n m : Nat) : Bool := decide ((0 ≤ mode ∧ mode ≤ 2) ∧ n ≤ 65535 ∧ m ≤ 60000 ∧ (mode = 2 ∨ m = 0))
def infW : ByteArray := ⟨#[73, 110, 102, 111]⟩
def grpW : ByteArray := ⟨#[72, 97, 115, 104, 84, 111, 71, 114, 111, 117, 112, 45]⟩
def finW : ByteArray := ⟨#[70, 105, 110, 97, 108, 105, 122, 101]⟩
def twk (info : ByteArray) : Nat := scaN (infW ++ sizB info) 2
theorem twk_lt (info : ByteArray) : twk info < 2305843010818082053 := scaN_lt _ _
theorem infoT_size (info : ByteArray) : (infW ++ sizB info).size = info.size + 6 := by
  rw [ByteArray.size_append, sizB_size, show infW.size = 4 from rfl]; omega
noncomputable def hsh (mode : Int) (input : ByteArray) : Pt := hPt input (tagB grpW mode.toNat)
def outT (mode : Int) (input info : ByteArray) (u : Pt) : ByteArray := (if mode = 2 then sizB input ++ sizB info else sizB input) ++ sizB (ptB u) ++ finW
def outB (mode : Int) (input info : ByteArray) (u : Pt) : ByteArray := strOfNums (shaF (byt (outT mode input info u)))
def kt (key : Nat) (info : ByteArray) : Nat := (key + twk info) % 2305843010818082053
theorem kt_lt (key : Nat) (info : ByteArray) : kt key info < 2305843010818082053 := Nat.mod_lt _ (by decide)
def facC (mode : Int) (key : Nat) (info : ByteArray) : Int := if mode = 2 ∧ kt key info = 0 then 3 else 0
def facT (mode : Int) (key : Nat) (info : ByteArray) : Nat := if mode = 2 then kt key info else key
def facB (mode : Int) (key : Nat) (info : ByteArray) : Nat := if mode = 2 then (if kt key info = 0 then 0 else M.ivn 2305843010818082053 (kt key info)) else key
theorem pb_none (p : Pt) : pb p = true ↔ p = none := by
  rcases p with _ | ⟨x, y⟩ <;> simp [pb]
theorem txtB_iff {mode : Int} {n m : Nat} : txtB mode n m = true ↔ (0 ≤ mode ∧ mode ≤ 2) ∧ n ≤ 65535 ∧ m ≤ 60000 ∧ (mode = 2 ∨ m = 0) := by unfold txtB; rw [decide_eq_true_eq]
theorem txtB_not {mode : Int} {n m : Nat} (h : ¬ ((0 ≤ mode ∧ mode ≤ 2) ∧ n ≤ 65535 ∧ m ≤ 60000 ∧ (mode = 2 ∨ m = 0))) : txtB mode n m = false := by unfold txtB; rw [decide_eq_false h]
theorem keyB_iff {k : Nat} : keyB k = true ↔ 1 ≤ k ∧ k < 2305843010818082053 := by unfold keyB; rw [decide_eq_true_eq]
theorem md_of {mode : Int} (h1 : 0 ≤ mode) (h2 : mode ≤ 2) : mode.toNat < 3 ∧ ((mode.toNat : Nat) : Int) = mode := by omega
theorem ivn_lt' (m a : Nat) (h : 0 < m) : M.ivn m a < m := by unfold M.ivn; exact Nat.mod_lt _ h
theorem facB_lt (mode : Int) (key : Nat) (info : ByteArray) (h : key < 2305843010818082053) : facB mode key info < 2305843010818082053 := by
  unfold facB
  split
  · split
    · decide
    · exact ivn_lt' _ _ (by decide)
  · exact h
theorem outT_size (mode : Int) (input info : ByteArray) (u : Pt) (h1 : input.size ≤ 65535) (h2 : info.size ≤ 60000) : (outT mode input info u).size ≤ 130000 := by
  unfold outT
  split <;> simp only [ByteArray.size_append, sizB_size, ptB_size, show finW.size = 8 from rfl] <;> omega
theorem elT_on {t : Tri} (h : elT t = true) : onT t = true := by unfold elT at h; simp at h; exact h.1
theorem triW_px {t : Tri} (h : onT t = true) : (t.1 : Int) = px (asT t) ∧ (t.2.1 : Int) = py (asT t) ∧ t.2.2 = pb (asT t) := by
  have e := triW_of h
  rw [ptW_eq] at e
  unfold triW at e
  simpa using e
theorem elT_nz {t : Tri} (h : elT t = true) : asT t ≠ none := by
  intro e
  have h2 := (triW_px (elT_on h)).2.2
  rw [e] at h2
  unfold elT at h
  simp at h
  rw [h.2] at h2
  cases h2
end Go.Proofs.YtjmhmajfkdglnaaGreatDoor
namespace Go.Proofs.YtjmhmajfkdglnaaGreatDoor
open Go.RowKit
theorem modS_yes (mode : Int) (w : World) (h1 : 0 ≤ mode) (h2 : mode ≤ 2) :
    Calls Tryz.prog 69 #[.int .i64 mode] w fun e w' => e = .returned (.bool true) ∧ w = w' := by
  go_enter Tryz.func69, Tryz.ntmps69
  go_wp2
  go_ret
  exact ⟨rfl, rfl⟩
theorem modS_no (mode : Int) (w : World) (h : ¬ (0 ≤ mode ∧ mode ≤ 2)) :
    Calls Tryz.prog 69 #[.int .i64 mode] w fun e w' => e = .returned (.bool false) ∧ w = w' := by
  by_cases h1 : 0 ≤ mode
  · have h2 : ¬ mode ≤ 2 := fun h' => h ⟨h1, h'⟩
    clear h
    go_enter Tryz.func69, Tryz.ntmps69
    go_wp2
    go_ret
    exact ⟨rfl, rfl⟩
  · clear h
    go_enter Tryz.func69, Tryz.ntmps69
    go_wp2
    go_ret
    exact ⟨rfl, rfl⟩
end Go.Proofs.YtjmhmajfkdglnaaGreatDoor
