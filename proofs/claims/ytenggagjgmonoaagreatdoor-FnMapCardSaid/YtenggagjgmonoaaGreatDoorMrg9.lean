import Derived.Test.YtenggagjgmonoaaGreatDoorCards
import Derived.Test.YtenggagjgmonoaaGreatDoorTie
import Derived.Test.YtenggagjgmonoaaGreatDoorMrg6
import Derived.Test.YtenggagjgmonoaaGreatDoorMrg8
import Derived.OpenShut
import Derived.ShutString
import Derived.ChangeOld
import Derived.OpenVars
import Derived.Deep.DeepHandedRow
import Derived.Lib.LaidTab
import Derived.Test.YtenggagjgmonoaaGreatDoorMrg1
/-
  What the four laws of this seat share: the row's list, the witness's world.
-/
namespace Go.Proofs.YtenggagjgmonoaaGreatDoor
open Go.ChangeShapes Go.WideShapes Go.ChangeAt Go.RowKit
set_option linter.unusedVariables false

theorem own : ownKnob Tryz.prog.godebug = none := by kernel_rfl
theorem laidOut : laidOutB Tryz.prog = true := by kernel_rfl
theorem gTab : Tryz.prog.globalNamed "loop.example/s02095/impl.roundWords" = some 2 := by kernel_rfl
theorem gTabType : (Tryz.prog.globals[2]?).map (·.type) = some 144 := by kernel_rfl
theorem cells61 : Tryz.prog.cellsOf 144 = 64 := by kernel_rfl
theorem cells29 : Tryz.prog.cellsOf 109 = 1 := by kernel_rfl
theorem varsR : varsRowed Tryz.prog ["loop.example/s02095/impl.roundWords"] = true := by kernel_rfl

/-- WHAT THE ROW's LIST GIVES: the table's cells hold its numbers. -/
theorem table {W : World} (h : laidMetH Tryz.prog [("loop.example/s02095/impl.roundWords", Rows.laid_loop_example_s02095_impl_roundWords)] W) : TabK W := fun i hi => by
  have ht : Lib.TabIs Tryz.prog W "loop.example/s02095/impl.roundWords" .u32 kTab :=
    Lib.tabIs_of_head (rest := []) gTab gTabType Tryz.underlying144 Tryz.underlying109 cells29 cells61 h
  exact ht.cell gTab i hi

/-- A WORLD FOR THE WITNESS: the settled one, the table holding what its initialiser lays. -/
noncomputable def laidWorld (os : Os) : World :=
  { World.holding Tryz.prog os ⟨#[], #[], []⟩ with heap := (World.holding Tryz.prog os ⟨#[], #[], []⟩).heap.modify 2 fun
      | .cells _ t frozen => .cells (kTab.map (Value.int .u32)).toArray t frozen
      | o => o }
theorem u64_nat {x : Int} (h : (Lit.int .u64 x).wf = true) : ∃ n : Nat, x = n ∧ n < 18446744073709551616 := by
  have h2 : 0 ≤ x ∧ x ≤ 18446744073709551615 := by simpa [Lit.wf, IntKind.min, IntKind.max, IntKind.signed, IntKind.bits] using h
  exact ⟨x.toNat, by omega, by omega⟩
end Go.Proofs.YtenggagjgmonoaaGreatDoor

/-
  Plain functions: the keyed hash.
-/
namespace Go.Proofs.YtenggagjgmonoaaGreatDoor
def xorL (l : List Int) (m : Int) : List Int := l.map (fun x => bits BinOp.xor IntKind.u8 x m)
def keyL (k : List Int) : List Int := k ++ List.replicate (64 - k.length) 0
def kkL (key : List Int) : List Int := keyL (if 64 < key.length then shaF key else key)
def hmacF (key s : List Int) : List Int := shaF (xorL (kkL key) 92 ++ shaF (xorL (kkL key) 54 ++ s))
theorem bits8 (a m : Int) : 0 ≤ bits BinOp.xor IntKind.u8 a m ∧ bits BinOp.xor IntKind.u8 a m < 256 := by
  simp only [bits, IntKind.wrap_u8']; omega
theorem xorL_lt (l : List Int) (m : Int) : ∀ x ∈ xorL l m, 0 ≤ x ∧ x < 256 := by
  intro x hx
  simp only [xorL, List.mem_map] at hx
  obtain ⟨y, _, rfl⟩ := hx
  exact bits8 y m
theorem xorL_length (l : List Int) (m : Int) : (xorL l m).length = l.length := by simp [xorL]
theorem be4_lt (n : Int) : ∀ x ∈ be4 n, 0 ≤ x ∧ x < 256 := by
  intro x hx
  simp only [be4, List.mem_cons, List.not_mem_nil, or_false] at hx
  rcases hx with rfl | rfl | rfl | rfl <;> omega
theorem digTo_lt (h : List Int) : ∀ i, ∀ x ∈ digTo h i, 0 ≤ x ∧ x < 256
  | 0, x, hx => by simp [digTo] at hx
  | i + 1, x, hx => by
    rw [digTo, List.mem_append] at hx
    rcases hx with hx | hx
    · exact digTo_lt h i x hx
    · exact be4_lt _ x hx
theorem shaF_lt (t : List Int) : ∀ x ∈ shaF t, 0 ≤ x ∧ x < 256 := digTo_lt _ 8
theorem shaF_length (t : List Int) : (shaF t).length = 32 := digTo_length _ 8
theorem hmacF_lt (k t : List Int) : ∀ x ∈ hmacF k t, 0 ≤ x ∧ x < 256 := shaF_lt _
theorem hmacF_length (k t : List Int) : (hmacF k t).length = 32 := shaF_length _
theorem kkL_length (key : List Int) : (kkL key).length = 64 := by
  unfold kkL keyL
  rw [List.length_append, List.length_replicate]
  split
  · rw [shaF_length]
  · omega
theorem rep_lt (n : Nat) : ∀ x ∈ List.replicate n (0 : Int), 0 ≤ x ∧ x < 256 := by
  intro x hx; have := List.eq_of_mem_replicate hx; omega
theorem app_lt {a b : List Int} (ha : ∀ x ∈ a, 0 ≤ x ∧ x < 256) (hb : ∀ x ∈ b, 0 ≤ x ∧ x < 256) : ∀ x ∈ a ++ b, 0 ≤ x ∧ x < 256 := by
  intro x hx
  rw [List.mem_append] at hx
  rcases hx with h | h
  · exact ha x h
  · exact hb x h
theorem kkL_lt {key : List Int} (h : ∀ x ∈ key, 0 ≤ x ∧ x < 256) : ∀ x ∈ kkL key, 0 ≤ x ∧ x < 256 := by
  unfold kkL keyL
  split
  · exact app_lt (shaF_lt _) (rep_lt _)
  · exact app_lt h (rep_lt _)
theorem rep_add (a b : Nat) : strOfNums (List.replicate a 0) ++ strOfNums (List.replicate b 0) = strOfNums (List.replicate (a + b) 0) := by
  apply ByteArray.ext; simp [strOfNums]
theorem byt_size (s : ByteArray) (l : List Int) (h : byt s = l) : s.size = l.length := by rw [← h, byt_length]
end Go.Proofs.YtenggagjgmonoaaGreatDoor
