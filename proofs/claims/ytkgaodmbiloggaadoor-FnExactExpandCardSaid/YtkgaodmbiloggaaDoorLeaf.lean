import Derived.Test.YtkgaodmbiloggaaDoorChecked
import Derived.Test.YtkgaodmbiloggaaDoorPure
import Derived.WalkKit
import Derived.ProofKit
import Derived.WalkSpells
import Derived.WalkLawsBesides
import Derived.Outline
namespace Go.Proofs.YtkgaodmbiloggaaDoor
open Go.RowKit
set_option linter.unusedVariables false

theorem ret_int {k : IntKind} {a b : Int} (h : a = b) : Ending.returned (.int k a) = .returned (.int k b) := by rw [h]

theorem turn_any (x : Int) (n : Int) (w : World) (h0 : 0 ≤ x) (h1 : x < 4294967296) (hn : 0 < n) (hn' : n < 32) :
    Calls Tryd.prog 25 #[.int .u32 x, .int .i64 n] w fun e w' => e = .returned (.int .u32 (rotr x n)) ∧ w = w' := by
  go_enter Tryd.func25, Tryd.ntmps25
  go_wp2
  go_ret
  exact ⟨rfl, rfl⟩

theorem rot_any (x k n : Int) (w : World) (h0 : 0 ≤ x) (h1 : x < 4294967296) (hk : -32 < k) (hk' : k < 0) (hn : n = -k) :
    Calls Tryd.prog 34 #[.int .u32 x, .int .i64 k] w fun e w' => e = .returned (.int .u32 (rotr x n)) ∧ w = w' := by
  have e := mask31 k hk hk'
  obtain ⟨m, rfl⟩ : ∃ m : Int, k = -m := ⟨-k, by omega⟩
  have e' : bits BinOp.and IntKind.u64 (IntKind.u64.wrap (-m)) 31 = 32 - m := by rw [e]; omega
  have hn2 : Hid (n = m) := by rw [hn]; simp [Hid]
  clear e hn
  go_enter Tryd.func34, Tryd.ntmps34
  go_wp2
  go_ret
  have e2 : (32 : Int) - (32 - m) = m := by omega
  refine ⟨ret_int (k := .u32) ?_, rfl⟩
  rw [hn2.out, e2, or_comm32]
  rfl
end Go.Proofs.YtkgaodmbiloggaaDoor
