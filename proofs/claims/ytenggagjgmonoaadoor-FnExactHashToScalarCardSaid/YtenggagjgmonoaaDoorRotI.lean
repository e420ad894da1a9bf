import Derived.Test.YtenggagjgmonoaaDoorLeaf
namespace Go.Proofs.YtenggagjgmonoaaDoor
open Go.RowKit
set_option linter.unusedVariables false

theorem rot_any (x k n : Int) (w : World) (h0 : 0 ≤ x) (h1 : x < 4294967296) (hk : -32 < k) (hk' : k < 0) (hn : n = -k) :
    Calls Tryd.prog 92 #[.int .u32 x, .int .i64 k] w fun e w' => e = .returned (.int .u32 (rotr x n)) ∧ w = w' := by
  have e := mask31 k hk hk'
  obtain ⟨m, rfl⟩ : ∃ m : Int, k = -m := ⟨-k, by omega⟩
  have e' : bits BinOp.and IntKind.u64 (IntKind.u64.wrap (-m)) 31 = 32 - m := by rw [e]; omega
  have hn2 : Hid (n = m) := by rw [hn]; simp [Hid]
  clear e hn
  go_enter Tryd.func92, Tryd.ntmps92
  go_wp2
  go_ret
  have e2 : (32 : Int) - (32 - m) = m := by omega
  refine ⟨ret_int (k := .u32) ?_, rfl⟩
  rw [hn2.out, e2, or_comm32]
  rfl
end Go.Proofs.YtenggagjgmonoaaDoor
