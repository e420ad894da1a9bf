import Derived.Test.YtenggagjgmonoaaDoorChecked
import Derived.WalkKit
import Derived.ProofKit
import Derived.WalkSpells
import Derived.WalkLawsBesides
import Derived.Test.YtenggagjgmonoaaDoorOwn
import Derived.Deep.RegionHeld3
import Derived.Laws.ResultCell
namespace Go.Proofs.YtenggagjgmonoaaDoor
open Go.RowKit
set_option linter.unusedVariables false

def nm (m x : Nat) : Value := .agg #[.int .u64 m, .int .u64 x]

set_option maxRecDepth 100000 in
theorem valI (m : Nat) (w : World) :
    Calls Tryd.prog 116 #[.int .u64 m] w fun e w' => e = .returned (.int .u64 m) ∧ w = w' := by
  go_enter Tryd.func116, Tryd.ntmps116
  go_wp2
  go_ret
  exact ⟨rfl, rfl⟩

theorem methM (m : Int) (w : World) : (method 266 56 (.int .u64 m) "loop.example/s02095/impl.value").run Tryd.prog w = .ok (116, .int .u64 m) w := by kernel_rfl

theorem fldM (x y : Int) (w : World) : (Instr.field 58 (.agg #[.int .u64 x, .int .u64 y]) 1).run Tryd.prog w = .ok (.int .u64 y) w := by kernel_rfl

set_option maxRecDepth 100000 in
theorem redI_any (a m : Nat) (w : World) (h0 : m ≠ 0) :
    Calls Tryd.prog 40 #[.int .u64 a, .int .u64 m] w fun e w' => e = .returned (nm m (a % m)) ∧ w' = w.alloc (.cells #[.int .u64 m, .int .u64 (a % m : Nat)] 58) := by
  have hm := methM m
  have z0 : ¬ (m = 0) := h0
  go_enter Tryd.func40, Tryd.ntmps40
  go_wp2_with fail
  refine (valI m _).mono ?_
  rintro e w' ⟨rfl, rfl⟩
  go_wp2
  refine bodyPost_ret (v := nm m (a % m)) (by simp [results, Tryd.results40, go_sem, nm]) rfl ⟨rfl, by simp⟩
end Go.Proofs.YtenggagjgmonoaaDoor
