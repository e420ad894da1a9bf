import Derived.Test.YtijmldjijnpnoaaDoorMrg15
set_option linter.unusedVariables false
set_option maxRecDepth 100000
set_option maxHeartbeats 16000000
namespace Go.Proofs.YtijmldjijnpnoaaDoor
open Go.Proofs.Tryd Go.RowKit
open Go.Value (int)
open Go.IntKind (u64)
section
open M
theorem zpP (w:World):Cr 46 #[] w (.agg #[int u64 0,int u64 0,.bool true]):=by
  go_enter func46,ntmps46;go_wp2;refine bodyPost_ret (v:= .agg #[int u64 0,int u64 0,.bool true]) (by simp [results,results46,go_sem]) rfl ⟨rfl,?_⟩;exact(Below.refl _ w).alloc (Nat.le_refl _) _
end
end Go.Proofs.YtijmldjijnpnoaaDoor
