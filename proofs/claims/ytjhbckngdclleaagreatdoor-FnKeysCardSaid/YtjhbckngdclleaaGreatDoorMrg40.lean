import Derived.Test.YtjhbckngdclleaaGreatDoorMrg39
set_option linter.unusedVariables false
set_option maxRecDepth 100000
set_option maxHeartbeats 16000000
namespace Go.Proofs.YtjhbckngdclleaaGreatDoor
open Go.Proofs.Tryz Go.RowKit
open Go.Value (int)
open Go.IntKind (u64)
section
open M
theorem bspI (w:World):Cr 62 #[] w (.agg #[int u64 (px gG),int u64 (py gG),.bool (pb gG)]):=by
  have h:Cr 62 #[] w (.agg #[int u64 1,int u64 509478702933351334,.bool false]):=by
    go_enter func62,ntmps62;go_wp2;refine bodyPost_ret (v:= .agg #[int u64 1,int u64 509478702933351334,.bool false]) (by simp [results,results62,go_sem]) rfl ⟨rfl,(Below.refl _ w).alloc (Nat.le_refl _) _⟩
  exact h
end
end Go.Proofs.YtjhbckngdclleaaGreatDoor
