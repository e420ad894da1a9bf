import Derived.Test.YtjhbckngdclleaaGreatDoorMrg39
set_option linter.unusedVariables false
set_option maxRecDepth 100000
set_option maxHeartbeats 16000000
namespace Go.Proofs.YtjhbckngdclleaaGreatDoor
open Go.Proofs.Tryz Go.RowKit
open Go.Value (int)
open Go.IntKind (u64)
section
open M
section
attribute [local go_sem ↓] Go.wp_at_zero Go.wp_at_succ
end
end
end Go.Proofs.YtjhbckngdclleaaGreatDoor
