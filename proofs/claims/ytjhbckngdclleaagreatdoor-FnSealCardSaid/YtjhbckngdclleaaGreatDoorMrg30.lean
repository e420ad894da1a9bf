import Derived.Test.YtjhbckngdclleaaGreatDoorMrg29
set_option linter.unusedVariables false
set_option maxRecDepth 100000
set_option maxHeartbeats 16000000
namespace Go.Proofs.YtjhbckngdclleaaGreatDoor
open Go.Proofs.Tryz Go.RowKit
open Go.Value (int)
open Go.IntKind (u64)
section
open M
end
end Go.Proofs.YtjhbckngdclleaaGreatDoor
