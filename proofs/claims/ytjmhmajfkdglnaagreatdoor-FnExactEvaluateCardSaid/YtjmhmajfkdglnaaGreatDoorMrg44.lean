import Derived.Test.YtjmhmajfkdglnaaGreatDoorMrg24
import Derived.Test.YtjmhmajfkdglnaaGreatDoorMrg27
import Derived.Test.YtjmhmajfkdglnaaGreatDoorMrg40
import Derived.Deep.QuietTactic
import Derived.BigQuiet
import Derived.Test.YtjmhmajfkdglnaaGreatDoorMrg32
import Derived.Test.YtjmhmajfkdglnaaGreatDoorMrg43
set_option linter.unusedVariables false
set_option maxRecDepth 100000
set_option maxHeartbeats 16000000
namespace Go.Proofs.YtjmhmajfkdglnaaGreatDoor
open Go.RowKit M
theorem gT_W : triW gT = .agg #[.int .u64 (px gG), .int .u64 (py gG), .bool (pb gG)] := by rw [triW_of onT_g, asT_g, ptW_eq]
end Go.Proofs.YtjmhmajfkdglnaaGreatDoor
