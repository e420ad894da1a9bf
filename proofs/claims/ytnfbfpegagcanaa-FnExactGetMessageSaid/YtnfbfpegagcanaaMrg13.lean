import Derived.Test.YtnfbfpegagcanaaMrg12
set_option linter.unusedVariables false
set_option maxRecDepth 100000
set_option maxHeartbeats 16000000
namespace Go.Proofs.Ytnfbfpegagcanaa
open Go.Proofs.Try Go.RowKit
open Go.Value (int)
open Go.IntKind (u64)
section
open M
end
section
open Go.Shelf M
attribute [local go_sem] Oper.semAt_some
end
section
open M
end
end Go.Proofs.Ytnfbfpegagcanaa
