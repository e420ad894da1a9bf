import Derived.Test.YtaeanelfpaphiabCrvF
namespace Go.Proofs.Ytaeanelfpaphiab
open Go.RowKit M
set_option linter.unusedVariables false

set_option maxRecDepth 100000 in
theorem baseS (w : World) : Calls Try.prog 86 #[] w fun e w' => e = .returned (ptW gG) ∧ Below w.heap.size w w' := by
  go_enter Try.func86, Try.ntmps86
  go_wp2
  refine bodyPost_ret (v := .agg #[.int .u64 1, .int .u64 509478702933351334, .bool false]) (by simp [results, Try.results86, go_sem]) rfl ⟨rfl, (Below.refl _ w).alloc (Nat.le_refl _) _⟩
end Go.Proofs.Ytaeanelfpaphiab
