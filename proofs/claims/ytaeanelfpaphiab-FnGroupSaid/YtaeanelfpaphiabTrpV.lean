import Derived.Test.YtaeanelfpaphiabTrpP
import Derived.Test.YtaeanelfpaphiabCrsP
namespace Go.Proofs.Ytaeanelfpaphiab
open Go.RowKit M
set_option linter.unusedVariables false

/-- the sum of triples is the curve's, in three coordinates -/
theorem trV (X1 Y1 Z1 X2 Y2 Z2 : Fp) (w : World) :
    Calls Try.prog 87 #[.agg #[.int .u64 (fv X1), .int .u64 (fv Y1), .int .u64 (fv Z1)], .agg #[.int .u64 (fv X2), .int .u64 (fv Y2), .int .u64 (fv Z2)]] w
      fun e w' => e = .returned (.agg #[.int .u64 (fv (cX X1 Y1 Z1 X2 Y2 Z2)), .int .u64 (fv (cY X1 Y1 Z1 X2 Y2 Z2)), .int .u64 (fv (cZ X1 Y1 Z1 X2 Y2 Z2))]) ∧ Below w.heap.size w w' := by
  have K := trp_of (fv X1) (fv Y1) (fv Z1) (fv X2) (fv Y2) (fv Z2) _ _ _ _ _ _ _ _ _ _ _ _ _ _ _ _ _ _ _ _ _ _ _ _ _ _ _ _ _ w rd3 rd111 (tmV X1 X2) (tmV Y1 Y2) (tmV Z1 Z2)
    (crV X1 Y1 Z1 X2 Y2 Z2 X1 Y1 X2 Y2 0 1 (by decide) (by decide) rfl rfl rfl rfl)
    (crV X1 Y1 Z1 X2 Y2 Z2 X1 Z1 X2 Z2 0 2 (by decide) (by decide) rfl rfl rfl rfl)
    (crV X1 Y1 Z1 X2 Y2 Z2 Y1 Z1 Y2 Z2 1 2 (by decide) (by decide) rfl rfl rfl rfl)
    (tmV _ _) (mnV _ _) (tmV _ _) (plV _ _) (mnV _ _) (tmV _ _) (mnV _ _) (tmV _ _) (mnV _ _) (tmV _ _) (mnV _ _) (tmV _ _)
    (tmV _ _) (tmV _ _) (mnV _ _) (tmV _ _) (tmV _ _) (plV _ _) (tmV _ _) (tmV _ _) (plV _ _)
  refine K.mono ?_
  rintro e w' ⟨rfl, hb⟩
  refine ⟨?_, hb⟩
  have e1 : (X1 * Y2 + Y1 * X2) * (Y1 * Y2 + (X1 * Z2 + Z1 * X2 - 111 * (Z1 * Z2)) * 3) - (Y1 * Z2 + Z1 * Y2) * ((111 * (X1 * Z2 + Z1 * X2) - X1 * X2 - Z1 * Z2 * 3) * 3) = cX X1 Y1 Z1 X2 Y2 Z2 := by unfold cX; grobner
  have e2 : (X1 * X2 - Z1 * Z2) * 3 * ((111 * (X1 * Z2 + Z1 * X2) - X1 * X2 - Z1 * Z2 * 3) * 3) + (Y1 * Y2 + (X1 * Z2 + Z1 * X2 - 111 * (Z1 * Z2)) * 3) * (Y1 * Y2 - (X1 * Z2 + Z1 * X2 - 111 * (Z1 * Z2)) * 3) = cY X1 Y1 Z1 X2 Y2 Z2 := by unfold cY; grobner
  have e3 : (Y1 * Z2 + Z1 * Y2) * (Y1 * Y2 - (X1 * Z2 + Z1 * X2 - 111 * (Z1 * Z2)) * 3) + (X1 * Y2 + Y1 * X2) * ((X1 * X2 - Z1 * Z2) * 3) = cZ X1 Y1 Z1 X2 Y2 Z2 := by unfold cZ; grobner
  rw [e1, e2, e3]
end Go.Proofs.Ytaeanelfpaphiab
