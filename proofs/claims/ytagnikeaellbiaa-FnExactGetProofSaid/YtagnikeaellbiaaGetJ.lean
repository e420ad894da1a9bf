import Derived.Test.YtagnikeaellbiaaGetF
import Derived.Test.YtagnikeaellbiaaGetT
namespace Go.Proofs.Ytagnikeaellbiaa
open Go.RowKit
set_option linter.unusedVariables false
/-- GetScalar of both sides answers alike -/
theorem sca_both (s : ByteArray) : ∃ (c : Int) (b : Bool), (∀ w, Calls Try.prog 13 #[.string s] w fun e w' => e = .returned (.tuple #[.int .u64 c, .bool b]) ∧ Below w.heap.size w w') ∧ (∀ w, Calls Try.prog 14 #[.string s] w fun e w' => e = .returned (.tuple #[.int .u64 c, .bool b]) ∧ Below w.heap.size w w') := by
  have up : ∀ {c : Int} {b : Bool}, (∀ w, Calls Try.prog 13 #[.string s] w fun e w' => e = .returned (.tuple #[.int .u64 c, .bool b]) ∧ w = w') → ∀ w, Calls Try.prog 13 #[.string s] w fun e w' => e = .returned (.tuple #[.int .u64 c, .bool b]) ∧ Below w.heap.size w w' := fun h w => (h w).mono fun e w' ⟨he, hw⟩ => ⟨he, hw ▸ Below.refl _ _⟩
  by_cases h0 : s.size = 8
  · have L := fun w => wdS_any s w h0
    have M := fun w => wdI_any s w h0
    by_cases h1 : numL (byt s) < 2305843010818082053
    · exact ⟨(numL (byt s) : Nat), true, up fun w => scaS_less s _ w (by omega) (by omega) L, fun w => scaI_two s _ _ _ w (by omega) M (fun w => exN_less _ w (by omega))⟩
    · exact ⟨0, false, up fun w => scaS_more s _ w (by omega) (by omega) L, fun w => scaI_two s _ _ _ w (by omega) M (fun w => exN_more _ w (by omega))⟩
  · exact ⟨0, false, up fun w => scaS_bad s w h0, fun w => scaI_bad s w h0⟩
/-- GetProof of both sides answers alike -/
theorem prf_any (s : ByteArray) : ∃ (X Y : Int) (b : Bool), (∀ w, Calls Try.prog 8 #[.string s] w fun e w' => e = .returned (.tuple #[.agg #[.int .u64 X, .int .u64 Y], .bool b]) ∧ Below w.heap.size w w') ∧ (∀ w, Calls Try.prog 9 #[.string s] w fun e w' => e = .returned (.tuple #[.agg #[.int .u64 X, .int .u64 Y], .bool b]) ∧ Below w.heap.size w w') := by
  by_cases h : s.size = 16
  · obtain ⟨x, b1, L1, M1⟩ := sca_both (s.extract 0 8)
    obtain ⟨y, b2, L2, M2⟩ := sca_both (s.extract 8 16)
    exact ⟨_, _, _, fun w => getT_of s _ _ x y b1 b2 w (by omega) rfl rfl (by rw [h]) L1 L2, fun w => getF_of s _ _ x y b1 b2 w (by omega) rfl rfl (by rw [h]) M1 M2⟩
  · exact ⟨0, 0, false, fun w => getT_bad s w h, fun w => getF_bad s w h⟩
end Go.Proofs.Ytagnikeaellbiaa
