import Derived.Test.YtaackegkphmlkaaScaI
import Derived.Test.YtaackegkphmlkaaBase0
namespace Go.Proofs.Ytaackegkphmlkaa.fnExactGetScalar
open Go.ChangeShapes Go.WideShapes Go.ChangeAt Go.RowKit
open Go.ChangeMaps (open_string shut_string)
set_option linter.unusedVariables false

set_option maxRecDepth 100000 in
theorem walk (s : ByteArray) (hs : s.size ≤ maxLen) (w : World) :
    Calls Try.prog 4 #[.string s] w fun e w' => e = .returned (.bool true) ∧ Below w.heap.size w w' := by
  obtain ⟨c, b, L, M⟩ : ∃ (c : Int) (b : Bool), (∀ w, Calls Try.prog 11 #[.string s] w fun e w' => e = .returned (.tuple #[.int .u64 c, .bool b]) ∧ w = w') ∧ (∀ w, Calls Try.prog 12 #[.string s] w fun e w' => e = .returned (.tuple #[.int .u64 c, .bool b]) ∧ Below w.heap.size w w') := by
    by_cases h0 : s.size = 8
    · have L := fun w => wdS_any s w h0
      have M := fun w => wdI_any s w h0
      by_cases h1 : numL (byt s) < 2305843010818082053
      · exact ⟨(numL (byt s) : Nat), true, fun w => scaS_less s _ w (by omega) (by omega) L, fun w => scaI_two s _ _ _ w (by omega) M (fun w => exN_less _ w (by omega))⟩
      · exact ⟨0, false, fun w => scaS_more s _ w (by omega) (by omega) L, fun w => scaI_two s _ _ _ w (by omega) M (fun w => exN_more _ w (by omega))⟩
    · exact ⟨0, false, fun w => scaS_bad s w h0, fun w => scaI_bad s w h0⟩
  clear hs
  by_cases hb : (1048576 : Int) < (s.size : Int)
  · go_enter Try.func4, Try.ntmps4
    go_wp2
    go_ret
    exact ⟨rfl, Below.refl _ _⟩
  · go_enter Try.func4, Try.ntmps4
    go_wp2_with fail
    refine (L _).mono ?_
    rintro e w' ⟨rfl, rfl⟩
    go_wp2_with fail
    refine (M _).mono ?_
    rintro e w' ⟨rfl, hb⟩
    go_wp2
    go_ret
    exact ⟨rfl, hb⟩

set_option maxRecDepth 100000 in
theorem lifted (os : Os) (started : os.Started) (H : Type) (enc : TypeId × Value → H) :
    ReturnsInHanded {} Try.checked os 4 .any (Rows.fnExactGetScalarSpec.pre6 enc Try.prog Try.f4 Rows.fnExactGetScalarRow.domain false) (Rows.fnExactGetScalarSpec.post enc Try.prog Try.f4 false true false false) := by
  refine returnsInHanded_of_change (C := Try.checked) own started (by kernel_rfl) Try.func4
    (ChangeSpec.witness6 (enc := enc) (C := Try.checked) false ⟨#[], #[.string ByteArray.empty], []⟩ 8 (by kernel_rfl) (by kernel_rfl) (by kernel_rfl) (by kernel_rfl)) ?_
  intro W base args ds gs before hval0 hW hcnd _
  have hval : ∀ (j : Nat) t v, Try.f4.params[j]? = some t → args[j]? = some v → Value.okWide Try.prog W .any base t v := hval0
  have hW' := hW
  obtain ⟨p, q, hA0, hV, rfl, hfz, hnd⟩ := hW
  have hA : DataW.TrodAll enc Try.prog W 0 (fun _ => true) true Try.f4.params.toList args.toList ds p := hA0
  rw [Try.params4] at hA hval
  obtain ⟨v0, vs0, d0, ds0, p0, q0, hargs, rfl, rfl, h0, r0⟩ := trodAll_cons hA
  obtain ⟨rfl, rfl, rfl⟩ := trodAll_nil r0
  obtain rfl : args = #[v0] := by cases args; simp_all
  obtain ⟨a0, rfl, rfl, rfl, w0⟩ := open_string Try.underlying9 (hval 0 9 v0 rfl rfl) h0
  clear hA0 hval0
  have hV2 := hV
  obtain ⟨rfl, rfl⟩ := trodVars_none hV
  refine (walk a0 w0 W).mono fun e W' ⟨he, bel⟩ => ?_
  subst he
  exact ⟨_, rfl, _, _, _, [], [], [], hW', trodAll_mk1 (shut_bool Try.underlying4 _), trodAll_cons_mk (shut_string Try.underlying9 w0) (trodAll_mk0), Below.trodVars laidOut bel varsR0 hV2, bel.frame _, fun h => by cases h⟩

theorem over : Rows.fnExactGetScalarRow.holds Try.pinned (OpenSpec.ofChange Rows.fnExactGetScalarSpec) :=
  OpenClaim.holds_of_wide 4 Try.f4 rfl rfl rfl rfl rfl rfl rfl ⟨rfl, rfl, rfl, rfl, rfl⟩ rfl rfl rfl rfl rfl (by kernel_rfl) Try.func4 (by kernel_rfl)
    (of_decide_eq_true (by kernel_rfl)) (by unfold Func.isWrapper; first | (rw [if_pos (by decide +kernel)]; kernel_rfl) | (rw [if_neg (by decide +kernel)]; exact ⟨rfl, rfl⟩))
    (fun os started H enc _ => lifted os started H enc)
end Go.Proofs.Ytaackegkphmlkaa.fnExactGetScalar
namespace Go.Proofs.Ytaackegkphmlkaa
/-- ████ THE STATEMENT ████ -/
theorem fnExactGetScalar_said : Rows.FnExactGetScalarSaid := fnExactGetScalar.over
#print axioms fnExactGetScalar_said
end Go.Proofs.Ytaackegkphmlkaa
