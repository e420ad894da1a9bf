import Derived.Test.YtenggagjgmonoaaMapV
import Derived.Test.YtenggagjgmonoaaEqP
import Derived.Test.YtenggagjgmonoaaBase0
namespace Go.Proofs.Ytenggagjgmonoaa.fnExactMapToCurve
open Go.ChangeShapes Go.WideShapes Go.ChangeAt Go.RowKit
open Go.ChangeMaps (open_string shut_string)
set_option linter.unusedVariables false

set_option maxRecDepth 100000 in
set_option maxHeartbeats 2000000 in
theorem walk_of (u X Y : Int) (C : Bool) (w : World)
    (L : ∀ w, Calls Try.prog 4 #[.int .u64 u] w fun e w' => e = .returned (.agg #[.int .u64 X, .int .u64 Y, .bool C]) ∧ Below w.heap.size w w')
    (M : ∀ w, Calls Try.prog 5 #[.int .u64 u] w fun e w' => e = .returned (.agg #[.int .u64 X, .int .u64 Y, .bool C]) ∧ Below w.heap.size w w') :
    Calls Try.prog 3 #[.int .u64 u] w fun e w' => e = .returned (.bool true) ∧ Below w.heap.size w w' := by
  go_enter Try.func3, Try.ntmps3
  go_wp2_with fail
  refine (L _).mono ?_
  rintro e w2 ⟨rfl, b2⟩
  have hb := b2.alloc b2.size (Obj.cells #[.int .u64 X, .int .u64 Y, .bool C] 24)
  have hw := K3.new w2 24 X Y C
  clear b2 L
  go_wp2_with fail
  refine (M _).mono ?_
  rintro e w4 ⟨rfl, b2⟩
  replace hw := (hw.keep b2).alloc (Obj.cells #[.int .u64 X, .int .u64 Y, .bool C] 24)
  replace hb := keepB hb hb.size b2
  replace hb := hb.alloc hb.size (Obj.cells #[.int .u64 X, .int .u64 Y, .bool C] 24)
  clear b2 M
  have d0 := hw.c0
  have d1 := hw.c1
  have d2 := hw.c2
  go_wp2_with fail
  refine (eqP _ _ _ _).mono ?_
  rintro e w5 ⟨rfl, b1⟩
  replace hb := keepB hb hb.size b1
  go_wp2
  go_ret
  exact ⟨rfl, hb⟩
theorem walk (a : Nat) (ha : a < 18446744073709551616) (w : World) :
    Calls Try.prog 3 #[.int .u64 a] w fun e w' => e = .returned (.bool true) ∧ Below w.heap.size w w' :=
  walk_of _ _ _ _ w (fun w => mapS_any a w) (fun w => mapI_any a w)

set_option maxRecDepth 100000 in
theorem lifted (os : Os) (started : os.Started) (H : Type) (enc : TypeId × Value → H) :
    ReturnsInHanded {} Try.checked os 3 .any (Rows.fnExactMapToCurveSpec.pre6 enc Try.prog Try.f3 Rows.fnExactMapToCurveRow.domain false) (Rows.fnExactMapToCurveSpec.post enc Try.prog Try.f3 false true false false) := by
  refine returnsInHanded_of_change (C := Try.checked) own started (by kernel_rfl) Try.func3
    (ChangeSpec.witness6 (enc := enc) (C := Try.checked) false ⟨#[], #[.int .u64 0], []⟩ 8 (by kernel_rfl) (by kernel_rfl) (by kernel_rfl) (by kernel_rfl)) ?_
  intro W base args ds gs before hval0 hW hcnd _
  have hval : ∀ (j : Nat) t v, Try.f3.params[j]? = some t → args[j]? = some v → Value.okWide Try.prog W .any base t v := hval0
  have hW' := hW
  obtain ⟨p, q, hA0, hV, rfl, hfz, hnd⟩ := hW
  have hA : DataW.TrodAll enc Try.prog W 0 (fun _ => true) true Try.f3.params.toList args.toList ds p := hA0
  rw [Try.params3] at hA hval
  obtain ⟨v0, vs0, d0, ds0, p0, q0, hargs, rfl, rfl, h0, r0⟩ := trodAll_cons hA
  obtain ⟨rfl, rfl, rfl⟩ := trodAll_nil r0
  obtain rfl : args = #[v0] := by cases args; simp_all
  obtain ⟨a0, rfl, rfl, rfl, w0⟩ := open_int Try.underlying22 (hval 0 22 v0 rfl rfl) h0
  obtain ⟨n0, rfl, l0⟩ := u64_nat w0
  clear hA0 hval0
  have hV2 := hV
  obtain ⟨rfl, rfl⟩ := trodVars_none hV
  refine (walk n0 l0 W).mono fun e W' ⟨he, bel⟩ => ?_
  subst he
  exact ⟨_, rfl, _, _, _, [], [], [], hW', trodAll_mk1 (shut_bool Try.underlying4 _), trodAll_cons_mk (shut_int Try.underlying22 w0) (trodAll_mk0), Below.trodVars laidOut bel varsR0 hV2, bel.frame _, fun h => by cases h⟩

theorem over : Rows.fnExactMapToCurveRow.holds Try.pinned (OpenSpec.ofChange Rows.fnExactMapToCurveSpec) :=
  OpenClaim.holds_of_wide 3 Try.f3 rfl rfl rfl rfl rfl rfl rfl ⟨rfl, rfl, rfl, rfl, rfl⟩ rfl rfl rfl rfl rfl (by kernel_rfl) Try.func3 (by kernel_rfl)
    (of_decide_eq_true (by kernel_rfl)) (by unfold Func.isWrapper; first | (rw [if_pos (by decide +kernel)]; kernel_rfl) | (rw [if_neg (by decide +kernel)]; exact ⟨rfl, rfl⟩))
    (fun os started H enc _ => lifted os started H enc)
end Go.Proofs.Ytenggagjgmonoaa.fnExactMapToCurve
namespace Go.Proofs.Ytenggagjgmonoaa
/-- ████ THE STATEMENT ████ -/
theorem fnExactMapToCurve_said : Rows.FnExactMapToCurveSaid := fnExactMapToCurve.over
#print axioms fnExactMapToCurve_said
end Go.Proofs.Ytenggagjgmonoaa
