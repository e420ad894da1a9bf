import Derived.Test.YtagnikeaellbiaaPutF
import Derived.Test.YtagnikeaellbiaaPutT
import Derived.Test.YtagnikeaellbiaaLawF
import Derived.Test.YtagnikeaellbiaaBase0
namespace Go.Proofs.Ytagnikeaellbiaa.fnExactPutProof
open Go.ChangeShapes Go.WideShapes Go.ChangeAt Go.RowKit
open Go.ChangeMaps (open_string shut_string)
set_option linter.unusedVariables false

set_option maxRecDepth 100000 in
set_option maxHeartbeats 2000000 in
theorem walk_of (x y : Int) (s : ByteArray) (w : World)
    (L : ∀ w, Calls Try.prog 5 #[.agg #[.int .u64 x, .int .u64 y]] w fun e w' => e = .returned (.string s) ∧ Below w.heap.size w w')
    (M : ∀ w, Calls Try.prog 7 #[.agg #[.int .u64 x, .int .u64 y]] w fun e w' => e = .returned (.string s) ∧ Below w.heap.size w w') :
    Calls Try.prog 3 #[.agg #[.int .u64 x, .int .u64 y]] w fun e w' => e = .returned (.bool true) ∧ Below w.heap.size w w' := by
  have hp := K2.new w 24 x y
  have hb := (Below.refl _ w).alloc (Nat.le_refl _) (Obj.cells #[.int .u64 x, .int .u64 y] 24)
  go_enter Try.func3, Try.ntmps3
  go_wp2_with fail
  refine (toF5 _ _ _).mono ?_
  rintro e w1 ⟨rfl, b1⟩
  go_wp2_with fail
  refine (L _).mono ?_
  rintro e w2 ⟨rfl, b2⟩
  replace hp := (hp.keep b1).keep b2
  replace hb := keepK hb hb.size b1
  replace hb := keepK hb hb.size b2
  clear b1 b2 L
  have c0 := hp.c0
  have c1 := hp.c1
  go_wp2_with fail
  refine (toF5 _ _ _).mono ?_
  rintro e w3 ⟨rfl, b1⟩
  go_wp2_with fail
  refine (M _).mono ?_
  rintro e w4 ⟨rfl, b2⟩
  replace hb := keepK hb hb.size b1
  replace hb := keepK hb hb.size b2
  clear b1 b2 M c0 c1 hp
  go_wp2
  go_ret
  exact ⟨rfl, hb⟩
theorem walk (x y : Nat) (hx : x < 18446744073709551616) (hy : y < 18446744073709551616) (w : World) :
    Calls Try.prog 3 #[.agg #[.int .u64 x, .int .u64 y]] w fun e w' => e = .returned (.bool true) ∧ Below w.heap.size w w' :=
  walk_of _ _ _ w (fun w => putT_any x y w hx hy) (fun w => putF_any x y w hx hy)

set_option maxRecDepth 100000 in
theorem lifted (os : Os) (started : os.Started) (H : Type) (enc : TypeId × Value → H) :
    ReturnsInHanded {} Try.checked os 3 .any (Rows.fnExactPutProofSpec.pre6 enc Try.prog Try.f3 Rows.fnExactPutProofRow.domain false) (Rows.fnExactPutProofSpec.post enc Try.prog Try.f3 false true false false) := by
  refine returnsInHanded_of_change (C := Try.checked) own started (by kernel_rfl) Try.func3
    (ChangeSpec.witness6 (enc := enc) (C := Try.checked) false ⟨#[], #[.agg #[.int .u64 0, .int .u64 0]], []⟩ 8 (by kernel_rfl) (by kernel_rfl) (by kernel_rfl) (by kernel_rfl)) ?_
  intro W base args ds gs before hval0 hW hcnd _
  have hval : ∀ (j : Nat) t v, Try.f3.params[j]? = some t → args[j]? = some v → Value.okWide Try.prog W .any base t v := hval0
  have hW' := hW
  obtain ⟨p, q, hA0, hV, rfl, hfz, hnd⟩ := hW
  have hA : DataW.TrodAll enc Try.prog W 0 (fun _ => true) true Try.f3.params.toList args.toList ds p := hA0
  rw [Try.params3] at hA hval
  obtain ⟨v0, vs0, d0, ds0, p0, q0, hargs, rfl, rfl, h0, r0⟩ := trodAll_cons hA
  obtain ⟨rfl, rfl, rfl⟩ := trodAll_nil r0
  obtain rfl : args = #[v0] := by cases args; simp_all
  obtain ⟨x0, y0, rfl, rfl, rfl, wx0, wy0, lx0, ly0⟩ := open_prf (hval 0 24 v0 rfl rfl) h0
  clear hA0 hval0
  have hV2 := hV
  obtain ⟨rfl, rfl⟩ := trodVars_none hV
  refine (walk x0 y0 lx0 ly0 W).mono fun e W' ⟨he, bel⟩ => ?_
  subst he
  exact ⟨_, rfl, _, _, _, [], [], [], hW', trodAll_mk1 (shut_bool Try.underlying4 _), trodAll_cons_mk (shut_prf wx0 wy0) (trodAll_mk0), Below.trodVars laidOut bel varsR0 hV2, bel.frame _, fun h => by cases h⟩

theorem over : Rows.fnExactPutProofRow.holds Try.pinned (OpenSpec.ofChange Rows.fnExactPutProofSpec) :=
  OpenClaim.holds_of_wide 3 Try.f3 rfl rfl rfl rfl rfl rfl rfl ⟨rfl, rfl, rfl, rfl, rfl⟩ rfl rfl rfl rfl rfl (by kernel_rfl) Try.func3 (by kernel_rfl)
    (of_decide_eq_true (by kernel_rfl)) (by unfold Func.isWrapper; first | (rw [if_pos (by decide +kernel)]; kernel_rfl) | (rw [if_neg (by decide +kernel)]; exact ⟨rfl, rfl⟩))
    (fun os started H enc _ => lifted os started H enc)
end Go.Proofs.Ytagnikeaellbiaa.fnExactPutProof
namespace Go.Proofs.Ytagnikeaellbiaa
/-- ████ THE STATEMENT ████ -/
theorem fnExactPutProof_said : Rows.FnExactPutProofSaid := fnExactPutProof.over
#print axioms fnExactPutProof_said
end Go.Proofs.Ytagnikeaellbiaa
