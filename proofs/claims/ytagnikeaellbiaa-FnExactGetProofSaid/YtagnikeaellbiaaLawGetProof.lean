import Derived.Test.YtagnikeaellbiaaGetJ
import Derived.Test.YtagnikeaellbiaaLawF
import Derived.Test.YtagnikeaellbiaaBase0
namespace Go.Proofs.Ytagnikeaellbiaa.fnExactGetProof
open Go.ChangeShapes Go.WideShapes Go.ChangeAt Go.RowKit
open Go.ChangeMaps (open_string shut_string)
set_option linter.unusedVariables false

set_option maxRecDepth 100000 in
theorem walk_long (s : ByteArray) (w : World) (h : (1048576 : Int) < (s.size : Int)) :
    Calls Try.prog 4 #[.string s] w fun e w' => e = .returned (.bool true) ∧ Below w.heap.size w w' := by
  go_enter Try.func4, Try.ntmps4
  go_wp2
  go_ret
  exact ⟨rfl, Below.refl _ _⟩
set_option maxRecDepth 100000 in
set_option maxHeartbeats 2000000 in
theorem walk_of (s : ByteArray) (X Y : Int) (ok : Bool) (w : World) (h : (s.size : Int) ≤ 1048576)
    (L : ∀ w, Calls Try.prog 8 #[.string s] w fun e w' => e = .returned (.tuple #[.agg #[.int .u64 X, .int .u64 Y], .bool ok]) ∧ Below w.heap.size w w')
    (M : ∀ w, Calls Try.prog 9 #[.string s] w fun e w' => e = .returned (.tuple #[.agg #[.int .u64 X, .int .u64 Y], .bool ok]) ∧ Below w.heap.size w w') :
    Calls Try.prog 4 #[.string s] w fun e w' => e = .returned (.bool true) ∧ Below w.heap.size w w' := by
  go_enter Try.func4, Try.ntmps4
  go_wp2_with fail
  refine (L _).mono ?_
  rintro e w1 ⟨rfl, hb⟩
  have hw := K2.new w1 26 X Y
  replace hb := hb.alloc hb.size (Obj.cells #[.int .u64 X, .int .u64 Y] 26)
  clear L
  go_wp2_with fail
  refine (M _).mono ?_
  rintro e w2 ⟨rfl, b2⟩
  replace hw := (hw.keep b2).alloc (Obj.cells #[.int .u64 X, .int .u64 Y] 26)
  replace hb := keepK hb hb.size b2
  replace hb := hb.alloc hb.size (Obj.cells #[.int .u64 X, .int .u64 Y] 26)
  clear b2 M
  have d0 := hw.c0
  have d1 := hw.c1
  go_wp2_with fail
  refine (eqF _ _ _).mono ?_
  rintro e w3 ⟨rfl, b1⟩
  replace hb := keepK hb hb.size b1
  cases ok <;> (go_wp2; go_ret; exact ⟨rfl, hb⟩)
theorem walk (s : ByteArray) (hs : s.size ≤ maxLen) (w : World) :
    Calls Try.prog 4 #[.string s] w fun e w' => e = .returned (.bool true) ∧ Below w.heap.size w w' := by
  by_cases h : (1048576 : Int) < (s.size : Int)
  · exact walk_long s w h
  · obtain ⟨X, Y, b, L, M⟩ := prf_any s
    exact walk_of s X Y b w (by omega) L M

set_option maxRecDepth 100000 in
theorem lifted (os : Os) (started : os.Started) (H : Type) (enc : TypeId × Value → H) :
    ReturnsInHanded {} Try.checked os 4 .any (Rows.fnExactGetProofSpec.pre6 enc Try.prog Try.f4 Rows.fnExactGetProofRow.domain false) (Rows.fnExactGetProofSpec.post enc Try.prog Try.f4 false true false false) := by
  refine returnsInHanded_of_change (C := Try.checked) own started (by kernel_rfl) Try.func4
    (ChangeSpec.witness6 (enc := enc) (C := Try.checked) false ⟨#[], #[.string ByteArray.empty], []⟩ 8 (by kernel_rfl) (by kernel_rfl) (by kernel_rfl) (by kernel_rfl)) ?_
  intro W base args ds gs before hval0 hW hcnd _
  have hval : ∀ (j : Nat) t v, Try.f4.params[j]? = some t → args[j]? = some v → Value.okWide Try.prog W .any base t v := hval0
  have hW' := hW
  obtain ⟨p, q, hA0, hV, rfl, hfz, hnd⟩ := hW
  have hA : DataW.TrodAll enc Try.prog W 0 (fun _ => true) true Try.f4.params.toList args.toList ds p := hA0
  rw [Try.params4] at hA hval
  obtain ⟨v0, vs0, d0, ds0, p0, q0, hargs, rfl, rfl, h0, r0⟩ := trodAll_cons hA
  obtain ⟨rfl, rfl, rfl⟩ := trodAll_nil r0
  obtain rfl : args = #[v0] := by cases args; simp_all
  obtain ⟨a0, rfl, rfl, rfl, w0⟩ := open_string Try.underlying9 (hval 0 9 v0 rfl rfl) h0
  clear hA0 hval0
  have hV2 := hV
  obtain ⟨rfl, rfl⟩ := trodVars_none hV
  refine (walk a0 w0 W).mono fun e W' ⟨he, bel⟩ => ?_
  subst he
  exact ⟨_, rfl, _, _, _, [], [], [], hW', trodAll_mk1 (shut_bool Try.underlying4 _), trodAll_cons_mk (shut_string Try.underlying9 w0) (trodAll_mk0), Below.trodVars laidOut bel varsR0 hV2, bel.frame _, fun h => by cases h⟩

theorem over : Rows.fnExactGetProofRow.holds Try.pinned (OpenSpec.ofChange Rows.fnExactGetProofSpec) :=
  OpenClaim.holds_of_wide 4 Try.f4 rfl rfl rfl rfl rfl rfl rfl ⟨rfl, rfl, rfl, rfl, rfl⟩ rfl rfl rfl rfl rfl (by kernel_rfl) Try.func4 (by kernel_rfl)
    (of_decide_eq_true (by kernel_rfl)) (by unfold Func.isWrapper; first | (rw [if_pos (by decide +kernel)]; kernel_rfl) | (rw [if_neg (by decide +kernel)]; exact ⟨rfl, rfl⟩))
    (fun os started H enc _ => lifted os started H enc)
end Go.Proofs.Ytagnikeaellbiaa.fnExactGetProof
namespace Go.Proofs.Ytagnikeaellbiaa
/-- ████ THE STATEMENT ████ -/
theorem fnExactGetProof_said : Rows.FnExactGetProofSaid := fnExactGetProof.over
#print axioms fnExactGetProof_said
end Go.Proofs.Ytagnikeaellbiaa
