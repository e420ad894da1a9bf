import Derived.Test.YtaackegkphmlkaaRedI
import Derived.Test.YtaackegkphmlkaaBase0
namespace Go.Proofs.Ytaackegkphmlkaa.fnExactReduce
open Go.ChangeShapes Go.WideShapes Go.ChangeAt Go.RowKit
open Go.ChangeMaps (open_string shut_string)
set_option linter.unusedVariables false

set_option maxRecDepth 100000 in
theorem walk (s : ByteArray) (m : Nat) (hs : s.size ≤ maxLen) (hm : m < 18446744073709551616) (w : World) :
    Calls Try.prog 5 #[.string s, .int .u64 m] w fun e w' => e = .returned (.bool true) ∧ Below w.heap.size w w' := by
  obtain ⟨c, L, M⟩ : ∃ c : Nat, (∀ w, Calls Try.prog 13 #[.string s, .int .u64 m] w fun e w' => e = .returned (.int .u64 c) ∧ w = w') ∧ (∀ w, Calls Try.prog 14 #[.string s, .int .u64 m] w fun e w' => e = .returned (.int .u64 c) ∧ Below w.heap.size w w') := by
    by_cases h0 : m = 0
    · subst h0; exact ⟨0, redS_zero s, reduI_zero s⟩
    · by_cases h1 : s.size ≤ 65535
      · exact ⟨_, fun w => redS_any s m w h1 hm h0, fun w => reduI_any s m w h1 hm h0⟩
      · exact ⟨0, fun w => redS_long s m w h1 h0, fun w => reduI_long s m w h1 h0⟩
  clear hm hs
  by_cases hb : (1048576 : Int) < (s.size : Int)
  · go_enter Try.func5, Try.ntmps5
    go_wp2
    go_ret
    exact ⟨rfl, Below.refl _ _⟩
  · go_enter Try.func5, Try.ntmps5
    go_wp2_with fail
    refine (L _).mono ?_
    rintro e w' ⟨rfl, rfl⟩
    go_wp2_with fail
    refine (M _).mono ?_
    rintro e w' ⟨rfl, hb⟩
    go_wp2
    go_ret
    exact ⟨rfl, hb⟩

set_option maxRecDepth 100000 in
theorem lifted (os : Os) (started : os.Started) (H : Type) (enc : TypeId × Value → H) :
    ReturnsInHanded {} Try.checked os 5 .any (Rows.fnExactReduceSpec.pre6 enc Try.prog Try.f5 Rows.fnExactReduceRow.domain false) (Rows.fnExactReduceSpec.post enc Try.prog Try.f5 false true false false) := by
  refine returnsInHanded_of_change (C := Try.checked) own started (by kernel_rfl) Try.func5
    (ChangeSpec.witness6 (enc := enc) (C := Try.checked) false ⟨#[], #[.string ByteArray.empty, .int .u64 0], []⟩ 8 (by kernel_rfl) (by kernel_rfl) (by kernel_rfl) (by kernel_rfl)) ?_
  intro W base args ds gs before hval0 hW hcnd _
  have hval : ∀ (j : Nat) t v, Try.f5.params[j]? = some t → args[j]? = some v → Value.okWide Try.prog W .any base t v := hval0
  have hW' := hW
  obtain ⟨p, q, hA0, hV, rfl, hfz, hnd⟩ := hW
  have hA : DataW.TrodAll enc Try.prog W 0 (fun _ => true) true Try.f5.params.toList args.toList ds p := hA0
  rw [Try.params5] at hA hval
  obtain ⟨v0, vs0, d0, ds0, p0, q0, hargs, rfl, rfl, h0, r0⟩ := trodAll_cons hA
  obtain ⟨v1, vs1, d1, ds1, p1, q1, rfl, rfl, rfl, h1, r1⟩ := trodAll_cons r0
  obtain ⟨rfl, rfl, rfl⟩ := trodAll_nil r1
  obtain rfl : args = #[v0, v1] := by cases args; simp_all
  obtain ⟨a0, rfl, rfl, rfl, w0⟩ := open_string Try.underlying9 (hval 0 9 v0 rfl rfl) h0
  obtain ⟨a1, rfl, rfl, rfl, w1⟩ := open_int Try.underlying22 (hval 1 22 v1 rfl rfl) h1
  obtain ⟨n1, rfl, l1⟩ := u64_nat w1
  clear hA0 hval0
  have hV2 := hV
  obtain ⟨rfl, rfl⟩ := trodVars_none hV
  refine (walk a0 n1 w0 l1 W).mono fun e W' ⟨he, bel⟩ => ?_
  subst he
  exact ⟨_, rfl, _, _, _, [], [], [], hW', trodAll_mk1 (shut_bool Try.underlying4 _), trodAll_cons_mk (shut_string Try.underlying9 w0) (trodAll_cons_mk (shut_int Try.underlying22 w1) (trodAll_mk0)), Below.trodVars laidOut bel varsR0 hV2, bel.frame _, fun h => by cases h⟩

theorem over : Rows.fnExactReduceRow.holds Try.pinned (OpenSpec.ofChange Rows.fnExactReduceSpec) :=
  OpenClaim.holds_of_wide 5 Try.f5 rfl rfl rfl rfl rfl rfl rfl ⟨rfl, rfl, rfl, rfl, rfl⟩ rfl rfl rfl rfl rfl (by kernel_rfl) Try.func5 (by kernel_rfl)
    (of_decide_eq_true (by kernel_rfl)) (by unfold Func.isWrapper; first | (rw [if_pos (by decide +kernel)]; kernel_rfl) | (rw [if_neg (by decide +kernel)]; exact ⟨rfl, rfl⟩))
    (fun os started H enc _ => lifted os started H enc)
end Go.Proofs.Ytaackegkphmlkaa.fnExactReduce
namespace Go.Proofs.Ytaackegkphmlkaa
/-- ████ THE STATEMENT ████ -/
theorem fnExactReduce_said : Rows.FnExactReduceSaid := fnExactReduce.over
#print axioms fnExactReduce_said
end Go.Proofs.Ytaackegkphmlkaa
