import Derived.Test.YtaeanelfpaphiaaKap
import Derived.Test.YtaeanelfpaphiaaBase0
namespace Go.Proofs.Ytaeanelfpaphiaa.fnExactBase
open Go.ChangeShapes Go.WideShapes Go.ChangeAt Go.RowKit
open Go.ChangeMaps (open_string shut_string)
set_option linter.unusedVariables false

set_option maxRecDepth 100000 in
theorem bsS (w : World) : Calls Try.prog 9 #[] w fun e w' => e = .returned (.agg #[.int .u64 1, .int .u64 509478702933351334, .bool false]) ∧ Below w.heap.size w w' := by
  go_enter Try.func9, Try.ntmps9
  go_wp2
  refine bodyPost_ret (v := .agg #[.int .u64 1, .int .u64 509478702933351334, .bool false]) (by simp [results, Try.results9, go_sem]) rfl ⟨rfl, (Below.refl _ w).alloc (Nat.le_refl _) _⟩
set_option maxRecDepth 100000 in
theorem bsP (w : World) : Calls Try.prog 23 #[] w fun e w' => e = .returned (.agg #[.int .u64 1, .int .u64 509478702933351334, .bool false]) ∧ Below w.heap.size w w' := by
  go_enter Try.func23, Try.ntmps23
  go_wp2
  refine bodyPost_ret (v := .agg #[.int .u64 1, .int .u64 509478702933351334, .bool false]) (by simp [results, Try.results23, go_sem]) rfl ⟨rfl, (Below.refl _ w).alloc (Nat.le_refl _) _⟩
theorem fldB (X Y : Int) (c : Bool) (w : World) : (Instr.field 40 (.agg #[.int .u64 X, .int .u64 Y, .bool c]) 0).run Try.prog w = .ok (.agg #[.int .u64 X, .int .u64 Y, .bool c]) w := by kernel_rfl
set_option maxRecDepth 100000 in
theorem bsI (w : World) : Calls Try.prog 10 #[] w fun e w' => e = .returned (.agg #[.int .u64 1, .int .u64 509478702933351334, .bool false]) ∧ Below w.heap.size w w' := by
  have hf := fldB
  have hr := Q3.new w 24 0 0 false
  have hb := (Below.refl _ w).alloc (Nat.le_refl _) (Obj.cells #[.int .u64 0, .int .u64 0, .bool false] 24)
  go_enter Try.func10, Try.ntmps10
  go_wp2_with fail
  refine (bsP _).mono ?_
  rintro e w1 ⟨rfl, b1⟩
  replace hr := hr.keep b1
  replace hb := hb.trans (b1.mono hb.size)
  have c0 := hr.c0
  have c1 := hr.c1
  have c2 := hr.c2
  have f0 := hr.frz 0
  have f1 := hr.frz 1
  have f2 := hr.frz 2
  go_wp2
  refine bodyPost_ret (v := .agg #[.int .u64 1, .int .u64 509478702933351334, .bool false]) (results_mid (fn := Try.f10) (p := 0) (ty := 24) Try.results10 _ _ w.heap.size 0 [.int .u64 1, .int .u64 509478702933351334, .bool false] _ rfl (hr.set 1 509478702933351334 false).range Try.underlying24 rfl (by kernel_rfl)) rfl ⟨rfl, ?_⟩
  exact ((hb.setCell (p := ⟨w.heap.size, 0, none⟩) (Nat.le_refl _) _).setCell (p := ⟨w.heap.size, 1, none⟩) (Nat.le_refl _) _).setCell (p := ⟨w.heap.size, 2, none⟩) (Nat.le_refl _) _
set_option maxRecDepth 100000 in
theorem bsE (x y : Int) (c : Bool) (w : World) :
    Calls Try.prog 11 #[.agg #[.int .u64 x, .int .u64 y, .bool c], .agg #[.int .u64 x, .int .u64 y, .bool c]] w fun e w' => e = .returned (.bool true) ∧ Below w.heap.size w w' := by
  go_enter Try.func11, Try.ntmps11
  go_wp2
  go_ret
  exact ⟨rfl, ((Below.refl _ w).alloc (Nat.le_refl _) _).alloc (by simp) _⟩
set_option maxRecDepth 100000 in
theorem walk (w : World) :
    Calls Try.prog 3 #[] w fun e w' => e = .returned (.bool true) ∧ Below w.heap.size w w' := by
  go_enter Try.func3, Try.ntmps3
  go_wp2_with fail
  refine (bsS _).mono ?_
  rintro e w1 ⟨rfl, hb⟩
  replace hb := hb.alloc hb.size (Obj.cells #[.int .u64 1, .int .u64 509478702933351334, .bool false] 24)
  have hp := Q3.new w1 24 1 509478702933351334 false
  go_wp2_with fail
  refine (bsI _).mono ?_
  rintro e w2 ⟨rfl, b2⟩
  replace hb := hb.trans (b2.mono hb.size)
  replace hb := hb.alloc hb.size (Obj.cells #[.int .u64 1, .int .u64 509478702933351334, .bool false] 24)
  replace hp := (hp.keep b2).alloc (Obj.cells #[.int .u64 1, .int .u64 509478702933351334, .bool false] 24)
  have c0 := hp.c0
  have c1 := hp.c1
  have c2 := hp.c2
  go_wp2_with fail
  refine (bsE _ _ _ _).mono ?_
  rintro e w3 ⟨rfl, b3⟩
  replace hb := hb.trans (b3.mono hb.size)
  go_wp2
  go_ret
  exact ⟨rfl, hb⟩

set_option maxRecDepth 100000 in
theorem lifted (os : Os) (started : os.Started) (H : Type) (enc : TypeId × Value → H) :
    ReturnsInHanded {} Try.checked os 3 .any (Rows.fnExactBaseSpec.pre6 enc Try.prog Try.f3 Rows.fnExactBaseRow.domain false) (Rows.fnExactBaseSpec.post enc Try.prog Try.f3 false true false false) := by
  refine returnsInHanded_of_change (C := Try.checked) own started (by kernel_rfl) Try.func3
    (ChangeSpec.witness6 (enc := enc) (C := Try.checked) false ⟨#[], #[], []⟩ 8 (by kernel_rfl) (by kernel_rfl) (by kernel_rfl) (by kernel_rfl)) ?_
  intro W base args ds gs before hval0 hW hcnd _
  have hval : ∀ (j : Nat) t v, Try.f3.params[j]? = some t → args[j]? = some v → Value.okWide Try.prog W .any base t v := hval0
  have hW' := hW
  obtain ⟨p, q, hA0, hV, rfl, hfz, hnd⟩ := hW
  have hA : DataW.TrodAll enc Try.prog W 0 (fun _ => true) true Try.f3.params.toList args.toList ds p := hA0
  rw [Try.params3] at hA hval
  obtain ⟨hargs, rfl, rfl⟩ := trodAll_nil hA
  obtain rfl : args = #[] := by cases args; simp_all
  clear hA0 hval0
  have hV2 := hV
  obtain ⟨rfl, rfl⟩ := trodVars_none hV
  refine (walk   W).mono fun e W' ⟨he, bel⟩ => ?_
  subst he
  exact ⟨_, rfl, _, _, _, [], [], [], hW', trodAll_mk1 (shut_bool Try.underlying4 _), trodAll_mk0, Below.trodVars laidOut bel varsR0 hV2, bel.frame _, fun h => by cases h⟩

theorem over : Rows.fnExactBaseRow.holds Try.pinned (OpenSpec.ofChange Rows.fnExactBaseSpec) :=
  OpenClaim.holds_of_wide 3 Try.f3 rfl rfl rfl rfl rfl rfl rfl ⟨rfl, rfl, rfl, rfl, rfl⟩ rfl rfl rfl rfl rfl (by kernel_rfl) Try.func3 (by kernel_rfl)
    (of_decide_eq_true (by kernel_rfl)) (by unfold Func.isWrapper; first | (rw [if_pos (by decide +kernel)]; kernel_rfl) | (rw [if_neg (by decide +kernel)]; exact ⟨rfl, rfl⟩))
    (fun os started H enc _ => lifted os started H enc)
end Go.Proofs.Ytaeanelfpaphiaa.fnExactBase
namespace Go.Proofs.Ytaeanelfpaphiaa
/-- ████ THE STATEMENT ████ -/
theorem fnExactBase_said : Rows.FnExactBaseSaid := fnExactBase.over
#print axioms fnExactBase_said
end Go.Proofs.Ytaeanelfpaphiaa
