import Derived.Test.YtjmhmajfkdglnaaGreatDoorMrg3
import Derived.Test.YtjmhmajfkdglnaaGreatDoorMrg46
import Derived.Test.YtjmhmajfkdglnaaGreatDoorMrg38
set_option linter.unusedVariables false
set_option maxRecDepth 100000
set_option maxHeartbeats 16000000
namespace Go.Proofs.YtjmhmajfkdglnaaGreatDoor
open Go.ChangeShapes Go.WideShapes Go.ChangeAt Go.RowKit
open Go.ChangeMaps (open_string shut_string)
namespace evaluate
theorem varsR5 : varsRowed Tryz.prog ["loop.example/s02095/impl.errArgs", "loop.example/s02095/impl.errInverse", "loop.example/s02095/impl.roundWords", "loop.example/s02095/impl.errGroup", "loop.example/s02095/impl.errVerify"] = true := by kernel_rfl
theorem contract (H : Type) (enc : TypeId × Value → H) (W : World) (base : Nat) (args : Array Value) (ds gs : List (DataW H)) (before : List MemPlace)
    (hval : ∀ (j : Nat) t v, Tryz.f5.params[j]? = some t → args[j]? = some v → Value.okWide Tryz.prog W .any base t v)
    (hW : DataW.Whole enc Tryz.prog Tryz.f5.params.toList Rows.fnExactEvaluateSpec.vars false W args.toList ds gs before) (hL : laidMetH Tryz.prog Rows.fnExactEvaluateRow.laid W) :
    Calls Tryz.prog 5 args W fun e W' => ∃ v, e = .returned v ∧ Rows.fnExactEvaluateSpec.post enc Tryz.prog Tryz.f5 false true false false W args v W' := by
  have hW' := hW
  obtain ⟨p, q, hA0, hV, rfl, hfz, hnd⟩ := hW
  have hA : DataW.TrodAll enc Tryz.prog W 0 (fun _ => true) true Tryz.f5.params.toList args.toList ds p := hA0
  rw [Tryz.params5] at hA hval
  obtain ⟨v0, vs0, d0, ds0, p0, q0, hargs, rfl, rfl, h0, r0⟩ := trodAll_cons hA
  obtain ⟨v1, vs1, d1, ds1, p1, q1, rfl, rfl, rfl, h1, r1⟩ := trodAll_cons r0
  obtain ⟨v2, vs2, d2, ds2, p2, q2, rfl, rfl, rfl, h2, r2⟩ := trodAll_cons r1
  obtain ⟨v3, vs3, d3, ds3, p3, q3, rfl, rfl, rfl, h3, r3⟩ := trodAll_cons r2
  obtain ⟨v4, vs4, d4, ds4, p4, q4, rfl, rfl, rfl, h4, r4⟩ := trodAll_cons r3
  obtain ⟨rfl, rfl, rfl⟩ := trodAll_nil r4
  obtain rfl : args = #[v0, v1, v2, v3, v4] := by cases args; simp_all
  obtain ⟨g1, g2, g3, g4, g5, rfl⟩ := five (trodVars_len hV)
  obtain ⟨a0, rfl, rfl, rfl, w0⟩ := open_int Tryz.underlying3 (hval 0 3 v0 rfl rfl) h0
  obtain ⟨a1, rfl, rfl, rfl, w1⟩ := open_int Tryz.underlying22 (hval 1 22 v1 rfl rfl) h1
  obtain ⟨b1, rfl, hl1⟩ := u64_nat w1
  obtain ⟨a2, rfl, rfl, rfl, w2⟩ := open_string Tryz.underlying9 (hval 2 9 v2 rfl rfl) h2
  obtain ⟨a3, len3, cap3, rfl⟩ := okWide_slice Tryz.underlying36 (hval 3 36 v3 rfl rfl)
  have hlt3 : ∀ x ∈ p3, x.block < W.heap.size := fun x hx => hW'.lt x (by simp [hx])
  obtain ⟨a4, rfl, rfl, rfl, w4⟩ := open_int Tryz.underlying22 (hval 4 22 v4 rfl rfl) h4
  obtain ⟨b4, rfl, hl4⟩ := u64_nat w4
  clear hA0
  refine (walk a0 b1 a2 (.slice a3 len3 cap3) b4 W hl1 w2 (ars_of h3) hl4 (table hL (by kernel_rfl)) (sn_of hL)).mono fun e W' ⟨he, bel⟩ => ?_
  subst he
  exact ⟨_, rfl, _, _, _, [], [] ++ ([] ++ ([] ++ (p3 ++ ([] ++ [])))), q, hW', trodAll_mk1 (shut_bool Tryz.underlying4 _), (trodAll_cons_mk (shut_int Tryz.underlying3 w0) (trodAll_cons_mk (shut_int Tryz.underlying22 w1) (trodAll_cons_mk (shut_string Tryz.underlying9 w2) (trodAll_cons_mk (Below.trod laidOut (by kernel_rfl) (of_decide_eq_true (by kernel_rfl)) h3 bel hlt3) (trodAll_cons_mk (shut_int Tryz.underlying22 w4) trodAll_mk0))))), Below.trodVars laidOut bel varsR5 hV, bel.frame _, fun h => by cases h⟩
theorem laid_met (os : Os) : laidMet Tryz.prog Rows.fnExactEvaluateRow.laid ((laidWorld6 os).forCall (fun _ _ => 0) ⟨#[], #[.int .i64 0, .int .u64 0, .string ByteArray.empty, .slice none 0 0, .int .u64 0], []⟩).memory :=
  laidMet_of_run' 8 (by kernel_rfl) (by kernel_rfl)
theorem reads (os : Os) {H : Type} (enc : TypeId × Value → H) : ∃ places, DataW.whole enc Tryz.prog ((laidWorld6 os).forCall (fun _ _ => 0) ⟨#[], #[.int .i64 0, .int .u64 0, .string ByteArray.empty, .slice none 0 0, .int .u64 0], []⟩).memory Tryz.f5.params.toList Rows.fnExactEvaluateSpec.vars false #[Value.int .i64 0, Value.int .u64 0, Value.string ByteArray.empty, Value.slice none 0 0, Value.int .u64 0].toList 8 = some ([.lit (.int .i64 0), .lit (.int .u64 0), .lit (.string []), .nil, .lit (.int .u64 0)], [DataW.held (enc (316, .pointer (some ⟨low6 + 0, 0, none⟩))), DataW.held (enc (316, .pointer (some ⟨low6 + 2, 0, none⟩))), Rows.laid_loop_example_s02095_impl_roundWords, DataW.held (enc (316, .pointer (some ⟨low6 + 1, 0, none⟩))), DataW.held (enc (316, .pointer (some ⟨low6 + 3, 0, none⟩)))], places) := by
  have h : (DataW.whole enc Tryz.prog ((laidWorld6 os).forCall (fun _ _ => 0) ⟨#[], #[.int .i64 0, .int .u64 0, .string ByteArray.empty, .slice none 0 0, .int .u64 0], []⟩).memory Tryz.f5.params.toList Rows.fnExactEvaluateSpec.vars false #[Value.int .i64 0, Value.int .u64 0, Value.string ByteArray.empty, Value.slice none 0 0, Value.int .u64 0].toList 8).map (fun x => (x.1, x.2.1)) = some ([.lit (.int .i64 0), .lit (.int .u64 0), .lit (.string []), .nil, .lit (.int .u64 0)], [DataW.held (enc (316, .pointer (some ⟨low6 + 0, 0, none⟩))), DataW.held (enc (316, .pointer (some ⟨low6 + 2, 0, none⟩))), Rows.laid_loop_example_s02095_impl_roundWords, DataW.held (enc (316, .pointer (some ⟨low6 + 1, 0, none⟩))), DataW.held (enc (316, .pointer (some ⟨low6 + 3, 0, none⟩)))]) := by kernel_rfl
  obtain ⟨⟨x, y, z⟩, hx, e⟩ := Option.map_eq_some_iff.1 h
  cases e
  exact ⟨z, hx⟩
theorem lifted (os : Os) (started : os.Started) (H : Type) (enc : TypeId × Value → H) (F : Stop.Interp) :
    ReturnsInHanded {} Tryz.checked os 5 .any ((OpenSpec.ofChange Rows.fnExactEvaluateSpec).preRow enc Tryz.prog Tryz.f5 Rows.fnExactEvaluateRow.domain false Rows.fnExactEvaluateRow.laid) (((OpenSpec.ofChange Rows.fnExactEvaluateSpec).at F).post enc Tryz.prog Tryz.f5 false true false false) := by
  obtain ⟨places, hx⟩ := reads os enc
  refine returnsInHanded_of_row (C := Tryz.checked) (s := OpenSpec.ofChange Rows.fnExactEvaluateSpec) own started (by kernel_rfl) Tryz.func5
    (witness_row_at (enc := enc) (C := Tryz.checked) false (laidWorld6 os) #[.int .i64 0, .int .u64 0, .string ByteArray.empty, .slice none 0 0, .int .u64 0] rfl (by kernel_rfl) (by kernel_rfl) (by kernel_rfl)
      (OpenSpec.preRow_of_cond 8 hx (by kernel_rfl) (fun k hk => by cases hk) (by kernel_rfl) (laid_met os))) ?_
  intro W base args ds gs before hval hW _ _ _ hL _ _
  exact contract H enc W base args ds gs before hval hW hL
theorem said : Rows.FnExactEvaluateSaid :=
  OpenClaim.holds_of_cond 5 Tryz.f5 rfl rfl rfl rfl rfl rfl rfl ⟨rfl, rfl, rfl, rfl, rfl⟩ rfl rfl rfl rfl rfl (by kernel_rfl) Tryz.func5 (by kernel_rfl)
    (of_decide_eq_true (by kernel_rfl)) (by unfold Func.isWrapper; first | (rw [if_pos (by decide +kernel)]; kernel_rfl) | (rw [if_neg (by decide +kernel)]; exact ⟨rfl, rfl⟩))
    (fun os started H enc _ F => by rw [OpenClaim.pre_eq_preRow]; exact lifted os started H enc F)
theorem plain (f : FuncId) (fn : Func) (hf : Tryz.pinned.checked.prog.funcNamed "loop.example/s02095/laws.FnExactEvaluate" = some f) (hfn : Tryz.pinned.checked.prog.funcs[f]? = some fn) :
    true = Tryz.pinned.checked.prog.looks [] ∧ ∀ (j : Nat) t, fn.params[j]? = some t → Tryz.pinned.checked.prog.wantsStandIn t = false := by
  obtain rfl : f = 5 := Option.some.inj ((show Tryz.prog.funcNamed "loop.example/s02095/laws.FnExactEvaluate" = some 5 by kernel_rfl).symm.trans hf) |>.symm
  obtain rfl : fn = Tryz.f5 := (Option.some.inj (Tryz.func5.symm.trans hfn)).symm
  refine ⟨by kernel_rfl, fun j t ht => ?_⟩
  rw [Tryz.params5] at ht
  have hm := Array.mem_of_getElem? ht
  have : t = 3 ∨ t = 22 ∨ t = 9 ∨ t = 36 := by simp at hm; grind
  rcases this with rfl | rfl | rfl | rfl
  · exact (show Tryz.prog.wantsStandIn 3 = false by kernel_rfl)
  · exact (show Tryz.prog.wantsStandIn 22 = false by kernel_rfl)
  · exact (show Tryz.prog.wantsStandIn 9 = false by kernel_rfl)
  · exact (show Tryz.prog.wantsStandIn 36 = false by kernel_rfl)
end evaluate
theorem evaluate_card : Rows.FnExactEvaluateCardSaid :=
  Claim7.holds_tied_plain_at .later [] _ _ _ _ evaluate.said (fun _ h => by cases h) (by kernel_rfl) (fun _ h => by cases h) fnExactEvaluate_row_tie rfl ⟨rfl, rfl⟩ (by kernel_rfl) rfl evaluate.plain (by kernel_rfl)
#print axioms evaluate_card
end Go.Proofs.YtjmhmajfkdglnaaGreatDoor
