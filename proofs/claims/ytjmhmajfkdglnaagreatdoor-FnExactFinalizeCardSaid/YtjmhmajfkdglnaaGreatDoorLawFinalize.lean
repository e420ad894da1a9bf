import Derived.Test.YtjmhmajfkdglnaaGreatDoorMrg3
import Derived.Test.YtjmhmajfkdglnaaGreatDoorMrg43
import Derived.Test.YtjmhmajfkdglnaaGreatDoorMrg42
set_option linter.unusedVariables false
set_option maxRecDepth 100000
set_option maxHeartbeats 16000000
namespace Go.Proofs.YtjmhmajfkdglnaaGreatDoor
open Go.ChangeShapes Go.WideShapes Go.ChangeAt Go.RowKit
open Go.ChangeMaps (open_string shut_string)
namespace finalize
theorem varsR5 : varsRowed Tryz.prog ["loop.example/s02095/impl.errArgs", "loop.example/s02095/impl.errInverse", "loop.example/s02095/impl.roundWords", "loop.example/s02095/impl.errVerify", "loop.example/s02095/impl.errGroup"] = true := by kernel_rfl
theorem contract (H : Type) (enc : TypeId × Value → H) (W : World) (base : Nat) (args : Array Value) (ds gs : List (DataW H)) (before : List MemPlace)
    (hval : ∀ (j : Nat) t v, Tryz.f6.params[j]? = some t → args[j]? = some v → Value.okWide Tryz.prog W .any base t v)
    (hW : DataW.Whole enc Tryz.prog Tryz.f6.params.toList Rows.fnExactFinalizeSpec.vars false W args.toList ds gs before) (hL : laidMetH Tryz.prog Rows.fnExactFinalizeRow.laid W) :
    Calls Tryz.prog 6 args W fun e W' => ∃ v, e = .returned v ∧ Rows.fnExactFinalizeSpec.post enc Tryz.prog Tryz.f6 false true false false W args v W' := by
  have hW' := hW
  obtain ⟨p, q, hA0, hV, rfl, hfz, hnd⟩ := hW
  have hA : DataW.TrodAll enc Tryz.prog W 0 (fun _ => true) true Tryz.f6.params.toList args.toList ds p := hA0
  rw [Tryz.params6] at hA hval
  obtain ⟨v0, vs0, d0, ds0, p0, q0, hargs, rfl, rfl, h0, r0⟩ := trodAll_cons hA
  obtain ⟨v1, vs1, d1, ds1, p1, q1, rfl, rfl, rfl, h1, r1⟩ := trodAll_cons r0
  obtain ⟨v2, vs2, d2, ds2, p2, q2, rfl, rfl, rfl, h2, r2⟩ := trodAll_cons r1
  obtain ⟨v3, vs3, d3, ds3, p3, q3, rfl, rfl, rfl, h3, r3⟩ := trodAll_cons r2
  obtain ⟨v4, vs4, d4, ds4, p4, q4, rfl, rfl, rfl, h4, r4⟩ := trodAll_cons r3
  obtain ⟨v5, vs5, d5, ds5, p5, q5, rfl, rfl, rfl, h5, r5⟩ := trodAll_cons r4
  obtain ⟨v6, vs6, d6, ds6, p6, q6, rfl, rfl, rfl, h6, r6⟩ := trodAll_cons r5
  obtain ⟨rfl, rfl, rfl⟩ := trodAll_nil r6
  obtain rfl : args = #[v0, v1, v2, v3, v4, v5, v6] := by cases args; simp_all
  obtain ⟨g1, g2, g3, g4, g5, rfl⟩ := five (trodVars_len hV)
  obtain ⟨a0, rfl, rfl, rfl, w0⟩ := open_int Tryz.underlying3 (hval 0 3 v0 rfl rfl) h0
  obtain ⟨a1, rfl, rfl, rfl, w1⟩ := open_string Tryz.underlying9 (hval 1 9 v1 rfl rfl) h1
  obtain ⟨a2, rfl, rfl, rfl, w2⟩ := open_string Tryz.underlying9 (hval 2 9 v2 rfl rfl) h2
  obtain ⟨a3, rfl, rfl, rfl, w3⟩ := open_int Tryz.underlying22 (hval 3 22 v3 rfl rfl) h3
  obtain ⟨b3, rfl, hl3⟩ := u64_nat w3
  obtain ⟨a4, len4, cap4, x4, y4, rfl, ar4, lx4, ly4⟩ := open_ev (hval 4 53 v4 rfl rfl) h4
  have hlt4 : ∀ x ∈ p4, x.block < W.heap.size := fun x hx => hW'.lt x (by simp [hx])
  obtain ⟨t5, t5', rfl⟩ := open_bl (hval 5 55 v5 rfl rfl) h5
  have hlt5 : ∀ x ∈ p5, x.block < W.heap.size := fun x hx => hW'.lt x (by simp [hx])
  obtain ⟨x6, y6, c6, rfl, rfl, rfl, wx6, wy6, lx6, ly6⟩ := open_pt (hval 6 27 v6 rfl rfl) h6
  clear hA0
  refine (walk a0 a1 a2 b3 a4 len4 cap4 x4 y4 t5 t5' x6 y6 c6 W w1 w2 hl3 ar4 (table hL (by kernel_rfl)) (sn_of hL)).mono fun e W' ⟨he, bel⟩ => ?_
  subst he
  exact ⟨_, rfl, _, _, _, [], [] ++ ([] ++ ([] ++ ([] ++ (p4 ++ (p5 ++ ([] ++ [])))))), q, hW', trodAll_mk1 (shut_bool Tryz.underlying4 _), (trodAll_cons_mk (shut_int Tryz.underlying3 w0) (trodAll_cons_mk (shut_string Tryz.underlying9 w1) (trodAll_cons_mk (shut_string Tryz.underlying9 w2) (trodAll_cons_mk (shut_int Tryz.underlying22 w3) (trodAll_cons_mk (Below.trod laidOut (by kernel_rfl) (of_decide_eq_true (by kernel_rfl)) h4 bel hlt4) (trodAll_cons_mk (Below.trod laidOut (by kernel_rfl) (of_decide_eq_true (by kernel_rfl)) h5 bel hlt5) (trodAll_cons_mk (shut_pt c6 wx6 wy6) trodAll_mk0))))))), Below.trodVars laidOut bel varsR5 hV, bel.frame _, fun h => by cases h⟩
theorem laid_met (os : Os) : laidMet Tryz.prog Rows.fnExactFinalizeRow.laid ((laidWorld6 os).forCall (fun _ _ => 0) ⟨#[], #[.int .i64 0, .string ByteArray.empty, .string ByteArray.empty, .int .u64 0, .agg #[.slice none 0 0, .int .u64 0, .int .u64 0], .agg #[.int .u64 0, .int .u64 0, .bool false, .int .u64 0, .int .u64 0, .bool false], .agg #[.int .u64 0, .int .u64 0, .bool false]], []⟩).memory :=
  laidMet_of_run' 8 (by kernel_rfl) (by kernel_rfl)
theorem reads (os : Os) {H : Type} (enc : TypeId × Value → H) : ∃ places, DataW.whole enc Tryz.prog ((laidWorld6 os).forCall (fun _ _ => 0) ⟨#[], #[.int .i64 0, .string ByteArray.empty, .string ByteArray.empty, .int .u64 0, .agg #[.slice none 0 0, .int .u64 0, .int .u64 0], .agg #[.int .u64 0, .int .u64 0, .bool false, .int .u64 0, .int .u64 0, .bool false], .agg #[.int .u64 0, .int .u64 0, .bool false]], []⟩).memory Tryz.f6.params.toList Rows.fnExactFinalizeSpec.vars false #[Value.int .i64 0, Value.string ByteArray.empty, Value.string ByteArray.empty, Value.int .u64 0, Value.agg #[.slice none 0 0, .int .u64 0, .int .u64 0], Value.agg #[.int .u64 0, .int .u64 0, .bool false, .int .u64 0, .int .u64 0, .bool false], Value.agg #[.int .u64 0, .int .u64 0, .bool false]].toList 8 = some ([.lit (.int .i64 0), .lit (.string []), .lit (.string []), .lit (.int .u64 0), .agg [.nil, .agg [.lit (.int .u64 0), .lit (.int .u64 0)]], .agg [.agg [.lit (.int .u64 0), .lit (.int .u64 0), .lit (.bool false)], .agg [.lit (.int .u64 0), .lit (.int .u64 0), .lit (.bool false)]], .agg [.lit (.int .u64 0), .lit (.int .u64 0), .lit (.bool false)]], [DataW.held (enc (316, .pointer (some ⟨low6 + 0, 0, none⟩))), DataW.held (enc (316, .pointer (some ⟨low6 + 2, 0, none⟩))), Rows.laid_loop_example_s02095_impl_roundWords, DataW.held (enc (316, .pointer (some ⟨low6 + 3, 0, none⟩))), DataW.held (enc (316, .pointer (some ⟨low6 + 1, 0, none⟩)))], places) := by
  have h : (DataW.whole enc Tryz.prog ((laidWorld6 os).forCall (fun _ _ => 0) ⟨#[], #[.int .i64 0, .string ByteArray.empty, .string ByteArray.empty, .int .u64 0, .agg #[.slice none 0 0, .int .u64 0, .int .u64 0], .agg #[.int .u64 0, .int .u64 0, .bool false, .int .u64 0, .int .u64 0, .bool false], .agg #[.int .u64 0, .int .u64 0, .bool false]], []⟩).memory Tryz.f6.params.toList Rows.fnExactFinalizeSpec.vars false #[Value.int .i64 0, Value.string ByteArray.empty, Value.string ByteArray.empty, Value.int .u64 0, Value.agg #[.slice none 0 0, .int .u64 0, .int .u64 0], Value.agg #[.int .u64 0, .int .u64 0, .bool false, .int .u64 0, .int .u64 0, .bool false], Value.agg #[.int .u64 0, .int .u64 0, .bool false]].toList 8).map (fun x => (x.1, x.2.1)) = some ([.lit (.int .i64 0), .lit (.string []), .lit (.string []), .lit (.int .u64 0), .agg [.nil, .agg [.lit (.int .u64 0), .lit (.int .u64 0)]], .agg [.agg [.lit (.int .u64 0), .lit (.int .u64 0), .lit (.bool false)], .agg [.lit (.int .u64 0), .lit (.int .u64 0), .lit (.bool false)]], .agg [.lit (.int .u64 0), .lit (.int .u64 0), .lit (.bool false)]], [DataW.held (enc (316, .pointer (some ⟨low6 + 0, 0, none⟩))), DataW.held (enc (316, .pointer (some ⟨low6 + 2, 0, none⟩))), Rows.laid_loop_example_s02095_impl_roundWords, DataW.held (enc (316, .pointer (some ⟨low6 + 3, 0, none⟩))), DataW.held (enc (316, .pointer (some ⟨low6 + 1, 0, none⟩)))]) := by kernel_rfl
  obtain ⟨⟨x, y, z⟩, hx, e⟩ := Option.map_eq_some_iff.1 h
  cases e
  exact ⟨z, hx⟩
theorem lifted (os : Os) (started : os.Started) (H : Type) (enc : TypeId × Value → H) (F : Stop.Interp) :
    ReturnsInHanded {} Tryz.checked os 6 .any ((OpenSpec.ofChange Rows.fnExactFinalizeSpec).preRow enc Tryz.prog Tryz.f6 Rows.fnExactFinalizeRow.domain false Rows.fnExactFinalizeRow.laid) (((OpenSpec.ofChange Rows.fnExactFinalizeSpec).at F).post enc Tryz.prog Tryz.f6 false true false false) := by
  obtain ⟨places, hx⟩ := reads os enc
  refine returnsInHanded_of_row (C := Tryz.checked) (s := OpenSpec.ofChange Rows.fnExactFinalizeSpec) own started (by kernel_rfl) Tryz.func6
    (witness_row_at (enc := enc) (C := Tryz.checked) false (laidWorld6 os) #[.int .i64 0, .string ByteArray.empty, .string ByteArray.empty, .int .u64 0, .agg #[.slice none 0 0, .int .u64 0, .int .u64 0], .agg #[.int .u64 0, .int .u64 0, .bool false, .int .u64 0, .int .u64 0, .bool false], .agg #[.int .u64 0, .int .u64 0, .bool false]] rfl (by kernel_rfl) (by kernel_rfl) (by kernel_rfl)
      (OpenSpec.preRow_of_cond 8 hx (by kernel_rfl) (fun k hk => by cases hk) (by kernel_rfl) (laid_met os))) ?_
  intro W base args ds gs before hval hW _ _ _ hL _ _
  exact contract H enc W base args ds gs before hval hW hL
theorem said : Rows.FnExactFinalizeSaid :=
  OpenClaim.holds_of_cond 6 Tryz.f6 rfl rfl rfl rfl rfl rfl rfl ⟨rfl, rfl, rfl, rfl, rfl⟩ rfl rfl rfl rfl rfl (by kernel_rfl) Tryz.func6 (by kernel_rfl)
    (of_decide_eq_true (by kernel_rfl)) (by unfold Func.isWrapper; first | (rw [if_pos (by decide +kernel)]; kernel_rfl) | (rw [if_neg (by decide +kernel)]; exact ⟨rfl, rfl⟩))
    (fun os started H enc _ F => by rw [OpenClaim.pre_eq_preRow]; exact lifted os started H enc F)
theorem plain (f : FuncId) (fn : Func) (hf : Tryz.pinned.checked.prog.funcNamed "loop.example/s02095/laws.FnExactFinalize" = some f) (hfn : Tryz.pinned.checked.prog.funcs[f]? = some fn) :
    true = Tryz.pinned.checked.prog.looks [] ∧ ∀ (j : Nat) t, fn.params[j]? = some t → Tryz.pinned.checked.prog.wantsStandIn t = false := by
  obtain rfl : f = 6 := Option.some.inj ((show Tryz.prog.funcNamed "loop.example/s02095/laws.FnExactFinalize" = some 6 by kernel_rfl).symm.trans hf) |>.symm
  obtain rfl : fn = Tryz.f6 := (Option.some.inj (Tryz.func6.symm.trans hfn)).symm
  refine ⟨by kernel_rfl, fun j t ht => ?_⟩
  rw [Tryz.params6] at ht
  have hm := Array.mem_of_getElem? ht
  have : t = 3 ∨ t = 9 ∨ t = 22 ∨ t = 53 ∨ t = 55 ∨ t = 27 := by simp at hm; grind
  rcases this with rfl | rfl | rfl | rfl | rfl | rfl
  · exact (show Tryz.prog.wantsStandIn 3 = false by kernel_rfl)
  · exact (show Tryz.prog.wantsStandIn 9 = false by kernel_rfl)
  · exact (show Tryz.prog.wantsStandIn 22 = false by kernel_rfl)
  · exact (show Tryz.prog.wantsStandIn 53 = false by kernel_rfl)
  · exact (show Tryz.prog.wantsStandIn 55 = false by kernel_rfl)
  · exact (show Tryz.prog.wantsStandIn 27 = false by kernel_rfl)
end finalize
theorem finalize_card : Rows.FnExactFinalizeCardSaid :=
  Claim7.holds_tied_plain_at .later [] _ _ _ _ finalize.said (fun _ h => by cases h) (by kernel_rfl) (fun _ h => by cases h) fnExactFinalize_row_tie rfl ⟨rfl, rfl⟩ (by kernel_rfl) rfl finalize.plain (by kernel_rfl)
#print axioms finalize_card
end Go.Proofs.YtjmhmajfkdglnaaGreatDoor
