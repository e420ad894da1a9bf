import Derived.Test.YtjmhmajfkdglnaaGreatDoorMrg5
import Derived.Test.YtjmhmajfkdglnaaGreatDoorMrg42
namespace Go.Proofs.YtjmhmajfkdglnaaGreatDoor
open Go.ChangeShapes Go.WideShapes Go.ChangeAt Go.RowKit
open Go.ChangeMaps (open_string shut_string)
set_option linter.unusedVariables false
namespace direct

theorem varsR5 : varsRowed Tryz.prog ["loop.example/s02095/impl.errArgs", "loop.example/s02095/impl.errInverse", "loop.example/s02095/impl.roundWords", "loop.example/s02095/impl.errGroup", "loop.example/s02095/impl.errVerify"] = true := by kernel_rfl
set_option maxRecDepth 100000 in
set_option maxHeartbeats 4000000 in
theorem walk_of (mode k c : Int) (o input info : ByteArray) (w : World) (h1 : input.size ≤ maxLen) (h2 : info.size ≤ maxLen)
    (L : ∀ w, Calls Tryz.prog 8 #[.int .i64 mode, .int .u64 k, .string input, .string info] w fun e w' => e = .returned (.tuple #[.string o, .int .i64 c]) ∧ Below w.heap.size w w')
    (M : ∀ w', Below w.heap.size w w' → Calls Tryz.prog 9 #[.int .i64 mode, .int .u64 k, .string input, .string info] w' fun e w'' => e = .returned (.tuple #[.string o, .int .i64 c]) ∧ Below w'.heap.size w' w'') :
    Calls Tryz.prog 3 #[.int .i64 mode, .int .u64 k, .string input, .string info] w fun e w' => e = .returned (.bool true) ∧ Below w.heap.size w w' := by
  by_cases g1 : (1048576 : Int) < (input.size : Int)
  · go_enter Tryz.func3, Tryz.ntmps3
    go_wp2
    go_ret
    exact ⟨rfl, Below.refl _ _⟩
  · by_cases g2 : (1048576 : Int) < (info.size : Int)
    · go_enter Tryz.func3, Tryz.ntmps3
      go_wp2
      go_ret
      exact ⟨rfl, Below.refl _ _⟩
    · go_enter Tryz.func3, Tryz.ntmps3
      go_wp2_with fail
      refine (L _).mono ?_
      rintro e w1 ⟨rfl, b1⟩
      clear L
      go_wp2_with fail
      refine (M _ b1).mono ?_
      rintro e w2 ⟨rfl, b2⟩
      replace b1 := b1.trans (b2.mono b1.size)
      clear M b2
      go_wp2
      go_ret
      exact ⟨rfl, b1⟩
theorem walk (a0 : Int) (b1 : Nat) (a2 a3 : ByteArray) (w : World) (h1 : b1 < 18446744073709551616) (h2 : a2.size ≤ maxLen) (h3 : a3.size ≤ maxLen) (hT : TabK w) (hS : ∃ s0 s1 s2 s3, Sn w s0 s1 s2 s3) :
    Calls Tryz.prog 3 #[.int .i64 a0, .int .u64 b1, .string a2, .string a3] w fun e w' => e = .returned (.bool true) ∧ Below w.heap.size w w' := by
  obtain ⟨s0, s1, s2, s3, hs⟩ := hS
  exact walk_of a0 b1 _ _ a2 a3 w h2 h3 (fun w => dirS_any a0 b1 a2 a3 w) (fun w' hb => dirI_any a0 b1 a2 a3 s0 s1 s2 s3 w' (keepT hT (World.block_lt_of_cell? w _ (hT 0 (by omega))) hb) (hs.keep hb))

set_option maxRecDepth 100000 in
theorem contract (H : Type) (enc : TypeId × Value → H) (W : World) (base : Nat) (args : Array Value) (ds gs : List (DataW H)) (before : List MemPlace)
    (hval : ∀ (j : Nat) t v, Tryz.f3.params[j]? = some t → args[j]? = some v → Value.okWide Tryz.prog W .any base t v)
    (hW : DataW.Whole enc Tryz.prog Tryz.f3.params.toList Rows.fnExactDirectSpec.vars false W args.toList ds gs before) (hL : laidMetH Tryz.prog Rows.fnExactDirectRow.laid W) :
    Calls Tryz.prog 3 args W fun e W' => ∃ v, e = .returned v ∧ Rows.fnExactDirectSpec.post enc Tryz.prog Tryz.f3 false true false false W args v W' := by
  have hW' := hW
  obtain ⟨p, q, hA0, hV, rfl, hfz, hnd⟩ := hW
  have hA : DataW.TrodAll enc Tryz.prog W 0 (fun _ => true) true Tryz.f3.params.toList args.toList ds p := hA0
  rw [Tryz.params3] at hA hval
  obtain ⟨v0, vs0, d0, ds0, p0, q0, hargs, rfl, rfl, h0, r0⟩ := trodAll_cons hA
  obtain ⟨v1, vs1, d1, ds1, p1, q1, rfl, rfl, rfl, h1, r1⟩ := trodAll_cons r0
  obtain ⟨v2, vs2, d2, ds2, p2, q2, rfl, rfl, rfl, h2, r2⟩ := trodAll_cons r1
  obtain ⟨v3, vs3, d3, ds3, p3, q3, rfl, rfl, rfl, h3, r3⟩ := trodAll_cons r2
  obtain ⟨rfl, rfl, rfl⟩ := trodAll_nil r3
  obtain rfl : args = #[v0, v1, v2, v3] := by cases args; simp_all
  obtain ⟨g1, g2, g3, g4, g5, rfl⟩ := five (trodVars_len hV)
  obtain ⟨a0, rfl, rfl, rfl, w0⟩ := open_int Tryz.underlying3 (hval 0 3 v0 rfl rfl) h0
  obtain ⟨a1, rfl, rfl, rfl, w1⟩ := open_int Tryz.underlying22 (hval 1 22 v1 rfl rfl) h1
  obtain ⟨b1, rfl, hl1⟩ := u64_nat w1
  obtain ⟨a2, rfl, rfl, rfl, w2⟩ := open_string Tryz.underlying9 (hval 2 9 v2 rfl rfl) h2
  obtain ⟨a3, rfl, rfl, rfl, w3⟩ := open_string Tryz.underlying9 (hval 3 9 v3 rfl rfl) h3
  clear hA0
  refine (walk a0 b1 a2 a3 W hl1 w2 w3 (table hL (by kernel_rfl)) (sn_of hL)).mono fun e W' ⟨he, bel⟩ => ?_
  subst he
  exact ⟨_, rfl, _, _, _, [], [], q, hW', trodAll_mk1 (shut_bool Tryz.underlying4 _), (trodAll_cons_mk (shut_int Tryz.underlying3 w0) (trodAll_cons_mk (shut_int Tryz.underlying22 w1) (trodAll_cons_mk (shut_string Tryz.underlying9 w2) (trodAll_cons_mk (shut_string Tryz.underlying9 w3) trodAll_mk0)))), Below.trodVars laidOut bel varsR5 hV, bel.frame _, fun h => by cases h⟩

theorem laid_met (os : Os) : laidMet Tryz.prog Rows.fnExactDirectRow.laid ((laidWorld6 os).forCall (fun _ _ => 0) ⟨#[], #[.int .i64 0, .int .u64 0, .string ByteArray.empty, .string ByteArray.empty], []⟩).memory :=
  laidMet_of_run' 8 (by kernel_rfl) (by kernel_rfl)
theorem reads (os : Os) {H : Type} (enc : TypeId × Value → H) : ∃ places, DataW.whole enc Tryz.prog ((laidWorld6 os).forCall (fun _ _ => 0) ⟨#[], #[.int .i64 0, .int .u64 0, .string ByteArray.empty, .string ByteArray.empty], []⟩).memory Tryz.f3.params.toList Rows.fnExactDirectSpec.vars false #[Value.int .i64 0, Value.int .u64 0, Value.string ByteArray.empty, Value.string ByteArray.empty].toList 8 = some ([.lit (.int .i64 0), .lit (.int .u64 0), .lit (.string []), .lit (.string [])], [DataW.held (enc (316, .pointer (some ⟨low6 + 0, 0, none⟩))), DataW.held (enc (316, .pointer (some ⟨low6 + 2, 0, none⟩))), Rows.laid_loop_example_s02095_impl_roundWords, DataW.held (enc (316, .pointer (some ⟨low6 + 1, 0, none⟩))), DataW.held (enc (316, .pointer (some ⟨low6 + 3, 0, none⟩)))], places) := by
  have h : (DataW.whole enc Tryz.prog ((laidWorld6 os).forCall (fun _ _ => 0) ⟨#[], #[.int .i64 0, .int .u64 0, .string ByteArray.empty, .string ByteArray.empty], []⟩).memory Tryz.f3.params.toList Rows.fnExactDirectSpec.vars false #[Value.int .i64 0, Value.int .u64 0, Value.string ByteArray.empty, Value.string ByteArray.empty].toList 8).map (fun x => (x.1, x.2.1)) = some ([.lit (.int .i64 0), .lit (.int .u64 0), .lit (.string []), .lit (.string [])], [DataW.held (enc (316, .pointer (some ⟨low6 + 0, 0, none⟩))), DataW.held (enc (316, .pointer (some ⟨low6 + 2, 0, none⟩))), Rows.laid_loop_example_s02095_impl_roundWords, DataW.held (enc (316, .pointer (some ⟨low6 + 1, 0, none⟩))), DataW.held (enc (316, .pointer (some ⟨low6 + 3, 0, none⟩)))]) := by kernel_rfl
  obtain ⟨⟨x, y, z⟩, hx, e⟩ := Option.map_eq_some_iff.1 h
  cases e
  exact ⟨z, hx⟩

set_option maxRecDepth 100000 in
theorem lifted (os : Os) (started : os.Started) (H : Type) (enc : TypeId × Value → H) (F : Stop.Interp) :
    ReturnsInHanded {} Tryz.checked os 3 .any ((OpenSpec.ofChange Rows.fnExactDirectSpec).preRow enc Tryz.prog Tryz.f3 Rows.fnExactDirectRow.domain false Rows.fnExactDirectRow.laid) (((OpenSpec.ofChange Rows.fnExactDirectSpec).at F).post enc Tryz.prog Tryz.f3 false true false false) := by
  obtain ⟨places, hx⟩ := reads os enc
  refine returnsInHanded_of_row (C := Tryz.checked) (s := OpenSpec.ofChange Rows.fnExactDirectSpec) own started (by kernel_rfl) Tryz.func3
    (witness_row_at (enc := enc) (C := Tryz.checked) false (laidWorld6 os) #[.int .i64 0, .int .u64 0, .string ByteArray.empty, .string ByteArray.empty] rfl (by kernel_rfl) (by kernel_rfl) (by kernel_rfl)
      (OpenSpec.preRow_of_cond 8 hx (by kernel_rfl) (fun k hk => by cases hk) (by kernel_rfl) (laid_met os))) ?_
  intro W base args ds gs before hval hW _ _ _ hL _ _
  exact contract H enc W base args ds gs before hval hW hL

theorem said : Rows.FnExactDirectSaid :=
  OpenClaim.holds_of_cond 3 Tryz.f3 rfl rfl rfl rfl rfl rfl rfl ⟨rfl, rfl, rfl, rfl, rfl⟩ rfl rfl rfl rfl rfl (by kernel_rfl) Tryz.func3 (by kernel_rfl)
    (of_decide_eq_true (by kernel_rfl)) (by unfold Func.isWrapper; first | (rw [if_pos (by decide +kernel)]; kernel_rfl) | (rw [if_neg (by decide +kernel)]; exact ⟨rfl, rfl⟩))
    (fun os started H enc _ F => by rw [OpenClaim.pre_eq_preRow]; exact lifted os started H enc F)

theorem plain (f : FuncId) (fn : Func) (hf : Tryz.pinned.checked.prog.funcNamed "loop.example/s02095/laws.FnExactDirect" = some f) (hfn : Tryz.pinned.checked.prog.funcs[f]? = some fn) :
    true = Tryz.pinned.checked.prog.looks [] ∧ ∀ (j : Nat) t, fn.params[j]? = some t → Tryz.pinned.checked.prog.wantsStandIn t = false := by
  obtain rfl : f = 3 := Option.some.inj ((show Tryz.prog.funcNamed "loop.example/s02095/laws.FnExactDirect" = some 3 by kernel_rfl).symm.trans hf) |>.symm
  obtain rfl : fn = Tryz.f3 := (Option.some.inj (Tryz.func3.symm.trans hfn)).symm
  refine ⟨by kernel_rfl, fun j t ht => ?_⟩
  rw [Tryz.params3] at ht
  have hm := Array.mem_of_getElem? ht
  have : t = 3 ∨ t = 22 ∨ t = 9 := by simp at hm; grind
  rcases this with rfl | rfl | rfl
  · exact (show Tryz.prog.wantsStandIn 3 = false by kernel_rfl)
  · exact (show Tryz.prog.wantsStandIn 22 = false by kernel_rfl)
  · exact (show Tryz.prog.wantsStandIn 9 = false by kernel_rfl)
end direct

/-- ████ THE CARD ████ -/
theorem direct_card : Rows.FnExactDirectCardSaid :=
  Claim7.holds_tied_plain_at .later [] _ _ _ _ direct.said (fun _ h => by cases h) (by kernel_rfl) (fun _ h => by cases h) fnExactDirect_row_tie rfl ⟨rfl, rfl⟩ (by kernel_rfl) rfl direct.plain (by kernel_rfl)
#print axioms direct_card
end Go.Proofs.YtjmhmajfkdglnaaGreatDoor
