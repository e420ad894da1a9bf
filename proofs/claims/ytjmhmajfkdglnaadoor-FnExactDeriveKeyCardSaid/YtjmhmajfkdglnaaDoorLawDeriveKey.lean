import Derived.Test.YtjmhmajfkdglnaaDoorMrg7
import Derived.Test.YtjmhmajfkdglnaaDoorMrg30
namespace Go.Proofs.YtjmhmajfkdglnaaDoor
open Go.ChangeShapes Go.WideShapes Go.ChangeAt Go.RowKit
open Go.ChangeMaps (open_string shut_string)
set_option linter.unusedVariables false
namespace deriveKey

theorem varsR5 : varsRowed Tryd.prog ["loop.example/s02095/impl.errArgs", "loop.example/s02095/impl.errInverse", "loop.example/s02095/impl.roundWords", "loop.example/s02095/impl.errGroup", "loop.example/s02095/impl.errVerify"] = true := by kernel_rfl
set_option maxRecDepth 100000 in
set_option maxHeartbeats 4000000 in
theorem walk_of (mode k c : Int) (seed info : ByteArray) (w : World) (h1 : seed.size ≤ maxLen) (h2 : info.size ≤ maxLen)
    (L : ∀ w, Calls Tryd.prog 4 #[.int .i64 mode, .string seed, .string info] w fun e w' => e = .returned (.tuple #[.int .u64 k, .int .i64 c]) ∧ Below w.heap.size w w')
    (M : ∀ w', Below w.heap.size w w' → Calls Tryd.prog 5 #[.int .i64 mode, .string seed, .string info] w' fun e w'' => e = .returned (.tuple #[.int .u64 k, .int .i64 c]) ∧ Below w'.heap.size w' w'') :
    Calls Tryd.prog 3 #[.int .i64 mode, .string seed, .string info] w fun e w' => e = .returned (.bool true) ∧ Below w.heap.size w w' := by
  by_cases g1 : (1048576 : Int) < (seed.size : Int)
  · go_enter Tryd.func3, Tryd.ntmps3
    go_wp2
    go_ret
    exact ⟨rfl, Below.refl _ _⟩
  · by_cases g2 : (1048576 : Int) < (info.size : Int)
    · go_enter Tryd.func3, Tryd.ntmps3
      go_wp2
      go_ret
      exact ⟨rfl, Below.refl _ _⟩
    · go_enter Tryd.func3, Tryd.ntmps3
      go_wp2_with fail
      refine (L _).mono ?_
      rintro e w1 ⟨rfl, b1⟩
      clear L
      go_wp2_with fail
      refine (M _ b1).mono ?_
      rintro e w2 ⟨rfl, b2⟩
      replace b1 := b1.trans (b2.mono b1.size)
      clear M b2
      go_wp2
      go_ret
      exact ⟨rfl, b1⟩
theorem walk (a0 : Int) (a1 a2 : ByteArray) (w : World) (h1 : a1.size ≤ maxLen) (h2 : a2.size ≤ maxLen) (hT : TabK w) (hS : ∃ s0 s1 s2 s3, Sn w s0 s1 s2 s3) :
    Calls Tryd.prog 3 #[.int .i64 a0, .string a1, .string a2] w fun e w' => e = .returned (.bool true) ∧ Below w.heap.size w w' := by
  obtain ⟨s0, s1, s2, s3, hs⟩ := hS
  have hgw : 9 < w.heap.size := World.block_lt_of_cell? w _ (hT 0 (by omega))
  exact walk_of a0 _ _ a1 a2 w h1 h2 (fun w => dkS_any a0 a1 a2 w) (fun w' hb => dkI_any a0 a1 a2 s0 s1 s2 s3 w' (fun i hi => (hb.cell (p := ⟨9, i, none⟩) hgw).trans (hT i hi)) (hs.keep hb))

set_option maxRecDepth 100000 in
theorem contract (H : Type) (enc : TypeId × Value → H) (W : World) (base : Nat) (args : Array Value) (ds gs : List (DataW H)) (before : List MemPlace)
    (hval : ∀ (j : Nat) t v, Tryd.f3.params[j]? = some t → args[j]? = some v → Value.okWide Tryd.prog W .any base t v)
    (hW : DataW.Whole enc Tryd.prog Tryd.f3.params.toList Rows.fnExactDeriveKeySpec.vars false W args.toList ds gs before) (hL : laidMetH Tryd.prog Rows.fnExactDeriveKeyRow.laid W) :
    Calls Tryd.prog 3 args W fun e W' => ∃ v, e = .returned v ∧ Rows.fnExactDeriveKeySpec.post enc Tryd.prog Tryd.f3 false true false false W args v W' := by
  have hW' := hW
  obtain ⟨p, q, hA0, hV, rfl, hfz, hnd⟩ := hW
  have hA : DataW.TrodAll enc Tryd.prog W 0 (fun _ => true) true Tryd.f3.params.toList args.toList ds p := hA0
  rw [Tryd.params3] at hA hval
  obtain ⟨v0, vs0, d0, ds0, p0, q0, hargs, rfl, rfl, h0, r0⟩ := trodAll_cons hA
  obtain ⟨v1, vs1, d1, ds1, p1, q1, rfl, rfl, rfl, h1, r1⟩ := trodAll_cons r0
  obtain ⟨v2, vs2, d2, ds2, p2, q2, rfl, rfl, rfl, h2, r2⟩ := trodAll_cons r1
  obtain ⟨rfl, rfl, rfl⟩ := trodAll_nil r2
  obtain rfl : args = #[v0, v1, v2] := by cases args; simp_all
  obtain ⟨g1, g2, g3, g4, g5, rfl⟩ := five (trodVars_len hV)
  obtain ⟨a0, rfl, rfl, rfl, w0⟩ := open_int Tryd.underlying3 (hval 0 3 v0 rfl rfl) h0
  obtain ⟨a1, rfl, rfl, rfl, w1⟩ := open_string Tryd.underlying9 (hval 1 9 v1 rfl rfl) h1
  obtain ⟨a2, rfl, rfl, rfl, w2⟩ := open_string Tryd.underlying9 (hval 2 9 v2 rfl rfl) h2
  clear hA0
  refine (walk a0 a1 a2 W w1 w2 (table hL (by kernel_rfl)) (sn_of hL)).mono fun e W' ⟨he, bel⟩ => ?_
  subst he
  exact ⟨_, rfl, _, _, _, [], [], q, hW', trodAll_mk1 (shut_bool Tryd.underlying4 _), (trodAll_cons_mk (shut_int Tryd.underlying3 w0) (trodAll_cons_mk (shut_string Tryd.underlying9 w1) (trodAll_cons_mk (shut_string Tryd.underlying9 w2) trodAll_mk0))), Below.trodVars laidOut bel varsR5 hV, bel.frame _, fun h => by cases h⟩

theorem laid_met (os : Os) : laidMet Tryd.prog Rows.fnExactDeriveKeyRow.laid ((laidWorld6 os).forCall (fun _ _ => 0) ⟨#[], #[.int .i64 0, .string ByteArray.empty, .string ByteArray.empty], []⟩).memory :=
  laidMet_of_run' 8 (by kernel_rfl) (by kernel_rfl)
theorem reads (os : Os) {H : Type} (enc : TypeId × Value → H) : ∃ places, DataW.whole enc Tryd.prog ((laidWorld6 os).forCall (fun _ _ => 0) ⟨#[], #[.int .i64 0, .string ByteArray.empty, .string ByteArray.empty], []⟩).memory Tryd.f3.params.toList Rows.fnExactDeriveKeySpec.vars false #[Value.int .i64 0, Value.string ByteArray.empty, Value.string ByteArray.empty].toList 8 = some ([.lit (.int .i64 0), .lit (.string []), .lit (.string [])], [DataW.held (enc (145, .pointer (some ⟨low6 + 0, 0, none⟩))), DataW.held (enc (145, .pointer (some ⟨low6 + 2, 0, none⟩))), Rows.laid_loop_example_s02095_impl_roundWords, DataW.held (enc (145, .pointer (some ⟨low6 + 1, 0, none⟩))), DataW.held (enc (145, .pointer (some ⟨low6 + 3, 0, none⟩)))], places) := by
  have h : (DataW.whole enc Tryd.prog ((laidWorld6 os).forCall (fun _ _ => 0) ⟨#[], #[.int .i64 0, .string ByteArray.empty, .string ByteArray.empty], []⟩).memory Tryd.f3.params.toList Rows.fnExactDeriveKeySpec.vars false #[Value.int .i64 0, Value.string ByteArray.empty, Value.string ByteArray.empty].toList 8).map (fun x => (x.1, x.2.1)) = some ([.lit (.int .i64 0), .lit (.string []), .lit (.string [])], [DataW.held (enc (145, .pointer (some ⟨low6 + 0, 0, none⟩))), DataW.held (enc (145, .pointer (some ⟨low6 + 2, 0, none⟩))), Rows.laid_loop_example_s02095_impl_roundWords, DataW.held (enc (145, .pointer (some ⟨low6 + 1, 0, none⟩))), DataW.held (enc (145, .pointer (some ⟨low6 + 3, 0, none⟩)))]) := by kernel_rfl
  obtain ⟨⟨x, y, z⟩, hx, e⟩ := Option.map_eq_some_iff.1 h
  cases e
  exact ⟨z, hx⟩

set_option maxRecDepth 100000 in
theorem lifted (os : Os) (started : os.Started) (H : Type) (enc : TypeId × Value → H) (F : Stop.Interp) :
    ReturnsInHanded {} Tryd.checked os 3 .any ((OpenSpec.ofChange Rows.fnExactDeriveKeySpec).preRow enc Tryd.prog Tryd.f3 Rows.fnExactDeriveKeyRow.domain false Rows.fnExactDeriveKeyRow.laid) (((OpenSpec.ofChange Rows.fnExactDeriveKeySpec).at F).post enc Tryd.prog Tryd.f3 false true false false) := by
  obtain ⟨places, hx⟩ := reads os enc
  refine returnsInHanded_of_row (C := Tryd.checked) (s := OpenSpec.ofChange Rows.fnExactDeriveKeySpec) own started (by kernel_rfl) Tryd.func3
    (witness_row_at (enc := enc) (C := Tryd.checked) false (laidWorld6 os) #[.int .i64 0, .string ByteArray.empty, .string ByteArray.empty] rfl (by kernel_rfl) (by kernel_rfl) (by kernel_rfl)
      (OpenSpec.preRow_of_cond 8 hx (by kernel_rfl) (fun k hk => by cases hk) (by kernel_rfl) (laid_met os))) ?_
  intro W base args ds gs before hval hW _ _ _ hL _ _
  exact contract H enc W base args ds gs before hval hW hL

theorem said : Rows.FnExactDeriveKeySaid :=
  OpenClaim.holds_of_cond 3 Tryd.f3 rfl rfl rfl rfl rfl rfl rfl ⟨rfl, rfl, rfl, rfl, rfl⟩ rfl rfl rfl rfl rfl (by kernel_rfl) Tryd.func3 (by kernel_rfl)
    (of_decide_eq_true (by kernel_rfl)) (by unfold Func.isWrapper; first | (rw [if_pos (by decide +kernel)]; kernel_rfl) | (rw [if_neg (by decide +kernel)]; exact ⟨rfl, rfl⟩))
    (fun os started H enc _ F => by rw [OpenClaim.pre_eq_preRow]; exact lifted os started H enc F)

theorem plain (f : FuncId) (fn : Func) (hf : Tryd.pinned.checked.prog.funcNamed "loop.example/s02095/laws.FnExactDeriveKey" = some f) (hfn : Tryd.pinned.checked.prog.funcs[f]? = some fn) :
    true = Tryd.pinned.checked.prog.looks [] ∧ ∀ (j : Nat) t, fn.params[j]? = some t → Tryd.pinned.checked.prog.wantsStandIn t = false := by
  obtain rfl : f = 3 := Option.some.inj ((show Tryd.prog.funcNamed "loop.example/s02095/laws.FnExactDeriveKey" = some 3 by kernel_rfl).symm.trans hf) |>.symm
  obtain rfl : fn = Tryd.f3 := (Option.some.inj (Tryd.func3.symm.trans hfn)).symm
  refine ⟨by kernel_rfl, fun j t ht => ?_⟩
  rw [Tryd.params3] at ht
  have hm := Array.mem_of_getElem? ht
  have : t = 3 ∨ t = 9 := by simp at hm; grind
  rcases this with rfl | rfl
  · exact (show Tryd.prog.wantsStandIn 3 = false by kernel_rfl)
  · exact (show Tryd.prog.wantsStandIn 9 = false by kernel_rfl)
end deriveKey

/-- ████ THE CARD ████ -/
theorem deriveKey_card : Rows.FnExactDeriveKeyCardSaid :=
  Claim7.holds_tied_plain_at .later [] _ _ _ _ deriveKey.said (fun _ h => by cases h) (by kernel_rfl) (fun _ h => by cases h) fnExactDeriveKey_row_tie rfl ⟨rfl, rfl⟩ (by kernel_rfl) rfl deriveKey.plain (by kernel_rfl)
#print axioms deriveKey_card
end Go.Proofs.YtjmhmajfkdglnaaDoor
