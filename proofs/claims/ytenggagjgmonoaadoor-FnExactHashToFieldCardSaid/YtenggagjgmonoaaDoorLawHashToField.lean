import Derived.Test.YtenggagjgmonoaaDoorBase
import Derived.Test.YtenggagjgmonoaaDoorH2fS
import Derived.Test.YtenggagjgmonoaaDoorH2fI
import Derived.Test.YtenggagjgmonoaaDoorEqU
namespace Go.Proofs.YtenggagjgmonoaaDoor
open Go.ChangeShapes Go.WideShapes Go.ChangeAt Go.RowKit
open Go.ChangeMaps (open_string shut_string)
set_option linter.unusedVariables false
namespace hashToField

set_option maxRecDepth 100000 in
set_option maxHeartbeats 2000000 in
theorem walk (m t : ByteArray) (p : Nat) (n : Int) (w : World) (hm : m.size ≤ maxLen) (ht : t.size ≤ maxLen) (hp : p < 18446744073709551616) (hT : TabK w) :
    Calls Tryd.prog 5 #[.string m, .string t, .int .u64 p, .int .i64 n] w fun e w' => e = .returned (.bool true) ∧ Below w.heap.size w w' := by
  have hgw : 2 < w.heap.size := World.block_lt_of_cell? w _ (hT 0 (by omega))
  unfold maxLen at hm ht
  by_cases hbk : 1048576 < m.size
  · go_enter Tryd.func5, Tryd.ntmps5
    go_wp2
    go_ret
    exact ⟨rfl, Below.refl _ _⟩
  · by_cases hb : 1048576 < t.size
    · go_enter Tryd.func5, Tryd.ntmps5
      go_wp2
      go_ret
      exact ⟨rfl, Below.refl _ _⟩
    · by_cases hn : okH m t p n
      · obtain ⟨c, rfl⟩ : ∃ k : Nat, n = (k : Int) := ⟨n.toNat, by have := hn.1; omega⟩
        have hc := hn.2.1
        have e1 : ((c : Int) + 1 < 0) = False := by simp; omega
        go_enter Tryd.func5, Tryd.ntmps5
        go_wp2_with fail
        refine (h2fS_yes m t p c w hp hn).mono ?_
        rintro e W1 ⟨g1, c1, rfl, hr1, hb1⟩
        have hT1 : TabK W1 := fun i hi => (hb1.cell (p := ⟨2, i, none⟩) hgw).trans (hT i hi)
        go_wp2_with fail
        refine (h2fI_yes m t p c W1 hT1 hp hn).mono ?_
        rintro e W2 ⟨g2, c2, rfl, hr2, hb2⟩
        have hB2 := hb1.trans (hb2.mono hb1.size)
        have l1 := hr1.hi
        have l2 := hr2.lo
        replace hr1 := hr1.below hb2 l1
        go_wp2_with fail
        refine (eqU_any g2 g1 c c2 c1 _ W2 (by omega) (fun i hi => hr2.cell i hi) (fun i hi => hr1.cell i hi)).mono ?_
        rintro e W3 ⟨rfl, b3⟩
        replace hr1 := hr1.below b3 hr1.hi
        replace hr2 := hr2.below b3 hr2.hi
        have hB3 := hB2.trans (b3.mono hB2.size)
        clear b3 hb2
        go_wp2_with fail
        refine (markU_any W1.heap.size g2 c c2 _ W3 (by omega) hr2).mono ?_
        rintro e W4 ⟨rfl, hr4, b4, ho4, hs4⟩
        replace hr1 := hr1.same (ho4 g1 (by omega)) hs4
        have hB4 := hB3.trans (b4.mono hb1.size)
        clear b4 hr2
        go_wp2_with fail
        refine (heldU_any g2 c c2 W4 (by omega) (fun i hi => hr4.cell i hi)).mono ?_
        rintro e W5 ⟨rfl, rfl⟩
        have hT4 : TabK W4 := fun i hi => (hB4.cell (p := ⟨2, i, none⟩) hgw).trans (hT i hi)
        go_wp2_with fail
        refine (h2fI_yes m t p c W4 hT4 hp hn).mono ?_
        rintro e W6 ⟨g6, c6, rfl, hr6, hb6⟩
        replace hr1 := hr1.below hb6 hr1.hi
        have hB6 := hB4.trans (hb6.mono hB4.size)
        go_wp2_with fail
        refine (eqU_any g6 g1 c c6 c1 _ W6 (by omega) (fun i hi => hr6.cell i hi) (fun i hi => hr1.cell i hi)).mono ?_
        rintro e W7 ⟨rfl, b7⟩
        have hB7 := hB6.trans (b7.mono hB6.size)
        go_wp2
        go_ret
        exact ⟨rfl, hB7⟩
      · go_enter Tryd.func5, Tryd.ntmps5
        go_wp2_with fail
        refine (h2fS_no m t p n w hn).mono ?_
        rintro e W1 ⟨g1, c1, rfl, hr1, hb1⟩
        go_wp2_with fail
        refine (h2fI_no m t p n W1 hn).mono ?_
        rintro e W2 ⟨rfl, hb2⟩
        have hB2 := hb1.trans (hb2.mono hb1.size)
        go_wp2_with fail
        refine (eqU_zero _ _ _ _ W2).mono ?_
        rintro e W3 ⟨rfl, b3⟩
        have hB3 := hB2.trans (b3.mono hB2.size)
        go_wp2_with fail
        refine (markU_zero _ _ W3).mono ?_
        rintro e W4 ⟨rfl, rfl⟩
        go_wp2_with fail
        refine (heldU_zero _ _ W3).mono ?_
        rintro e W5 ⟨rfl, rfl⟩
        go_wp2_with fail
        refine (h2fI_no m t p n W3 hn).mono ?_
        rintro e W6 ⟨rfl, hb6⟩
        have hB6 := hB3.trans (hb6.mono hB3.size)
        go_wp2_with fail
        refine (eqU_zero _ _ _ _ W6).mono ?_
        rintro e W7 ⟨rfl, b7⟩
        have hB7 := hB6.trans (b7.mono hB6.size)
        go_wp2
        go_ret
        exact ⟨rfl, hB7⟩

set_option maxRecDepth 100000 in
theorem contract (H : Type) (enc : TypeId × Value → H) (W : World) (base : Nat) (args : Array Value) (ds gs : List (DataW H)) (before : List MemPlace)
    (hval : ∀ (j : Nat) t v, Tryd.f5.params[j]? = some t → args[j]? = some v → Value.okWide Tryd.prog W .any base t v)
    (hW : DataW.Whole enc Tryd.prog Tryd.f5.params.toList Rows.fnExactHashToFieldSpec.vars false W args.toList ds gs before) (hL : laidMetH Tryd.prog Rows.fnExactHashToFieldRow.laid W) :
    Calls Tryd.prog 5 args W fun e W' => ∃ v, e = .returned v ∧ Rows.fnExactHashToFieldSpec.post enc Tryd.prog Tryd.f5 false true false false W args v W' := by
  have hW' := hW
  obtain ⟨p, q, hA0, hV, rfl, hfz, hnd⟩ := hW
  have hA : DataW.TrodAll enc Tryd.prog W 0 (fun _ => true) true Tryd.f5.params.toList args.toList ds p := hA0
  rw [Tryd.params5] at hA hval
  obtain ⟨v0, vs0, d0, ds0, p0, q0, hargs, rfl, rfl, h0, r0⟩ := trodAll_cons hA
  obtain ⟨v1, vs1, d1, ds1, p1, q1, rfl, rfl, rfl, h1, r1⟩ := trodAll_cons r0
  obtain ⟨v2, vs2, d2, ds2, p2, q2, rfl, rfl, rfl, h2, r2⟩ := trodAll_cons r1
  obtain ⟨v3, vs3, d3, ds3, p3, q3, rfl, rfl, rfl, h3, r3⟩ := trodAll_cons r2
  obtain ⟨rfl, rfl, rfl⟩ := trodAll_nil r3
  obtain rfl : args = #[v0, v1, v2, v3] := by cases args; simp_all
  obtain ⟨gd, rfl⟩ : ∃ gd, gs = [gd] := by obtain ⟨_, _, _, _, d, _, e, _⟩ := trodVars_one hV; exact ⟨d, e⟩
  obtain ⟨a0, rfl, rfl, rfl, w0⟩ := open_string Tryd.underlying9 (hval 0 9 v0 rfl rfl) h0
  obtain ⟨a1, rfl, rfl, rfl, w1⟩ := open_string Tryd.underlying9 (hval 1 9 v1 rfl rfl) h1
  obtain ⟨a2, rfl, rfl, rfl, w2⟩ := open_int Tryd.underlying25 (hval 2 25 v2 rfl rfl) h2
  obtain ⟨b2, rfl, hl2⟩ := u64_nat w2
  obtain ⟨a3, rfl, rfl, rfl, w3⟩ := open_int Tryd.underlying3 (hval 3 3 v3 rfl rfl) h3
  clear hA0
  refine (walk a0 a1 b2 a3 W w0 w1 hl2 (table hL)).mono fun e W' ⟨he, bel⟩ => ?_
  subst he
  exact ⟨_, rfl, _, _, _, [], [], q, hW', trodAll_mk1 (shut_bool Tryd.underlying4 _), (trodAll_cons_mk (shut_string Tryd.underlying9 w0) (trodAll_cons_mk (shut_string Tryd.underlying9 w1) (trodAll_cons_mk (shut_int Tryd.underlying25 w2) (trodAll_cons_mk (shut_int Tryd.underlying3 w3) trodAll_mk0)))), Below.trodVars laidOut bel varsR hV, bel.frame _, fun h => by cases h⟩

theorem laid_met (os : Os) : laidMet Tryd.prog Rows.fnExactHashToFieldRow.laid ((laidWorld os).forCall (fun _ _ => 0) ⟨#[], #[.string ByteArray.empty, .string ByteArray.empty, .int .u64 0, .int .i64 0], []⟩).memory :=
  laidMet_of_run' 8 (by kernel_rfl) (by kernel_rfl)
theorem reads (os : Os) {H : Type} (enc : TypeId × Value → H) : ∃ places, DataW.whole enc Tryd.prog ((laidWorld os).forCall (fun _ _ => 0) ⟨#[], #[.string ByteArray.empty, .string ByteArray.empty, .int .u64 0, .int .i64 0], []⟩).memory Tryd.f5.params.toList Rows.fnExactHashToFieldSpec.vars false #[Value.string ByteArray.empty, Value.string ByteArray.empty, Value.int .u64 0, Value.int .i64 0].toList 8 = some ([.lit (.string []), .lit (.string []), .lit (.int .u64 0), .lit (.int .i64 0)], [Rows.laid_loop_example_s02095_impl_roundWords], places) :=
  ⟨MemPlace.row ⟨2, 0, none⟩ 64, by kernel_rfl⟩

set_option maxRecDepth 100000 in
theorem lifted (os : Os) (started : os.Started) (H : Type) (enc : TypeId × Value → H) (F : Stop.Interp) :
    ReturnsInHanded {} Tryd.checked os 5 .any ((OpenSpec.ofChange Rows.fnExactHashToFieldSpec).preRow enc Tryd.prog Tryd.f5 Rows.fnExactHashToFieldRow.domain false Rows.fnExactHashToFieldRow.laid) (((OpenSpec.ofChange Rows.fnExactHashToFieldSpec).at F).post enc Tryd.prog Tryd.f5 false true false false) := by
  obtain ⟨places, hx⟩ := reads os enc
  refine returnsInHanded_of_row (C := Tryd.checked) (s := OpenSpec.ofChange Rows.fnExactHashToFieldSpec) own started (by kernel_rfl) Tryd.func5
    (witness_row_at (enc := enc) (C := Tryd.checked) false (laidWorld os) #[.string ByteArray.empty, .string ByteArray.empty, .int .u64 0, .int .i64 0] rfl (by kernel_rfl) (by kernel_rfl) (by kernel_rfl)
      (OpenSpec.preRow_of_cond 8 hx (by kernel_rfl) (fun k hk => by cases hk) (by kernel_rfl) (laid_met os))) ?_
  intro W base args ds gs before hval hW _ _ _ hL _ _
  exact contract H enc W base args ds gs before hval hW hL

theorem said : Rows.FnExactHashToFieldSaid :=
  OpenClaim.holds_of_cond 5 Tryd.f5 rfl rfl rfl rfl rfl rfl rfl ⟨rfl, rfl, rfl, rfl, rfl⟩ rfl rfl rfl rfl rfl (by kernel_rfl) Tryd.func5 (by kernel_rfl)
    (of_decide_eq_true (by kernel_rfl)) (by unfold Func.isWrapper; first | (rw [if_pos (by decide +kernel)]; kernel_rfl) | (rw [if_neg (by decide +kernel)]; exact ⟨rfl, rfl⟩))
    (fun os started H enc _ F => by rw [OpenClaim.pre_eq_preRow]; exact lifted os started H enc F)

theorem plain (f : FuncId) (fn : Func) (hf : Tryd.pinned.checked.prog.funcNamed "loop.example/s02095/laws.FnExactHashToField" = some f) (hfn : Tryd.pinned.checked.prog.funcs[f]? = some fn) :
    false = Tryd.pinned.checked.prog.looks [] ∧ ∀ (j : Nat) t, fn.params[j]? = some t → Tryd.pinned.checked.prog.wantsStandIn t = false := by
  obtain rfl : f = 5 := Option.some.inj ((show Tryd.prog.funcNamed "loop.example/s02095/laws.FnExactHashToField" = some 5 by kernel_rfl).symm.trans hf) |>.symm
  obtain rfl : fn = Tryd.f5 := (Option.some.inj (Tryd.func5.symm.trans hfn)).symm
  refine ⟨by kernel_rfl, fun j t ht => ?_⟩
  rw [Tryd.params5] at ht
  have hm := Array.mem_of_getElem? ht
  have : t = 9 ∨ t = 25 ∨ t = 3 := by simpa using hm
  rcases this with rfl | rfl | rfl
  · exact (show Tryd.prog.wantsStandIn 9 = false by kernel_rfl)
  · exact (show Tryd.prog.wantsStandIn 25 = false by kernel_rfl)
  · exact (show Tryd.prog.wantsStandIn 3 = false by kernel_rfl)
end hashToField

/-- ████ THE CARD ████ -/
theorem hashToField_card : Rows.FnExactHashToFieldCardSaid :=
  Claim7.holds_tied_plain_at .later [] _ _ _ _ hashToField.said (fun _ h => by cases h) (by kernel_rfl) (fun _ h => by cases h) fnExactHashToField_row_tie rfl ⟨rfl, rfl⟩ (by kernel_rfl) rfl hashToField.plain (by kernel_rfl)
#print axioms hashToField_card
end Go.Proofs.YtenggagjgmonoaaDoor
