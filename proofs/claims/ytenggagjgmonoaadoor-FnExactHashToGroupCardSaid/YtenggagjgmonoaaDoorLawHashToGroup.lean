import Derived.Test.YtenggagjgmonoaaDoorMrg9
import Derived.Test.YtenggagjgmonoaaDoorMrg39
namespace Go.Proofs.YtenggagjgmonoaaDoor
open Go.ChangeShapes Go.WideShapes Go.ChangeAt Go.RowKit
open Go.ChangeMaps (open_string shut_string)
set_option linter.unusedVariables false
namespace hashToGroup

set_option maxRecDepth 100000 in
set_option maxHeartbeats 2000000 in
theorem walk (m t : ByteArray) (w : World) (hm : m.size ≤ maxLen) (ht : t.size ≤ maxLen) (hT : TabK w) :
    Calls Tryd.prog 6 #[.string m, .string t] w fun e w' => e = .returned (.bool true) ∧ Below w.heap.size w w' := by
  have hgw : 2 < w.heap.size := World.block_lt_of_cell? w _ (hT 0 (by omega))
  unfold maxLen at hm ht
  by_cases hbk : 1048576 < m.size
  · go_enter Tryd.func6, Tryd.ntmps6
    go_wp2
    go_ret
    exact ⟨rfl, Below.refl _ _⟩
  · by_cases hb : 1048576 < t.size
    · go_enter Tryd.func6, Tryd.ntmps6
      go_wp2
      go_ret
      exact ⟨rfl, Below.refl _ _⟩
    · obtain ⟨x, y, c, ok, S, I⟩ : ∃ (x y : Int) (c ok : Bool), (∀ w, Calls Tryd.prog 16 #[.string m, .string t] w fun e w' => e = .returned (.tuple #[.agg #[.int .u64 x, .int .u64 y, .bool c], .bool ok]) ∧ Below w.heap.size w w') ∧
          (∀ w, TabK w → Calls Tryd.prog 17 #[.string m, .string t] w fun e w' => e = .returned (.tuple #[.agg #[.int .u64 x, .int .u64 y, .bool c], .bool ok]) ∧ Below w.heap.size w w') := by
        by_cases hn : okT m t
        · refine ⟨_, _, _, true, fun w => ?_, fun w hT => h2gI_of m t _ _ _ _ w (fun w' hb => h2gN_yes m t w' (fun i hi => (hb.cell (p := ⟨2, i, none⟩) (World.block_lt_of_cell? w _ (hT i hi))).trans (hT i hi)) hn)⟩
          have := h2gS_yes m t w hn
          rwa [ptW_eq] at this
        · exact ⟨_, _, _, false, fun w => h2gS_no m t w hn, fun w hT => h2gI_of m t _ _ _ _ w (fun w' _ => h2gN_no m t w' hn)⟩
      go_enter Tryd.func6, Tryd.ntmps6
      go_wp2_with fail
      refine (S w).mono ?_
      rintro e W1 ⟨rfl, hb1⟩
      have hw := K3.new W1 36 x y c
      replace hb1 := hb1.alloc hb1.size (Obj.cells #[.int .u64 x, .int .u64 y, .bool c] 36)
      have hT1 : TabK (W1.alloc (Obj.cells #[.int .u64 x, .int .u64 y, .bool c] 36)) := fun i hi => (hb1.cell (p := ⟨2, i, none⟩) hgw).trans (hT i hi)
      go_wp2_with fail
      refine (I _ hT1).mono ?_
      rintro e W2 ⟨rfl, hb2⟩
      replace hw := (hw.keep hb2).alloc (Obj.cells #[.int .u64 x, .int .u64 y, .bool c] 36)
      replace hb1 := hb1.trans (hb2.mono hb1.size)
      replace hb1 := hb1.alloc hb1.size (Obj.cells #[.int .u64 x, .int .u64 y, .bool c] 36)
      clear hb2 S I hT1
      have d0 := hw.c0
      have d1 := hw.c1
      have d2 := hw.c2
      go_wp2_with fail
      refine (eqP _ _ _ _).mono ?_
      rintro e W3 ⟨rfl, b3⟩
      have hb3 := hb1.trans (b3.mono hb1.size)
      go_wp2
      go_ret
      exact ⟨rfl, hb3⟩

set_option maxRecDepth 100000 in
theorem contract (H : Type) (enc : TypeId × Value → H) (W : World) (base : Nat) (args : Array Value) (ds gs : List (DataW H)) (before : List MemPlace)
    (hval : ∀ (j : Nat) t v, Tryd.f6.params[j]? = some t → args[j]? = some v → Value.okWide Tryd.prog W .any base t v)
    (hW : DataW.Whole enc Tryd.prog Tryd.f6.params.toList Rows.fnExactHashToGroupSpec.vars false W args.toList ds gs before) (hL : laidMetH Tryd.prog Rows.fnExactHashToGroupRow.laid W) :
    Calls Tryd.prog 6 args W fun e W' => ∃ v, e = .returned v ∧ Rows.fnExactHashToGroupSpec.post enc Tryd.prog Tryd.f6 false true false false W args v W' := by
  have hW' := hW
  obtain ⟨p, q, hA0, hV, rfl, hfz, hnd⟩ := hW
  have hA : DataW.TrodAll enc Tryd.prog W 0 (fun _ => true) true Tryd.f6.params.toList args.toList ds p := hA0
  rw [Tryd.params6] at hA hval
  obtain ⟨v0, vs0, d0, ds0, p0, q0, hargs, rfl, rfl, h0, r0⟩ := trodAll_cons hA
  obtain ⟨v1, vs1, d1, ds1, p1, q1, rfl, rfl, rfl, h1, r1⟩ := trodAll_cons r0
  obtain ⟨rfl, rfl, rfl⟩ := trodAll_nil r1
  obtain rfl : args = #[v0, v1] := by cases args; simp_all
  obtain ⟨gd, rfl⟩ : ∃ gd, gs = [gd] := by obtain ⟨_, _, _, _, d, _, e, _⟩ := trodVars_one hV; exact ⟨d, e⟩
  obtain ⟨a0, rfl, rfl, rfl, w0⟩ := open_string Tryd.underlying9 (hval 0 9 v0 rfl rfl) h0
  obtain ⟨a1, rfl, rfl, rfl, w1⟩ := open_string Tryd.underlying9 (hval 1 9 v1 rfl rfl) h1
  clear hA0
  refine (walk a0 a1 W w0 w1 (table hL)).mono fun e W' ⟨he, bel⟩ => ?_
  subst he
  exact ⟨_, rfl, _, _, _, [], [], q, hW', trodAll_mk1 (shut_bool Tryd.underlying4 _), (trodAll_cons_mk (shut_string Tryd.underlying9 w0) (trodAll_cons_mk (shut_string Tryd.underlying9 w1) trodAll_mk0)), Below.trodVars laidOut bel varsR hV, bel.frame _, fun h => by cases h⟩

theorem laid_met (os : Os) : laidMet Tryd.prog Rows.fnExactHashToGroupRow.laid ((laidWorld os).forCall (fun _ _ => 0) ⟨#[], #[.string ByteArray.empty, .string ByteArray.empty], []⟩).memory :=
  laidMet_of_run' 8 (by kernel_rfl) (by kernel_rfl)
theorem reads (os : Os) {H : Type} (enc : TypeId × Value → H) : ∃ places, DataW.whole enc Tryd.prog ((laidWorld os).forCall (fun _ _ => 0) ⟨#[], #[.string ByteArray.empty, .string ByteArray.empty], []⟩).memory Tryd.f6.params.toList Rows.fnExactHashToGroupSpec.vars false #[Value.string ByteArray.empty, Value.string ByteArray.empty].toList 8 = some ([.lit (.string []), .lit (.string [])], [Rows.laid_loop_example_s02095_impl_roundWords], places) :=
  ⟨MemPlace.row ⟨2, 0, none⟩ 64, by kernel_rfl⟩

set_option maxRecDepth 100000 in
theorem lifted (os : Os) (started : os.Started) (H : Type) (enc : TypeId × Value → H) (F : Stop.Interp) :
    ReturnsInHanded {} Tryd.checked os 6 .any ((OpenSpec.ofChange Rows.fnExactHashToGroupSpec).preRow enc Tryd.prog Tryd.f6 Rows.fnExactHashToGroupRow.domain false Rows.fnExactHashToGroupRow.laid) (((OpenSpec.ofChange Rows.fnExactHashToGroupSpec).at F).post enc Tryd.prog Tryd.f6 false true false false) := by
  obtain ⟨places, hx⟩ := reads os enc
  refine returnsInHanded_of_row (C := Tryd.checked) (s := OpenSpec.ofChange Rows.fnExactHashToGroupSpec) own started (by kernel_rfl) Tryd.func6
    (witness_row_at (enc := enc) (C := Tryd.checked) false (laidWorld os) #[.string ByteArray.empty, .string ByteArray.empty] rfl (by kernel_rfl) (by kernel_rfl) (by kernel_rfl)
      (OpenSpec.preRow_of_cond 8 hx (by kernel_rfl) (fun k hk => by cases hk) (by kernel_rfl) (laid_met os))) ?_
  intro W base args ds gs before hval hW _ _ _ hL _ _
  exact contract H enc W base args ds gs before hval hW hL

theorem said : Rows.FnExactHashToGroupSaid :=
  OpenClaim.holds_of_cond 6 Tryd.f6 rfl rfl rfl rfl rfl rfl rfl ⟨rfl, rfl, rfl, rfl, rfl⟩ rfl rfl rfl rfl rfl (by kernel_rfl) Tryd.func6 (by kernel_rfl)
    (of_decide_eq_true (by kernel_rfl)) (by unfold Func.isWrapper; first | (rw [if_pos (by decide +kernel)]; kernel_rfl) | (rw [if_neg (by decide +kernel)]; exact ⟨rfl, rfl⟩))
    (fun os started H enc _ F => by rw [OpenClaim.pre_eq_preRow]; exact lifted os started H enc F)

theorem plain (f : FuncId) (fn : Func) (hf : Tryd.pinned.checked.prog.funcNamed "loop.example/s02095/laws.FnExactHashToGroup" = some f) (hfn : Tryd.pinned.checked.prog.funcs[f]? = some fn) :
    false = Tryd.pinned.checked.prog.looks [] ∧ ∀ (j : Nat) t, fn.params[j]? = some t → Tryd.pinned.checked.prog.wantsStandIn t = false := by
  obtain rfl : f = 6 := Option.some.inj ((show Tryd.prog.funcNamed "loop.example/s02095/laws.FnExactHashToGroup" = some 6 by kernel_rfl).symm.trans hf) |>.symm
  obtain rfl : fn = Tryd.f6 := (Option.some.inj (Tryd.func6.symm.trans hfn)).symm
  refine ⟨by kernel_rfl, fun j t ht => ?_⟩
  rw [Tryd.params6] at ht
  have hm := Array.mem_of_getElem? ht
  obtain rfl : t = 9 := by simpa using hm
  exact (show Tryd.prog.wantsStandIn 9 = false by kernel_rfl)
end hashToGroup

/-- ████ THE CARD ████ -/
theorem hashToGroup_card : Rows.FnExactHashToGroupCardSaid :=
  Claim7.holds_tied_plain_at .later [] _ _ _ _ hashToGroup.said (fun _ h => by cases h) (by kernel_rfl) (fun _ h => by cases h) fnExactHashToGroup_row_tie rfl ⟨rfl, rfl⟩ (by kernel_rfl) rfl hashToGroup.plain (by kernel_rfl)
#print axioms hashToGroup_card
end Go.Proofs.YtenggagjgmonoaaDoor
