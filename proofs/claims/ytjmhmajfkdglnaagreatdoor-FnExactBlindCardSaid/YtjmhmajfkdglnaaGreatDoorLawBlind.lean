import Derived.Test.YtjmhmajfkdglnaaGreatDoorMrg5
import Derived.Test.YtjmhmajfkdglnaaGreatDoorMrg46
import Derived.Test.YtjmhmajfkdglnaaGreatDoorMrg47
namespace Go.Proofs.YtjmhmajfkdglnaaGreatDoor
open Go.ChangeShapes Go.WideShapes Go.ChangeAt Go.RowKit
open Go.ChangeMaps (open_string shut_string)
set_option linter.unusedVariables false
namespace blind

theorem varsR5 : varsRowed Tryz.prog ["loop.example/s02095/impl.errArgs", "loop.example/s02095/impl.errInverse", "loop.example/s02095/impl.roundWords", "loop.example/s02095/impl.errGroup", "loop.example/s02095/impl.errVerify"] = true := by kernel_rfl
set_option maxRecDepth 100000 in
set_option maxHeartbeats 4000000 in
theorem eqB (v0 v1 v3 v4 : Int) (v2 v5 : Bool) (w : World) :
    Calls Tryz.prog 13 #[.agg #[.int .u64 v0, .int .u64 v1, .bool v2, .int .u64 v3, .int .u64 v4, .bool v5], .agg #[.int .u64 v0, .int .u64 v1, .bool v2, .int .u64 v3, .int .u64 v4, .bool v5]] w fun e w' => e = .returned (.bool true) ∧ Below w.heap.size w w' := by
  have E1 := fun w => eqP v0 v1 v2 w
  have E2 := fun w => eqP v3 v4 v5 w
  obtain ⟨X, hX⟩ : ∃ X, X = (w.alloc (Obj.cells #[.int .u64 v0, .int .u64 v1, .bool v2, .int .u64 v3, .int .u64 v4, .bool v5] 30)).alloc (Obj.cells #[.int .u64 v0, .int .u64 v1, .bool v2, .int .u64 v3, .int .u64 v4, .bool v5] 30) := ⟨_, rfl⟩
  have r2 : Bk X 30 w.heap.size #[.int .u64 v0, .int .u64 v1, .bool v2, .int .u64 v3, .int .u64 v4, .bool v5] := by rw [hX]; exact (Bk.new _ _ _).alloc _
  have r3 : Bk X 30 (w.heap.size + 1) #[.int .u64 v0, .int .u64 v1, .bool v2, .int .u64 v3, .int .u64 v4, .bool v5] := by rw [hX]; exact (Bk.new _ _ _).at (by simp)
  have hb : Below w.heap.size w X := by rw [hX]; exact ((Below.refl _ w).alloc (Nat.le_refl _) _).alloc (by simp) _
  rw [hX] at r2 r3 hb
  clear hX
  have p0 := r2.cell (k := 0) rfl
  have p1 := r2.cell (k := 1) rfl
  have p2 := r2.cell (k := 2) rfl
  have q0 := r3.cell (k := 0) rfl
  have q1 := r3.cell (k := 1) rfl
  have q2 := r3.cell (k := 2) rfl
  go_enter Tryz.func13, Tryz.ntmps13
  go_wp2_with fail
  refine (E1 _).mono ?_
  rintro e w1 ⟨rfl, b1⟩
  replace r2 := r2.keep b1
  replace r3 := r3.keep b1
  replace hb := hb.trans (b1.mono hb.size)
  clear E1 b1 p0 p1 p2 q0 q1 q2
  have p0 := r2.cell (k := 3) rfl
  have p1 := r2.cell (k := 4) rfl
  have p2 := r2.cell (k := 5) rfl
  have q0 := r3.cell (k := 3) rfl
  have q1 := r3.cell (k := 4) rfl
  have q2 := r3.cell (k := 5) rfl
  go_wp2_with fail
  refine (E2 _).mono ?_
  rintro e w2 ⟨rfl, b1⟩
  replace hb := hb.trans (b1.mono hb.size)
  clear E2 b1 p0 p1 p2 q0 q1 q2
  go_wp2
  go_ret
  exact ⟨rfl, hb⟩
set_option maxRecDepth 100000 in
set_option maxHeartbeats 4000000 in
theorem walk_of (mode k x y v0 v1 v3 v4 cd : Int) (c v2 v5 : Bool) (input info : ByteArray) (w : World) (h1 : input.size ≤ maxLen) (h2 : info.size ≤ maxLen)
    (L : ∀ w, Calls Tryz.prog 10 #[.int .i64 mode, .string input, .string info, .agg #[.int .u64 x, .int .u64 y, .bool c], .int .u64 k] w fun e w' => e = .returned (.tuple #[.agg #[.int .u64 v0, .int .u64 v1, .bool v2, .int .u64 v3, .int .u64 v4, .bool v5], .int .i64 cd]) ∧ Below w.heap.size w w')
    (M : ∀ w', Below w.heap.size w w' → Calls Tryz.prog 12 #[.int .i64 mode, .string input, .string info, .agg #[.int .u64 x, .int .u64 y, .bool c], .int .u64 k] w' fun e w'' => e = .returned (.tuple #[.agg #[.int .u64 v0, .int .u64 v1, .bool v2, .int .u64 v3, .int .u64 v4, .bool v5], .int .i64 cd]) ∧ Below w'.heap.size w' w'') :
    Calls Tryz.prog 4 #[.int .i64 mode, .string input, .string info, .agg #[.int .u64 x, .int .u64 y, .bool c], .int .u64 k] w fun e w' => e = .returned (.bool true) ∧ Below w.heap.size w w' := by
  have r8 := Bk.new w 27 #[.int .u64 x, .int .u64 y, .bool c]
  have hb := (Below.refl _ w).alloc (Nat.le_refl _) (Obj.cells #[.int .u64 x, .int .u64 y, .bool c] 27)
  have TP := fun w => toP5 x y c w
  by_cases g1 : (1048576 : Int) < (input.size : Int)
  · go_enter Tryz.func4, Tryz.ntmps4
    go_wp2
    go_ret
    exact ⟨rfl, hb⟩
  · by_cases g2 : (1048576 : Int) < (info.size : Int)
    · go_enter Tryz.func4, Tryz.ntmps4
      go_wp2
      go_ret
      exact ⟨rfl, hb⟩
    · have EB := fun w => eqB v0 v1 v3 v4 v2 v5 w
      have p0 := r8.cell (k := 0) rfl
      have p1 := r8.cell (k := 1) rfl
      have p2 := r8.cell (k := 2) rfl
      go_enter Tryz.func4, Tryz.ntmps4
      go_wp2_with fail
      refine (TP _).mono ?_
      rintro e w1 ⟨rfl, b1⟩
      replace r8 := r8.keep b1
      replace hb := hb.trans (b1.mono hb.size)
      clear b1 p0 p1 p2
      go_wp2_with fail
      refine (L _).mono ?_
      rintro e w2 ⟨rfl, b1⟩
      have hal := (Below.refl _ w2).alloc (Nat.le_refl _) (Obj.cells #[.int .u64 v0, .int .u64 v1, .bool v2, .int .u64 v3, .int .u64 v4, .bool v5] 30)
      have r11 := Bk.new w2 30 #[.int .u64 v0, .int .u64 v1, .bool v2, .int .u64 v3, .int .u64 v4, .bool v5]
      replace r8 := (r8.keep b1).keep hal
      replace hb := hb.trans (b1.mono hb.size)
      replace hb := hb.trans (hal.mono hb.size)
      clear L b1 hal
      have p0 := r8.cell (k := 0) rfl
      have p1 := r8.cell (k := 1) rfl
      have p2 := r8.cell (k := 2) rfl
      go_wp2_with fail
      refine (TP _).mono ?_
      rintro e w3 ⟨rfl, b1⟩
      replace r11 := r11.keep b1
      replace hb := hb.trans (b1.mono hb.size)
      clear b1 p0 p1 p2 r8 TP
      go_wp2_with fail
      refine (M _ hb).mono ?_
      rintro e w4 ⟨rfl, b1⟩
      have hal := (Below.refl _ w4).alloc (Nat.le_refl _) (Obj.cells #[.int .u64 v0, .int .u64 v1, .bool v2, .int .u64 v3, .int .u64 v4, .bool v5] 30)
      have r13 := Bk.new w4 30 #[.int .u64 v0, .int .u64 v1, .bool v2, .int .u64 v3, .int .u64 v4, .bool v5]
      replace r11 := (r11.keep b1).keep hal
      replace hb := hb.trans (b1.mono hb.size)
      replace hb := hb.trans (hal.mono hb.size)
      clear M b1 hal
      have p0 := r11.cell (k := 0) rfl
      have p1 := r11.cell (k := 1) rfl
      have p2 := r11.cell (k := 2) rfl
      have p3 := r11.cell (k := 3) rfl
      have p4 := r11.cell (k := 4) rfl
      have p5 := r11.cell (k := 5) rfl
      have q0 := r13.cell (k := 0) rfl
      have q1 := r13.cell (k := 1) rfl
      have q2 := r13.cell (k := 2) rfl
      have q3 := r13.cell (k := 3) rfl
      have q4 := r13.cell (k := 4) rfl
      have q5 := r13.cell (k := 5) rfl
      go_wp2_with fail
      refine (EB _).mono ?_
      rintro e w5 ⟨rfl, b1⟩
      replace hb := hb.trans (b1.mono hb.size)
      clear EB b1 p0 p1 p2 p3 p4 p5 q0 q1 q2 q3 q4 q5
      go_wp2
      go_ret
      exact ⟨rfl, hb⟩
theorem bldA_six (mode : Int) (input info : ByteArray) (t : Tri) (blind : Nat) : ∃ (v0 v1 v3 v4 : Int) (v2 v5 : Bool), bldA mode input info t blind = #[.int .u64 v0, .int .u64 v1, .bool v2, .int .u64 v3, .int .u64 v4, .bool v5] := by
  unfold bldA
  split
  · exact ⟨_, _, _, _, _, _, rfl⟩
  · exact ⟨_, _, _, _, _, _, rfl⟩
theorem walk (a0 : Int) (a1 a2 : ByteArray) (x3 y3 : Nat) (c3 : Bool) (b4 : Nat) (w : World) (h1 : a1.size ≤ maxLen) (h2 : a2.size ≤ maxLen) (h4 : b4 < 18446744073709551616) (hT : TabK w) (hS : ∃ s0 s1 s2 s3, Sn w s0 s1 s2 s3) :
    Calls Tryz.prog 4 #[.int .i64 a0, .string a1, .string a2, .agg #[.int .u64 x3, .int .u64 y3, .bool c3], .int .u64 b4] w fun e w' => e = .returned (.bool true) ∧ Below w.heap.size w w' := by
  obtain ⟨s0, s1, s2, s3, hs⟩ := hS
  have L := fun w => bldS_any a0 a1 a2 (x3, y3, c3) b4 w
  have M := fun w' (hb : Below w.heap.size w w') => bliI_any a0 a1 a2 (x3, y3, c3) b4 s0 s1 s2 s3 w' (keepT hT (World.block_lt_of_cell? w _ (hT 0 (by omega))) hb) (hs.keep hb)
  obtain ⟨v0, v1, v3, v4, v2, v5, e⟩ := bldA_six a0 a1 a2 (x3, y3, c3) b4
  rw [e] at L M
  exact walk_of a0 b4 _ _ v0 v1 v3 v4 _ _ v2 v5 a1 a2 w h1 h2 L M

set_option maxRecDepth 100000 in
theorem contract (H : Type) (enc : TypeId × Value → H) (W : World) (base : Nat) (args : Array Value) (ds gs : List (DataW H)) (before : List MemPlace)
    (hval : ∀ (j : Nat) t v, Tryz.f4.params[j]? = some t → args[j]? = some v → Value.okWide Tryz.prog W .any base t v)
    (hW : DataW.Whole enc Tryz.prog Tryz.f4.params.toList Rows.fnExactBlindSpec.vars false W args.toList ds gs before) (hL : laidMetH Tryz.prog Rows.fnExactBlindRow.laid W) :
    Calls Tryz.prog 4 args W fun e W' => ∃ v, e = .returned v ∧ Rows.fnExactBlindSpec.post enc Tryz.prog Tryz.f4 false true false false W args v W' := by
  have hW' := hW
  obtain ⟨p, q, hA0, hV, rfl, hfz, hnd⟩ := hW
  have hA : DataW.TrodAll enc Tryz.prog W 0 (fun _ => true) true Tryz.f4.params.toList args.toList ds p := hA0
  rw [Tryz.params4] at hA hval
  obtain ⟨v0, vs0, d0, ds0, p0, q0, hargs, rfl, rfl, h0, r0⟩ := trodAll_cons hA
  obtain ⟨v1, vs1, d1, ds1, p1, q1, rfl, rfl, rfl, h1, r1⟩ := trodAll_cons r0
  obtain ⟨v2, vs2, d2, ds2, p2, q2, rfl, rfl, rfl, h2, r2⟩ := trodAll_cons r1
  obtain ⟨v3, vs3, d3, ds3, p3, q3, rfl, rfl, rfl, h3, r3⟩ := trodAll_cons r2
  obtain ⟨v4, vs4, d4, ds4, p4, q4, rfl, rfl, rfl, h4, r4⟩ := trodAll_cons r3
  obtain ⟨rfl, rfl, rfl⟩ := trodAll_nil r4
  obtain rfl : args = #[v0, v1, v2, v3, v4] := by cases args; simp_all
  obtain ⟨g1, g2, g3, g4, g5, rfl⟩ := five (trodVars_len hV)
  obtain ⟨a0, rfl, rfl, rfl, w0⟩ := open_int Tryz.underlying3 (hval 0 3 v0 rfl rfl) h0
  obtain ⟨a1, rfl, rfl, rfl, w1⟩ := open_string Tryz.underlying9 (hval 1 9 v1 rfl rfl) h1
  obtain ⟨a2, rfl, rfl, rfl, w2⟩ := open_string Tryz.underlying9 (hval 2 9 v2 rfl rfl) h2
  obtain ⟨x3, y3, c3, rfl, rfl, rfl, wx3, wy3, lx3, ly3⟩ := open_pt (hval 3 27 v3 rfl rfl) h3
  obtain ⟨a4, rfl, rfl, rfl, w4⟩ := open_int Tryz.underlying22 (hval 4 22 v4 rfl rfl) h4
  obtain ⟨b4, rfl, hl4⟩ := u64_nat w4
  clear hA0
  refine (walk a0 a1 a2 x3 y3 c3 b4 W w1 w2 hl4 (table hL (by kernel_rfl)) (sn_of hL)).mono fun e W' ⟨he, bel⟩ => ?_
  subst he
  exact ⟨_, rfl, _, _, _, [], [], q, hW', trodAll_mk1 (shut_bool Tryz.underlying4 _), (trodAll_cons_mk (shut_int Tryz.underlying3 w0) (trodAll_cons_mk (shut_string Tryz.underlying9 w1) (trodAll_cons_mk (shut_string Tryz.underlying9 w2) (trodAll_cons_mk (shut_pt c3 wx3 wy3) (trodAll_cons_mk (shut_int Tryz.underlying22 w4) trodAll_mk0))))), Below.trodVars laidOut bel varsR5 hV, bel.frame _, fun h => by cases h⟩

theorem laid_met (os : Os) : laidMet Tryz.prog Rows.fnExactBlindRow.laid ((laidWorld6 os).forCall (fun _ _ => 0) ⟨#[], #[.int .i64 0, .string ByteArray.empty, .string ByteArray.empty, .agg #[.int .u64 0, .int .u64 0, .bool false], .int .u64 0], []⟩).memory :=
  laidMet_of_run' 8 (by kernel_rfl) (by kernel_rfl)
theorem reads (os : Os) {H : Type} (enc : TypeId × Value → H) : ∃ places, DataW.whole enc Tryz.prog ((laidWorld6 os).forCall (fun _ _ => 0) ⟨#[], #[.int .i64 0, .string ByteArray.empty, .string ByteArray.empty, .agg #[.int .u64 0, .int .u64 0, .bool false], .int .u64 0], []⟩).memory Tryz.f4.params.toList Rows.fnExactBlindSpec.vars false #[Value.int .i64 0, Value.string ByteArray.empty, Value.string ByteArray.empty, Value.agg #[.int .u64 0, .int .u64 0, .bool false], Value.int .u64 0].toList 8 = some ([.lit (.int .i64 0), .lit (.string []), .lit (.string []), .agg [.lit (.int .u64 0), .lit (.int .u64 0), .lit (.bool false)], .lit (.int .u64 0)], [DataW.held (enc (316, .pointer (some ⟨low6 + 0, 0, none⟩))), DataW.held (enc (316, .pointer (some ⟨low6 + 2, 0, none⟩))), Rows.laid_loop_example_s02095_impl_roundWords, DataW.held (enc (316, .pointer (some ⟨low6 + 1, 0, none⟩))), DataW.held (enc (316, .pointer (some ⟨low6 + 3, 0, none⟩)))], places) := by
  have h : (DataW.whole enc Tryz.prog ((laidWorld6 os).forCall (fun _ _ => 0) ⟨#[], #[.int .i64 0, .string ByteArray.empty, .string ByteArray.empty, .agg #[.int .u64 0, .int .u64 0, .bool false], .int .u64 0], []⟩).memory Tryz.f4.params.toList Rows.fnExactBlindSpec.vars false #[Value.int .i64 0, Value.string ByteArray.empty, Value.string ByteArray.empty, Value.agg #[.int .u64 0, .int .u64 0, .bool false], Value.int .u64 0].toList 8).map (fun x => (x.1, x.2.1)) = some ([.lit (.int .i64 0), .lit (.string []), .lit (.string []), .agg [.lit (.int .u64 0), .lit (.int .u64 0), .lit (.bool false)], .lit (.int .u64 0)], [DataW.held (enc (316, .pointer (some ⟨low6 + 0, 0, none⟩))), DataW.held (enc (316, .pointer (some ⟨low6 + 2, 0, none⟩))), Rows.laid_loop_example_s02095_impl_roundWords, DataW.held (enc (316, .pointer (some ⟨low6 + 1, 0, none⟩))), DataW.held (enc (316, .pointer (some ⟨low6 + 3, 0, none⟩)))]) := by kernel_rfl
  obtain ⟨⟨x, y, z⟩, hx, e⟩ := Option.map_eq_some_iff.1 h
  cases e
  exact ⟨z, hx⟩

set_option maxRecDepth 100000 in
theorem lifted (os : Os) (started : os.Started) (H : Type) (enc : TypeId × Value → H) (F : Stop.Interp) :
    ReturnsInHanded {} Tryz.checked os 4 .any ((OpenSpec.ofChange Rows.fnExactBlindSpec).preRow enc Tryz.prog Tryz.f4 Rows.fnExactBlindRow.domain false Rows.fnExactBlindRow.laid) (((OpenSpec.ofChange Rows.fnExactBlindSpec).at F).post enc Tryz.prog Tryz.f4 false true false false) := by
  obtain ⟨places, hx⟩ := reads os enc
  refine returnsInHanded_of_row (C := Tryz.checked) (s := OpenSpec.ofChange Rows.fnExactBlindSpec) own started (by kernel_rfl) Tryz.func4
    (witness_row_at (enc := enc) (C := Tryz.checked) false (laidWorld6 os) #[.int .i64 0, .string ByteArray.empty, .string ByteArray.empty, .agg #[.int .u64 0, .int .u64 0, .bool false], .int .u64 0] rfl (by kernel_rfl) (by kernel_rfl) (by kernel_rfl)
      (OpenSpec.preRow_of_cond 8 hx (by kernel_rfl) (fun k hk => by cases hk) (by kernel_rfl) (laid_met os))) ?_
  intro W base args ds gs before hval hW _ _ _ hL _ _
  exact contract H enc W base args ds gs before hval hW hL

theorem said : Rows.FnExactBlindSaid :=
  OpenClaim.holds_of_cond 4 Tryz.f4 rfl rfl rfl rfl rfl rfl rfl ⟨rfl, rfl, rfl, rfl, rfl⟩ rfl rfl rfl rfl rfl (by kernel_rfl) Tryz.func4 (by kernel_rfl)
    (of_decide_eq_true (by kernel_rfl)) (by unfold Func.isWrapper; first | (rw [if_pos (by decide +kernel)]; kernel_rfl) | (rw [if_neg (by decide +kernel)]; exact ⟨rfl, rfl⟩))
    (fun os started H enc _ F => by rw [OpenClaim.pre_eq_preRow]; exact lifted os started H enc F)

theorem plain (f : FuncId) (fn : Func) (hf : Tryz.pinned.checked.prog.funcNamed "loop.example/s02095/laws.FnExactBlind" = some f) (hfn : Tryz.pinned.checked.prog.funcs[f]? = some fn) :
    true = Tryz.pinned.checked.prog.looks [] ∧ ∀ (j : Nat) t, fn.params[j]? = some t → Tryz.pinned.checked.prog.wantsStandIn t = false := by
  obtain rfl : f = 4 := Option.some.inj ((show Tryz.prog.funcNamed "loop.example/s02095/laws.FnExactBlind" = some 4 by kernel_rfl).symm.trans hf) |>.symm
  obtain rfl : fn = Tryz.f4 := (Option.some.inj (Tryz.func4.symm.trans hfn)).symm
  refine ⟨by kernel_rfl, fun j t ht => ?_⟩
  rw [Tryz.params4] at ht
  have hm := Array.mem_of_getElem? ht
  have : t = 3 ∨ t = 9 ∨ t = 27 ∨ t = 22 := by simp at hm; grind
  rcases this with rfl | rfl | rfl | rfl
  · exact (show Tryz.prog.wantsStandIn 3 = false by kernel_rfl)
  · exact (show Tryz.prog.wantsStandIn 9 = false by kernel_rfl)
  · exact (show Tryz.prog.wantsStandIn 27 = false by kernel_rfl)
  · exact (show Tryz.prog.wantsStandIn 22 = false by kernel_rfl)
end blind

/-- ████ THE CARD ████ -/
theorem blind_card : Rows.FnExactBlindCardSaid :=
  Claim7.holds_tied_plain_at .later [] _ _ _ _ blind.said (fun _ h => by cases h) (by kernel_rfl) (fun _ h => by cases h) fnExactBlind_row_tie rfl ⟨rfl, rfl⟩ (by kernel_rfl) rfl blind.plain (by kernel_rfl)
#print axioms blind_card
end Go.Proofs.YtjmhmajfkdglnaaGreatDoor
