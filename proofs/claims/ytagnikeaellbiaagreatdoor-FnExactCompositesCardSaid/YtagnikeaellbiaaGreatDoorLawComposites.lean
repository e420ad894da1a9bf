import Derived.Test.YtagnikeaellbiaaGreatDoorBase5
import Derived.Test.YtagnikeaellbiaaGreatDoorMrg37
namespace Go.Proofs.YtagnikeaellbiaaGreatDoor
open Go.ChangeShapes Go.WideShapes Go.ChangeAt Go.RowKit
open Go.ChangeMaps (open_string shut_string)
set_option linter.unusedVariables false
namespace composites

set_option maxRecDepth 100000 in
set_option maxHeartbeats 4000000 in
theorem walk_of (mode bx by' mx my zx zy : Int) (bc mc zc ok : Bool) (cs ds : List Tri) (v2 v3 : Value) (w : World) (hT : TabK w) (h2 : Ars w v2 cs) (h3 : Ars w v3 ds) (hl : (cs.length : Int) + (ds.length : Int) ≤ 1048576)
    (L : ∀ w g1 g2, Mad g1 cs w → Mad g2 ds w → Calls Tryz.prog 8 #[.int .i64 mode, .agg #[.int .u64 bx, .int .u64 by', .bool bc], .slice (some ⟨g1, 0, none⟩) cs.length cs.length, .slice (some ⟨g2, 0, none⟩) ds.length ds.length] w fun e w' => e = .returned (.tuple #[.agg #[.int .u64 mx, .int .u64 my, .bool mc], .agg #[.int .u64 zx, .int .u64 zy, .bool zc], .bool ok]) ∧ Below w.heap.size w w')
    (M : ∀ w g1 g2, TabK w → Mad g1 cs w → Mad g2 ds w → Calls Tryz.prog 11 #[.int .i64 mode, .agg #[.int .u64 bx, .int .u64 by', .bool bc], .slice (some ⟨g1, 0, none⟩) cs.length cs.length, .slice (some ⟨g2, 0, none⟩) ds.length ds.length] w fun e w' => e = .returned (.tuple #[.agg #[.int .u64 mx, .int .u64 my, .bool mc], .agg #[.int .u64 zx, .int .u64 zy, .bool zc], .bool ok]) ∧ Below w.heap.size w w') :
    Calls Tryz.prog 3 #[.int .i64 mode, .agg #[.int .u64 bx, .int .u64 by', .bool bc], v2, v3] w fun e w' => e = .returned (.bool true) ∧ Below w.heap.size w w' := by
  have hgw : 3 < w.heap.size := World.block_lt_of_cell? w _ (hT 0 (by omega))
  have T2 := fun w' hb => tpsL_any v2 cs w' (h2.keep' hb) (by omega)
  have T3 := fun w' hb => tpsL_any v3 ds w' (h3.keep' hb) (by omega)
  have E2 := fun x y w' hx hy => epsL_any cs x y w' hx hy (by omega)
  have E3 := fun x y w' hx hy => epsL_any ds x y w' hx hy (by omega)
  obtain ⟨a2, _, k2, rfl, rfl, -⟩ := h2
  obtain ⟨a3, _, k3, rfl, rfl, -⟩ := h3
  have S2 := fun w => szL_yes a2 cs.length k2 1048576 w (by omega) (by omega)
  have S3 := fun w => szL_yes a3 ds.length k3 (1048576 - cs.length) w (by omega) (by omega)
  have g2 : ¬ (1048576 - (cs.length : Int)) < 0 := by omega
  have g3 : ¬ (1048576 - (cs.length : Int) - (ds.length : Int)) < 0 := by omega
  have hr0 := K3.new w 24 bx by' bc
  have hb := (Below.refl _ w).alloc (Nat.le_refl _) (Obj.cells #[.int .u64 bx, .int .u64 by', .bool bc] 24)
  go_enter Tryz.func3, Tryz.ntmps3
  go_wp2_with fail
  refine (S2 _).mono ?_
  rintro e w' ⟨rfl, rfl⟩
  go_wp2_with fail
  refine (S3 _).mono ?_
  rintro e w' ⟨rfl, rfl⟩
  clear S2 S3
  go_wp2_with fail
  refine (toP5 _ _ _ _).mono ?_
  rintro e w1 ⟨rfl, b1⟩
  replace hr0 := hr0.keep b1
  replace hb := hb.trans (b1.mono hb.size)
  clear b1 g2 g3
  go_wp2_with fail
  refine (T2 _ hb).mono ?_
  rintro e w2 ⟨x1, rfl, m1, b2⟩
  replace hr0 := hr0.keep b2
  replace hb := hb.trans (b2.mono hb.size)
  clear b2
  go_wp2_with fail
  refine (T3 _ hb).mono ?_
  rintro e w3 ⟨x2, rfl, m2, b3⟩
  replace hr0 := hr0.keep b3
  replace m1 := m1.keep b3
  replace hb := hb.trans (b3.mono hb.size)
  clear b3
  go_wp2_with fail
  refine (L _ x1 x2 m1 m2).mono ?_
  rintro e w4 ⟨rfl, b4⟩
  obtain ⟨W4, hW4⟩ : ∃ W4, W4 = (w4.alloc (Obj.cells #[.int .u64 mx, .int .u64 my, .bool mc] 27)).alloc (Obj.cells #[.int .u64 zx, .int .u64 zy, .bool zc] 27) := ⟨_, rfl⟩
  have hB4 : Below w4.heap.size w4 W4 := by rw [hW4]; exact ((Below.refl _ w4).alloc (Nat.le_refl _) _).alloc (by simp) _
  replace hr0 := (hr0.keep b4).keep hB4
  replace hb := hb.trans (b4.mono hb.size)
  replace hb := hb.trans (hB4.mono hb.size)
  have r10 : K3 W4 27 w4.heap.size mx my mc := by rw [hW4]; exact (K3.new _ _ _ _ _).alloc _
  have r11 : K3 W4 27 (w4.heap.size + 1) zx zy zc := by rw [hW4]; exact (K3.new _ _ _ _ _).at (by simp)
  clear b4 hB4 m1 m2 L
  rw [hW4] at hr0 hb r10 r11
  clear hW4
  go_wp2_with fail
  refine (T2 _ hb).mono ?_
  rintro e w5 ⟨x3, rfl, m3, b5⟩
  replace hr0 := hr0.keep b5
  replace r10 := r10.keep b5
  replace r11 := r11.keep b5
  replace hb := hb.trans (b5.mono hb.size)
  clear b5
  go_wp2_with fail
  refine (T3 _ hb).mono ?_
  rintro e w6 ⟨x4, rfl, m4, b6⟩
  replace hr0 := hr0.keep b6
  replace r10 := r10.keep b6
  replace r11 := r11.keep b6
  replace m3 := m3.keep b6
  replace hb := hb.trans (b6.mono hb.size)
  clear b6
  have c0 := hr0.c0
  have c1 := hr0.c1
  have c2 := hr0.c2
  go_wp2_with fail
  refine (toP5 _ _ _ _).mono ?_
  rintro e w7 ⟨rfl, b7⟩
  replace r10 := r10.keep b7
  replace r11 := r11.keep b7
  replace m3 := m3.keep b7
  replace m4 := m4.keep b7
  replace hb := hb.trans (b7.mono hb.size)
  clear b7 c0 c1 c2 hr0
  have hT7 : TabK w7 := keepT hT hgw hb
  go_wp2_with fail
  refine (M _ x3 x4 hT7 m3 m4).mono ?_
  rintro e w8 ⟨rfl, b8⟩
  obtain ⟨W8, hW8⟩ : ∃ W8, W8 = (w8.alloc (Obj.cells #[.int .u64 mx, .int .u64 my, .bool mc] 27)).alloc (Obj.cells #[.int .u64 zx, .int .u64 zy, .bool zc] 27) := ⟨_, rfl⟩
  have hB8 : Below w8.heap.size w8 W8 := by rw [hW8]; exact ((Below.refl _ w8).alloc (Nat.le_refl _) _).alloc (by simp) _
  replace r10 := (r10.keep b8).keep hB8
  replace r11 := (r11.keep b8).keep hB8
  replace m3 := (m3.keep b8).keep hB8
  replace m4 := (m4.keep b8).keep hB8
  replace hb := hb.trans (b8.mono hb.size)
  replace hb := hb.trans (hB8.mono hb.size)
  have r16 : K3 W8 27 (w8.heap.size + 1) zx zy zc := by rw [hW8]; exact (K3.new _ _ _ _ _).at (by simp)
  rw [hW8] at r10 r11 r16 m3 m4 hb
  clear b8 hB8 hW8 M hT7
  have c0 := r10.c0
  have c1 := r10.c1
  have c2 := r10.c2
  go_wp2_with fail
  refine (eqP _ _ _ _).mono ?_
  rintro e w9 ⟨rfl, b9⟩
  replace r11 := r11.keep b9
  replace r16 := r16.keep b9
  replace m3 := m3.keep b9
  replace m4 := m4.keep b9
  replace hb := hb.trans (b9.mono hb.size)
  clear b9 c0 c1 c2 r10
  have c0 := r11.c0
  have c1 := r11.c1
  have c2 := r11.c2
  have d0 := r16.c0
  have d1 := r16.c1
  have d2 := r16.c2
  go_wp2_with fail
  refine (eqP _ _ _ _).mono ?_
  rintro e w10 ⟨rfl, b10⟩
  replace m3 := m3.keep b10
  replace m4 := m4.keep b10
  replace hb := hb.trans (b10.mono hb.size)
  clear b10 c0 c1 c2 d0 d1 d2 r11 r16
  go_wp2_with fail
  refine (T2 _ hb).mono ?_
  rintro e w11 ⟨x5, rfl, m5, b11⟩
  replace m3 := m3.keep b11
  replace m4 := m4.keep b11
  replace hb := hb.trans (b11.mono hb.size)
  clear b11
  go_wp2_with fail
  refine (E2 _ _ _ m3 m5).mono ?_
  rintro e w12 ⟨rfl, b12⟩
  replace m4 := m4.keep b12
  replace hb := hb.trans (b12.mono hb.size)
  clear b12 m3 m5
  go_wp2_with fail
  refine (T3 _ hb).mono ?_
  rintro e w13 ⟨x6, rfl, m6, b13⟩
  replace m4 := m4.keep b13
  replace hb := hb.trans (b13.mono hb.size)
  clear b13
  go_wp2_with fail
  refine (E3 _ _ _ m4 m6).mono ?_
  rintro e w14 ⟨rfl, b14⟩
  replace hb := hb.trans (b14.mono hb.size)
  go_wp2
  go_ret
  exact ⟨rfl, hb⟩
theorem walk (mode : Int) (x y : Nat) (c : Bool) (v2 v3 : Value) (w : World) (h2 : ∃ ps, Ars w v2 ps ∧ ps.length ≤ maxLen) (h3 : ∃ ps, Ars w v3 ps ∧ ps.length ≤ maxLen) (hT : TabK w) :
    Calls Tryz.prog 3 #[.int .i64 mode, .agg #[.int .u64 x, .int .u64 y, .bool c], v2, v3] w fun e w' => e = .returned (.bool true) ∧ Below w.heap.size w w' := by
  obtain ⟨cs, h2, hm2⟩ := h2
  obtain ⟨ds, h3, hm3⟩ := h3
  by_cases hl : (cs.length : Int) + (ds.length : Int) ≤ 1048576
  · obtain ⟨mx, my, mc, zx, zy, zc, ok, L, M⟩ : ∃ (mx my : Int) (mc : Bool) (zx zy : Int) (zc ok : Bool), (∀ w g1 g2, Mad g1 cs w → Mad g2 ds w → Calls Tryz.prog 8 #[.int .i64 mode, .agg #[.int .u64 x, .int .u64 y, .bool c], .slice (some ⟨g1, 0, none⟩) cs.length cs.length, .slice (some ⟨g2, 0, none⟩) ds.length ds.length] w fun e w' => e = .returned (.tuple #[.agg #[.int .u64 mx, .int .u64 my, .bool mc], .agg #[.int .u64 zx, .int .u64 zy, .bool zc], .bool ok]) ∧ Below w.heap.size w w') ∧
      (∀ w g1 g2, TabK w → Mad g1 cs w → Mad g2 ds w → Calls Tryz.prog 11 #[.int .i64 mode, .agg #[.int .u64 x, .int .u64 y, .bool c], .slice (some ⟨g1, 0, none⟩) cs.length cs.length, .slice (some ⟨g2, 0, none⟩) ds.length ds.length] w fun e w' => e = .returned (.tuple #[.agg #[.int .u64 mx, .int .u64 my, .bool mc], .agg #[.int .u64 zx, .int .u64 zy, .bool zc], .bool ok]) ∧ Below w.heap.size w w') := by
      cases hB : batB mode (x, y, c) (x, y, c) cs ds with
      | true =>
        refine ⟨px (comM mode.toNat (x, y, c) cs ds cs), py (comM mode.toNat (x, y, c) cs ds cs), pb (comM mode.toNat (x, y, c) cs ds cs), px (comM mode.toNat (x, y, c) cs ds ds), py (comM mode.toNat (x, y, c) cs ds ds), pb (comM mode.toNat (x, y, c) cs ds ds), true, fun w g1 g2 m1 m2 => ?_, fun w g1 g2 hT m1 m2 => ?_⟩
        · have := comS_yes mode (x, y, c) cs ds g1 0 cs.length g2 0 ds.length w m1.pts m2.pts hB
          rw [ptW_eq, ptW_eq] at this
          exact this
        · have := comI_yes mode (x, y, c) cs ds g1 0 cs.length g2 0 ds.length w hT m1.pts m2.pts hB
          rw [ptW_eq, ptW_eq] at this
          exact this
      | false =>
        exact ⟨0, 0, false, 0, 0, false, false, fun w g1 g2 m1 m2 => comS_bad mode (x, y, c) cs ds g1 0 cs.length g2 0 ds.length w m1.pts m2.pts hB, fun w g1 g2 hT m1 m2 => comI_bad mode (x, y, c) cs ds g1 0 cs.length g2 0 ds.length w m1.pts m2.pts hB⟩
    exact walk_of mode x y mx my zx zy c mc zc ok cs ds v2 v3 w hT h2 h3 hl L M
  · obtain ⟨a2, n2, k2, rfl, l2, -⟩ := h2
    obtain ⟨a3, n3, k3, rfl, l3, -⟩ := h3
    rw [l2, l3] at hl
    have hb := (Below.refl _ w).alloc (Nat.le_refl _) (Obj.cells #[.int .u64 x, .int .u64 y, .bool c] 24)
    by_cases h2 : n2 ≤ 1048576
    · have S2 := fun w => szL_yes a2 n2 k2 1048576 w (by omega) (by omega)
      have S3 := fun w => szL_no a3 n3 k3 (1048576 - n2) w (by omega) (by omega) (by omega) (by omega)
      have g2 : ¬ (1048576 - (n2 : Int)) < 0 := by omega
      clear hl hm2 hm3
      go_enter Tryz.func3, Tryz.ntmps3
      go_wp2_with fail
      refine (S2 _).mono ?_
      rintro e w' ⟨rfl, rfl⟩
      go_wp2_with fail
      refine (S3 _).mono ?_
      rintro e w' ⟨rfl, rfl⟩
      go_wp2
      go_ret
      exact ⟨rfl, hb⟩
    · have S2 := fun w => szL_no a2 n2 k2 1048576 w (by omega) (by omega) (by omega) (by omega)
      clear hl hm2 hm3
      go_enter Tryz.func3, Tryz.ntmps3
      go_wp2_with fail
      refine (S2 _).mono ?_
      rintro e w' ⟨rfl, rfl⟩
      go_wp2
      go_ret
      exact ⟨rfl, hb⟩

set_option maxRecDepth 100000 in
theorem contract (H : Type) (enc : TypeId × Value → H) (W : World) (base : Nat) (args : Array Value) (ds gs : List (DataW H)) (before : List MemPlace)
    (hval : ∀ (j : Nat) t v, Tryz.f3.params[j]? = some t → args[j]? = some v → Value.okWide Tryz.prog W .any base t v)
    (hW : DataW.Whole enc Tryz.prog Tryz.f3.params.toList Rows.fnExactCompositesSpec.vars false W args.toList ds gs before) (hL : laidMetH Tryz.prog Rows.fnExactCompositesRow.laid W) :
    Calls Tryz.prog 3 args W fun e W' => ∃ v, e = .returned v ∧ Rows.fnExactCompositesSpec.post enc Tryz.prog Tryz.f3 false true false false W args v W' := by
  have hW' := hW
  obtain ⟨p, q, hA0, hV, rfl, hfz, hnd⟩ := hW
  have hA : DataW.TrodAll enc Tryz.prog W 0 (fun _ => true) true Tryz.f3.params.toList args.toList ds p := hA0
  rw [Tryz.params3] at hA hval
  obtain ⟨v0, vs0, d0, ds0, p0, q0, hargs, rfl, rfl, h0, r0⟩ := trodAll_cons hA
  obtain ⟨v1, vs1, d1, ds1, p1, q1, rfl, rfl, rfl, h1, r1⟩ := trodAll_cons r0
  obtain ⟨v2, vs2, d2, ds2, p2, q2, rfl, rfl, rfl, h2, r2⟩ := trodAll_cons r1
  obtain ⟨v3, vs3, d3, ds3, p3, q3, rfl, rfl, rfl, h3, r3⟩ := trodAll_cons r2
  obtain ⟨rfl, rfl, rfl⟩ := trodAll_nil r3
  obtain rfl : args = #[v0, v1, v2, v3] := by cases args; simp_all
  obtain ⟨gd, rfl⟩ : ∃ gd, gs = [gd] := by obtain ⟨_, _, _, _, d, _, e, _⟩ := trodVars_one hV; exact ⟨d, e⟩
  obtain ⟨a0, rfl, rfl, rfl, w0⟩ := open_int Tryz.underlying3 (hval 0 3 v0 rfl rfl) h0
  obtain ⟨x1, y1, c1, rfl, rfl, rfl, wx1, wy1, lx1, ly1⟩ := open_pt (hval 1 24 v1 rfl rfl) h1
  obtain ⟨a2, len2, cap2, rfl⟩ := okWide_slice Tryz.underlying25 (hval 2 25 v2 rfl rfl)
  have hlt2 : ∀ x ∈ p2, x.block < W.heap.size := fun x hx => hW'.lt x (by simp [hx])
  obtain ⟨a3, len3, cap3, rfl⟩ := okWide_slice Tryz.underlying25 (hval 3 25 v3 rfl rfl)
  have hlt3 : ∀ x ∈ p3, x.block < W.heap.size := fun x hx => hW'.lt x (by simp [hx])
  clear hA0
  refine (walk a0 x1 y1 c1 (.slice a2 len2 cap2) (.slice a3 len3 cap3) W (ars_of h2) (ars_of h3) (table hL (by kernel_rfl))).mono fun e W' ⟨he, bel⟩ => ?_
  subst he
  exact ⟨_, rfl, _, _, _, [], [] ++ ([] ++ (p2 ++ (p3 ++ []))), q, hW', trodAll_mk1 (shut_bool Tryz.underlying4 _), (trodAll_cons_mk (shut_int Tryz.underlying3 w0) (trodAll_cons_mk (shut_pt c1 wx1 wy1) (trodAll_cons_mk (Below.trod laidOut (by kernel_rfl) (of_decide_eq_true (by kernel_rfl)) h2 bel hlt2) (trodAll_cons_mk (Below.trod laidOut (by kernel_rfl) (of_decide_eq_true (by kernel_rfl)) h3 bel hlt3) trodAll_mk0)))), Below.trodVars laidOut bel varsR hV, bel.frame _, fun h => by cases h⟩

theorem laid_met (os : Os) : laidMet Tryz.prog Rows.fnExactCompositesRow.laid ((laidWorld os).forCall (fun _ _ => 0) ⟨#[], #[.int .i64 0, .agg #[.int .u64 0, .int .u64 0, .bool false], .slice none 0 0, .slice none 0 0], []⟩).memory :=
  laidMet_of_run' 8 (by kernel_rfl) (by kernel_rfl)
theorem reads (os : Os) {H : Type} (enc : TypeId × Value → H) : ∃ places, DataW.whole enc Tryz.prog ((laidWorld os).forCall (fun _ _ => 0) ⟨#[], #[.int .i64 0, .agg #[.int .u64 0, .int .u64 0, .bool false], .slice none 0 0, .slice none 0 0], []⟩).memory Tryz.f3.params.toList Rows.fnExactCompositesSpec.vars false #[Value.int .i64 0, Value.agg #[.int .u64 0, .int .u64 0, .bool false], Value.slice none 0 0, Value.slice none 0 0].toList 8 = some ([.lit (.int .i64 0), .agg [.lit (.int .u64 0), .lit (.int .u64 0), .lit (.bool false)], .nil, .nil], [Rows.laid_loop_example_s02095_impl_roundWords], places) :=
  ⟨MemPlace.row ⟨3, 0, none⟩ 64, by kernel_rfl⟩

set_option maxRecDepth 100000 in
theorem lifted (os : Os) (started : os.Started) (H : Type) (enc : TypeId × Value → H) (F : Stop.Interp) :
    ReturnsInHanded {} Tryz.checked os 3 .any ((OpenSpec.ofChange Rows.fnExactCompositesSpec).preRow enc Tryz.prog Tryz.f3 Rows.fnExactCompositesRow.domain false Rows.fnExactCompositesRow.laid) (((OpenSpec.ofChange Rows.fnExactCompositesSpec).at F).post enc Tryz.prog Tryz.f3 false true false false) := by
  obtain ⟨places, hx⟩ := reads os enc
  refine returnsInHanded_of_row (C := Tryz.checked) (s := OpenSpec.ofChange Rows.fnExactCompositesSpec) own started (by kernel_rfl) Tryz.func3
    (witness_row_at (enc := enc) (C := Tryz.checked) false (laidWorld os) #[.int .i64 0, .agg #[.int .u64 0, .int .u64 0, .bool false], .slice none 0 0, .slice none 0 0] rfl (by kernel_rfl) (by kernel_rfl) (by kernel_rfl)
      (OpenSpec.preRow_of_cond 8 hx (by kernel_rfl) (fun k hk => by cases hk) (by kernel_rfl) (laid_met os))) ?_
  intro W base args ds gs before hval hW _ _ _ hL _ _
  exact contract H enc W base args ds gs before hval hW hL

theorem said : Rows.FnExactCompositesSaid :=
  OpenClaim.holds_of_cond 3 Tryz.f3 rfl rfl rfl rfl rfl rfl rfl ⟨rfl, rfl, rfl, rfl, rfl⟩ rfl rfl rfl rfl rfl (by kernel_rfl) Tryz.func3 (by kernel_rfl)
    (of_decide_eq_true (by kernel_rfl)) (by unfold Func.isWrapper; first | (rw [if_pos (by decide +kernel)]; kernel_rfl) | (rw [if_neg (by decide +kernel)]; exact ⟨rfl, rfl⟩))
    (fun os started H enc _ F => by rw [OpenClaim.pre_eq_preRow]; exact lifted os started H enc F)

theorem plain (f : FuncId) (fn : Func) (hf : Tryz.pinned.checked.prog.funcNamed "loop.example/s02095/laws.FnExactComposites" = some f) (hfn : Tryz.pinned.checked.prog.funcs[f]? = some fn) :
    false = Tryz.pinned.checked.prog.looks [] ∧ ∀ (j : Nat) t, fn.params[j]? = some t → Tryz.pinned.checked.prog.wantsStandIn t = false := by
  obtain rfl : f = 3 := Option.some.inj ((show Tryz.prog.funcNamed "loop.example/s02095/laws.FnExactComposites" = some 3 by kernel_rfl).symm.trans hf) |>.symm
  obtain rfl : fn = Tryz.f3 := (Option.some.inj (Tryz.func3.symm.trans hfn)).symm
  refine ⟨by kernel_rfl, fun j t ht => ?_⟩
  rw [Tryz.params3] at ht
  have hm := Array.mem_of_getElem? ht
  have : t = 3 ∨ t = 24 ∨ t = 25 := by simpa using hm
  rcases this with rfl | rfl | rfl
  · exact (show Tryz.prog.wantsStandIn 3 = false by kernel_rfl)
  · exact (show Tryz.prog.wantsStandIn 24 = false by kernel_rfl)
  · exact (show Tryz.prog.wantsStandIn 25 = false by kernel_rfl)
end composites

/-- ████ THE CARD ████ -/
theorem composites_card : Rows.FnExactCompositesCardSaid :=
  Claim7.holds_tied_plain_at .later [] _ _ _ _ composites.said (fun _ h => by cases h) (by kernel_rfl) (fun _ h => by cases h) fnExactComposites_row_tie rfl ⟨rfl, rfl⟩ (by kernel_rfl) rfl composites.plain (by kernel_rfl)
#print axioms composites_card
end Go.Proofs.YtagnikeaellbiaaGreatDoor
