import Derived.Test.YtaeanelfpaphiabDrwR
import Derived.Test.YtaeanelfpaphiabExeL
namespace Go.Proofs.Ytaeanelfpaphiab
open Go.RowKit M
set_option linter.unusedVariables false

theorem cf_negS (args : Array Value) (w : World) : (callFunc 44 args).run Try.prog w = .ok (.enter 44 args) w := by kernel_rfl
theorem op_step {P : Program} {ops : Array Oper} {Q : Exit → Act → World → Prop} {i : Nat} {o : Oper} {a : Act} {w : World} {K : Act → World → Prop} {R : Value → World → Prop} (ho : ops[i]? = some o) (hg : o.guard = none)
    (hd : Does P o a w R) (h : ∀ v w', R v w' → K (a.put o.dst v) w') : wpOp P ops Q i K a w := by
  unfold wpOp
  simp only [ho]
  rw [if_pos (by unfold Region.wanted; rw [hg])]
  exact .inl (hd _ _ h)
set_option maxRecDepth 100000 in
set_option maxHeartbeats 4000000 in
/-- two points are drawn -/
theorem dadd_any (v : Value) (w : World) (hv : Cod w v) :
    Calls Try.prog 31 #[v] w fun e w' => (∃ (x y : Nat) (c : Bool) (x' y' : Nat) (c' : Bool), x < 18446744073709551616 ∧ y < 18446744073709551616 ∧ x' < 18446744073709551616 ∧ y' < 18446744073709551616 ∧ e = .returned (.tuple #[.agg #[.int .u64 x, .int .u64 y, .bool c], .agg #[.int .u64 x', .int .u64 y', .bool c']])) ∧ Below w.heap.size w w' := by
  have hr := (K3.new w 25 0 0 false).alloc (Obj.cells #[.int .u64 0, .int .u64 0, .bool false] 25)
  have hs := (K3.new (w.alloc (Obj.cells #[.int .u64 0, .int .u64 0, .bool false] 25)) 25 0 0 false).at (b' := w.heap.size + 1) (by simp)
  have hb := ((Below.refl _ w).alloc (Nat.le_refl _) (Obj.cells #[.int .u64 0, .int .u64 0, .bool false] 25)).alloc (by simp) (Obj.cells #[.int .u64 0, .int .u64 0, .bool false] 25)
  have hv0 := (hv.below ((Below.refl w.heap.size w).alloc (Nat.le_refl _) (Obj.cells #[.int .u64 0, .int .u64 0, .bool false] 25))).below ((Below.refl _ _).alloc (Nat.le_refl _) (Obj.cells #[.int .u64 0, .int .u64 0, .bool false] 25))
  have T0 := take_any v 0 6 _ hv0 (by omega) (by omega) (by omega)
  have T1 := dany_any v 1 _ hv0 (by omega)
  have T2 := fun w hv => dany_any v 13 w hv (by omega)
  go_enter Try.func31, Try.ntmps31
  go_wp2_with fail
  refine T0.mono ?_
  rintro e w0 ⟨⟨z, hz, rfl⟩, rfl⟩
  go_wp2_with fail
  refine T1.mono ?_
  rintro e w1 ⟨⟨x, y, c, hx, hy, rfl⟩, b1⟩
  have hv1 := (hv0.below b1).below ((Below.refl w1.heap.size w1).alloc (Nat.le_refl _) (Obj.cells #[.int .u64 x, .int .u64 y, .bool c] 25))
  replace hr := (hr.keep b1).alloc (Obj.cells #[.int .u64 x, .int .u64 y, .bool c] 25)
  replace hs := (hs.keep b1).alloc (Obj.cells #[.int .u64 x, .int .u64 y, .bool c] 25)
  have hsz : w.heap.size + 1 < w1.heap.size := by have := b1.size; simp at this; omega
  replace hb := keepB hb hb.size b1
  replace hb := hb.alloc hb.size (Obj.cells #[.int .u64 x, .int .u64 y, .bool c] 25)
  have h6 := K3.new w1 25 x y c
  clear b1 T0 T1 hv0
  go_wp2_with fail
  refine (T2 _ hv1).mono ?_
  rintro e w2 ⟨⟨x', y', c', hx', hy', rfl⟩, b1⟩
  replace hr := (hr.keep b1).alloc (Obj.cells #[.int .u64 x', .int .u64 y', .bool c'] 25)
  replace hs := (hs.keep b1).alloc (Obj.cells #[.int .u64 x', .int .u64 y', .bool c'] 25)
  replace h6 := (h6.keep b1).alloc (Obj.cells #[.int .u64 x', .int .u64 y', .bool c'] 25)
  have hsz8 : w.heap.size + 1 < w2.heap.size := by have := b1.size; simp at this; omega
  replace hb := keepB hb hb.size b1
  replace hb := hb.alloc hb.size (Obj.cells #[.int .u64 x', .int .u64 y', .bool c'] 25)
  have h8 := K3.new w2 25 x' y' c'
  clear b1 T2 hv1
  have N1 := negS_any x y c
  rw [ptW_eq] at N1
  obtain ⟨xn, yn, exn, eyn, hxn, hyn⟩ := pt_nat (ng (asPt x y c))
  rw [exn, eyn] at N1
  generalize pb (ng (asPt x y c)) = cn at *
  clear exn eyn
  rcases (show z = 0 ∨ z = 1 ∨ 1 < z by omega) with rfl | rfl | h
  · go_wp2
    refine Code.wp_mono (Q := fun e a' w' => e = .normal ∧ a'.tmps.getD 2 undef = .pointer (some ⟨w.heap.size, 0, none⟩) ∧ a'.tmps.getD 3 undef = .pointer (some ⟨w.heap.size + 1, 0, none⟩) ∧ a'.defers = [] ∧ K3 w' 25 w.heap.size x y c ∧ K3 w' 25 (w.heap.size + 1) x y c ∧ Below w.heap.size w w') ?cont ?reg
    case reg =>
      refine wp_region_any (by kernel_rfl) ?_
      change wpAny _ _ _ _ 4 _ _ (World.drew _)
      replace hr := hr.drew
      replace hs := hs.drew
      replace h6 := h6.drew
      replace h8 := h8.drew
      replace hb := hb.drew
      have hr5 := hr.set x y c
      have hs5 := hs.other (b' := w.heap.size) (by omega) x y c
      have h65 := h6.other (b' := w.heap.size) (by omega) x y c
      have h85 := h8.other (b' := w.heap.size) (by omega) x y c
      have hr6 := hr5.other (b' := w.heap.size + 1) (by omega) x y c
      have hs6 := hs5.set x y c
      have hb6 := set3_below (b := w.heap.size + 1) (x := x) (y := y) (c := c) (set3_below (b := w.heap.size) (x := x) (y := y) (c := c) hb (Nat.le_refl _)) (by omega)
      refine wpAny_all (rs := [0, 1]) (by kernel_rfl) (by simp) ?_
      intro i hi
      simp only [List.mem_cons, List.not_mem_nil, or_false] at hi
      rcases hi with rfl | rfl
      · refine op_step rfl rfl (R := fun v w' => v = .agg #[.int .u64 (x : Int), .int .u64 (y : Int), .bool c] ∧ w' = _) (does_value (exec_loadP (by kernel_rfl) h6.c0 h6.c1 h6.c2) ⟨rfl, rfl⟩) ?_
        rintro _ _ ⟨rfl, rfl⟩
        refine wpAny_all (rs := [1, 2]) (by kernel_rfl) (by simp) ?_
        intro i hi
        simp only [List.mem_cons, List.not_mem_nil, or_false] at hi
        rcases hi with rfl | rfl
        · refine op_step rfl rfl (R := fun v w' => v = .agg #[.int .u64 (x : Int), .int .u64 (y : Int), .bool c] ∧ w' = _) (does_value (exec_loadP (by kernel_rfl) h6.c0 h6.c1 h6.c2) ⟨rfl, rfl⟩) ?_
          rintro _ _ ⟨rfl, rfl⟩
          refine wpAny_all (rs := [2]) (by kernel_rfl) (by simp) ?_
          intro i hi
          simp only [List.mem_cons, List.not_mem_nil, or_false] at hi
          subst hi
          refine op_step rfl rfl (R := fun v w' => v = undef ∧ w' = set3 _ w.heap.size x y c) (does_skip (exec_storeP (by kernel_rfl) (by kernel_rfl) hr) ⟨rfl, rfl⟩) ?_
          rintro _ _ ⟨rfl, rfl⟩
          refine wpAny_all (rs := [3]) (by kernel_rfl) (by simp) ?_
          intro i hi
          simp only [List.mem_cons, List.not_mem_nil, or_false] at hi
          subst hi
          refine op_step rfl rfl (R := fun v w' => v = undef ∧ w' = set3 _ (w.heap.size + 1) x y c) (does_skip (exec_storeP (by kernel_rfl) (by kernel_rfl) hs5) ⟨rfl, rfl⟩) ?_
          rintro _ _ ⟨rfl, rfl⟩
          refine wpAny_done (by kernel_rfl) ?_ _
          exact ⟨rfl, by kernel_rfl, by kernel_rfl, by kernel_rfl, hr6, hs6, hb6⟩
        · refine op_step rfl rfl (R := fun v w' => v = undef ∧ w' = set3 _ w.heap.size x y c) (does_skip (exec_storeP (by kernel_rfl) (by kernel_rfl) hr) ⟨rfl, rfl⟩) ?_
          rintro _ _ ⟨rfl, rfl⟩
          refine wpAny_all (rs := [1]) (by kernel_rfl) (by simp) ?_
          intro i hi
          simp only [List.mem_cons, List.not_mem_nil, or_false] at hi
          subst hi
          refine op_step rfl rfl (R := fun v w' => v = .agg #[.int .u64 (x : Int), .int .u64 (y : Int), .bool c] ∧ w' = _) (does_value (exec_loadP (by kernel_rfl) h65.c0 h65.c1 h65.c2) ⟨rfl, rfl⟩) ?_
          rintro _ _ ⟨rfl, rfl⟩
          refine wpAny_all (rs := [3]) (by kernel_rfl) (by simp) ?_
          intro i hi
          simp only [List.mem_cons, List.not_mem_nil, or_false] at hi
          subst hi
          refine op_step rfl rfl (R := fun v w' => v = undef ∧ w' = set3 _ (w.heap.size + 1) x y c) (does_skip (exec_storeP (by kernel_rfl) (by kernel_rfl) hs5) ⟨rfl, rfl⟩) ?_
          rintro _ _ ⟨rfl, rfl⟩
          refine wpAny_done (by kernel_rfl) ?_ _
          exact ⟨rfl, by kernel_rfl, by kernel_rfl, by kernel_rfl, hr6, hs6, hb6⟩
      · refine op_step rfl rfl (R := fun v w' => v = .agg #[.int .u64 (x : Int), .int .u64 (y : Int), .bool c] ∧ w' = _) (does_value (exec_loadP (by kernel_rfl) h6.c0 h6.c1 h6.c2) ⟨rfl, rfl⟩) ?_
        rintro _ _ ⟨rfl, rfl⟩
        refine wpAny_all (rs := [0]) (by kernel_rfl) (by simp) ?_
        intro i hi
        simp only [List.mem_cons, List.not_mem_nil, or_false] at hi
        subst hi
        refine op_step rfl rfl (R := fun v w' => v = .agg #[.int .u64 (x : Int), .int .u64 (y : Int), .bool c] ∧ w' = _) (does_value (exec_loadP (by kernel_rfl) h6.c0 h6.c1 h6.c2) ⟨rfl, rfl⟩) ?_
        rintro _ _ ⟨rfl, rfl⟩
        refine wpAny_all (rs := [2]) (by kernel_rfl) (by simp) ?_
        intro i hi
        simp only [List.mem_cons, List.not_mem_nil, or_false] at hi
        subst hi
        refine op_step rfl rfl (R := fun v w' => v = undef ∧ w' = set3 _ w.heap.size x y c) (does_skip (exec_storeP (by kernel_rfl) (by kernel_rfl) hr) ⟨rfl, rfl⟩) ?_
        rintro _ _ ⟨rfl, rfl⟩
        refine wpAny_all (rs := [3]) (by kernel_rfl) (by simp) ?_
        intro i hi
        simp only [List.mem_cons, List.not_mem_nil, or_false] at hi
        subst hi
        refine op_step rfl rfl (R := fun v w' => v = undef ∧ w' = set3 _ (w.heap.size + 1) x y c) (does_skip (exec_storeP (by kernel_rfl) (by kernel_rfl) hs5) ⟨rfl, rfl⟩) ?_
        rintro _ _ ⟨rfl, rfl⟩
        refine wpAny_done (by kernel_rfl) ?_ _
        exact ⟨rfl, by kernel_rfl, by kernel_rfl, by kernel_rfl, hr6, hs6, hb6⟩
    case cont =>
      clear hr hs h6 h8 hb N1
      rintro e ⟨tm, df⟩ w' ⟨rfl, t2, t3, hdf, hr6, hs6, hb6⟩
      simp only at t2 t3 hdf
      subst hdf
      go_wp2
      exact bodyPost_ret (v := .tuple #[.agg #[.int .u64 x, .int .u64 y, .bool c], .agg #[.int .u64 x, .int .u64 y, .bool c]]) (pts_res (fn := Try.f31) (p := 2) (u := 3) Try.results31 _ t2 t3 hr6 hs6) rfl ⟨⟨x, y, c, x, y, c, hx, hy, hx, hy, rfl⟩, hb6⟩
  · go_wp2
    refine Code.wp_mono (Q := fun e a' w' => e = .normal ∧ a'.tmps.getD 2 undef = .pointer (some ⟨w.heap.size, 0, none⟩) ∧ a'.tmps.getD 3 undef = .pointer (some ⟨w.heap.size + 1, 0, none⟩) ∧ a'.defers = [] ∧ K3 w' 25 w.heap.size x y c ∧ K3 w' 25 (w.heap.size + 1) xn yn cn ∧ Below w.heap.size w w') ?cont ?reg
    case reg =>
      refine wp_region_any (by kernel_rfl) ?_
      change wpAny _ _ _ _ 5 _ _ (World.drew _)
      replace hr := hr.drew
      replace hs := hs.drew
      replace h6 := h6.drew
      replace h8 := h8.drew
      replace hb := hb.drew
      refine wpAny_all (rs := [0, 1]) (by kernel_rfl) (by simp) ?_
      intro i hi
      simp only [List.mem_cons, List.not_mem_nil, or_false] at hi
      rcases hi with rfl | rfl
      · refine op_step rfl rfl (R := fun v w' => v = .agg #[.int .u64 (x : Int), .int .u64 (y : Int), .bool c] ∧ w' = _) (does_value (exec_loadP (by kernel_rfl) h6.c0 h6.c1 h6.c2) ⟨rfl, rfl⟩) ?_
        rintro _ _ ⟨rfl, rfl⟩
        refine wpAny_all (rs := [1]) (by kernel_rfl) (by simp) ?_
        intro i hi
        simp only [List.mem_cons, List.not_mem_nil, or_false] at hi
        subst hi
        refine op_step rfl rfl (R := fun v w' => v = .agg #[.int .u64 (x : Int), .int .u64 (y : Int), .bool c] ∧ w' = _) (does_value (exec_loadP (by kernel_rfl) h6.c0 h6.c1 h6.c2) ⟨rfl, rfl⟩) ?_
        rintro _ _ ⟨rfl, rfl⟩
        refine wpAny_all (rs := [2]) (by kernel_rfl) (by simp) ?_
        intro i hi
        simp only [List.mem_cons, List.not_mem_nil, or_false] at hi
        subst hi
        refine op_step rfl rfl (do_call1 cf_negS (by kernel_rfl) (N1 _)) ?_
        rintro _ w4 ⟨rfl, b4⟩
        replace hr := hr.keep b4
        replace hs := hs.keep b4
        replace h6 := h6.keep b4
        replace h8 := h8.keep b4
        replace hb := keepB hb hb.size b4
        clear b4
        have hr5 := hr.set x y c
        have hs5 := hs.other (b' := w.heap.size) (by omega) x y c
        have h65 := h6.other (b' := w.heap.size) (by omega) x y c
        have h85 := h8.other (b' := w.heap.size) (by omega) x y c
        have hr6 := hr5.other (b' := w.heap.size + 1) (by omega) xn yn cn
        have hs6 := hs5.set xn yn cn
        have hb6 := set3_below (b := w.heap.size + 1) (x := xn) (y := yn) (c := cn) (set3_below (b := w.heap.size) (x := x) (y := y) (c := c) hb (Nat.le_refl _)) (by omega)
        refine wpAny_all (rs := [3]) (by kernel_rfl) (by simp) ?_
        intro i hi
        simp only [List.mem_cons, List.not_mem_nil, or_false] at hi
        subst hi
        refine op_step rfl rfl (R := fun v w' => v = undef ∧ w' = set3 _ w.heap.size x y c) (does_skip (exec_storeP (by kernel_rfl) (by kernel_rfl) hr) ⟨rfl, rfl⟩) ?_
        rintro _ _ ⟨rfl, rfl⟩
        refine wpAny_all (rs := [4]) (by kernel_rfl) (by simp) ?_
        intro i hi
        simp only [List.mem_cons, List.not_mem_nil, or_false] at hi
        subst hi
        refine op_step rfl rfl (R := fun v w' => v = undef ∧ w' = set3 _ (w.heap.size + 1) xn yn cn) (does_skip (exec_storeP (by kernel_rfl) (by kernel_rfl) hs5) ⟨rfl, rfl⟩) ?_
        rintro _ _ ⟨rfl, rfl⟩
        refine wpAny_done (by kernel_rfl) ?_ _
        exact ⟨rfl, by kernel_rfl, by kernel_rfl, by kernel_rfl, hr6, hs6, hb6⟩
      · refine op_step rfl rfl (R := fun v w' => v = .agg #[.int .u64 (x : Int), .int .u64 (y : Int), .bool c] ∧ w' = _) (does_value (exec_loadP (by kernel_rfl) h6.c0 h6.c1 h6.c2) ⟨rfl, rfl⟩) ?_
        rintro _ _ ⟨rfl, rfl⟩
        refine wpAny_all (rs := [0, 2]) (by kernel_rfl) (by simp) ?_
        intro i hi
        simp only [List.mem_cons, List.not_mem_nil, or_false] at hi
        rcases hi with rfl | rfl
        · refine op_step rfl rfl (R := fun v w' => v = .agg #[.int .u64 (x : Int), .int .u64 (y : Int), .bool c] ∧ w' = _) (does_value (exec_loadP (by kernel_rfl) h6.c0 h6.c1 h6.c2) ⟨rfl, rfl⟩) ?_
          rintro _ _ ⟨rfl, rfl⟩
          refine wpAny_all (rs := [2]) (by kernel_rfl) (by simp) ?_
          intro i hi
          simp only [List.mem_cons, List.not_mem_nil, or_false] at hi
          subst hi
          refine op_step rfl rfl (do_call1 cf_negS (by kernel_rfl) (N1 _)) ?_
          rintro _ w4 ⟨rfl, b4⟩
          replace hr := hr.keep b4
          replace hs := hs.keep b4
          replace h6 := h6.keep b4
          replace h8 := h8.keep b4
          replace hb := keepB hb hb.size b4
          clear b4
          have hr5 := hr.set x y c
          have hs5 := hs.other (b' := w.heap.size) (by omega) x y c
          have h65 := h6.other (b' := w.heap.size) (by omega) x y c
          have h85 := h8.other (b' := w.heap.size) (by omega) x y c
          have hr6 := hr5.other (b' := w.heap.size + 1) (by omega) xn yn cn
          have hs6 := hs5.set xn yn cn
          have hb6 := set3_below (b := w.heap.size + 1) (x := xn) (y := yn) (c := cn) (set3_below (b := w.heap.size) (x := x) (y := y) (c := c) hb (Nat.le_refl _)) (by omega)
          refine wpAny_all (rs := [3]) (by kernel_rfl) (by simp) ?_
          intro i hi
          simp only [List.mem_cons, List.not_mem_nil, or_false] at hi
          subst hi
          refine op_step rfl rfl (R := fun v w' => v = undef ∧ w' = set3 _ w.heap.size x y c) (does_skip (exec_storeP (by kernel_rfl) (by kernel_rfl) hr) ⟨rfl, rfl⟩) ?_
          rintro _ _ ⟨rfl, rfl⟩
          refine wpAny_all (rs := [4]) (by kernel_rfl) (by simp) ?_
          intro i hi
          simp only [List.mem_cons, List.not_mem_nil, or_false] at hi
          subst hi
          refine op_step rfl rfl (R := fun v w' => v = undef ∧ w' = set3 _ (w.heap.size + 1) xn yn cn) (does_skip (exec_storeP (by kernel_rfl) (by kernel_rfl) hs5) ⟨rfl, rfl⟩) ?_
          rintro _ _ ⟨rfl, rfl⟩
          refine wpAny_done (by kernel_rfl) ?_ _
          exact ⟨rfl, by kernel_rfl, by kernel_rfl, by kernel_rfl, hr6, hs6, hb6⟩
        · refine op_step rfl rfl (do_call1 cf_negS (by kernel_rfl) (N1 _)) ?_
          rintro _ w4 ⟨rfl, b4⟩
          replace hr := hr.keep b4
          replace hs := hs.keep b4
          replace h6 := h6.keep b4
          replace h8 := h8.keep b4
          replace hb := keepB hb hb.size b4
          clear b4
          have hr5 := hr.set x y c
          have hs5 := hs.other (b' := w.heap.size) (by omega) x y c
          have h65 := h6.other (b' := w.heap.size) (by omega) x y c
          have h85 := h8.other (b' := w.heap.size) (by omega) x y c
          have hr6 := hr5.other (b' := w.heap.size + 1) (by omega) xn yn cn
          have hs6 := hs5.set xn yn cn
          have hb6 := set3_below (b := w.heap.size + 1) (x := xn) (y := yn) (c := cn) (set3_below (b := w.heap.size) (x := x) (y := y) (c := c) hb (Nat.le_refl _)) (by omega)
          refine wpAny_all (rs := [0]) (by kernel_rfl) (by simp) ?_
          intro i hi
          simp only [List.mem_cons, List.not_mem_nil, or_false] at hi
          subst hi
          refine op_step rfl rfl (R := fun v w' => v = .agg #[.int .u64 (x : Int), .int .u64 (y : Int), .bool c] ∧ w' = _) (does_value (exec_loadP (by kernel_rfl) h6.c0 h6.c1 h6.c2) ⟨rfl, rfl⟩) ?_
          rintro _ _ ⟨rfl, rfl⟩
          refine wpAny_all (rs := [3]) (by kernel_rfl) (by simp) ?_
          intro i hi
          simp only [List.mem_cons, List.not_mem_nil, or_false] at hi
          subst hi
          refine op_step rfl rfl (R := fun v w' => v = undef ∧ w' = set3 _ w.heap.size x y c) (does_skip (exec_storeP (by kernel_rfl) (by kernel_rfl) hr) ⟨rfl, rfl⟩) ?_
          rintro _ _ ⟨rfl, rfl⟩
          refine wpAny_all (rs := [4]) (by kernel_rfl) (by simp) ?_
          intro i hi
          simp only [List.mem_cons, List.not_mem_nil, or_false] at hi
          subst hi
          refine op_step rfl rfl (R := fun v w' => v = undef ∧ w' = set3 _ (w.heap.size + 1) xn yn cn) (does_skip (exec_storeP (by kernel_rfl) (by kernel_rfl) hs5) ⟨rfl, rfl⟩) ?_
          rintro _ _ ⟨rfl, rfl⟩
          refine wpAny_done (by kernel_rfl) ?_ _
          exact ⟨rfl, by kernel_rfl, by kernel_rfl, by kernel_rfl, hr6, hs6, hb6⟩
    case cont =>
      clear hr hs h6 h8 hb N1
      rintro e ⟨tm, df⟩ w' ⟨rfl, t2, t3, hdf, hr6, hs6, hb6⟩
      simp only at t2 t3 hdf
      subst hdf
      go_wp2
      exact bodyPost_ret (v := .tuple #[.agg #[.int .u64 x, .int .u64 y, .bool c], .agg #[.int .u64 xn, .int .u64 yn, .bool cn]]) (pts_res (fn := Try.f31) (p := 2) (u := 3) Try.results31 _ t2 t3 hr6 hs6) rfl ⟨⟨x, y, c, xn, yn, cn, hx, hy, by omega, by omega, rfl⟩, hb6⟩
  · have h0 : ((z : Int) == 0) = false := by simp; omega
    have h1 : ((z : Int) == 1) = false := by simp; omega
    go_wp2
    refine Code.wp_mono (Q := fun e a' w' => e = .normal ∧ a'.tmps.getD 2 undef = .pointer (some ⟨w.heap.size, 0, none⟩) ∧ a'.tmps.getD 3 undef = .pointer (some ⟨w.heap.size + 1, 0, none⟩) ∧ a'.defers = [] ∧ K3 w' 25 w.heap.size x y c ∧ K3 w' 25 (w.heap.size + 1) x' y' c' ∧ Below w.heap.size w w') ?cont ?reg
    case reg =>
      refine wp_region_any (by kernel_rfl) ?_
      change wpAny _ _ _ _ 4 _ _ (World.drew _)
      replace hr := hr.drew
      replace hs := hs.drew
      replace h6 := h6.drew
      replace h8 := h8.drew
      replace hb := hb.drew
      have hr5 := hr.set x y c
      have hs5 := hs.other (b' := w.heap.size) (by omega) x y c
      have h65 := h6.other (b' := w.heap.size) (by omega) x y c
      have h85 := h8.other (b' := w.heap.size) (by omega) x y c
      have hr6 := hr5.other (b' := w.heap.size + 1) (by omega) x' y' c'
      have hs6 := hs5.set x' y' c'
      have hb6 := set3_below (b := w.heap.size + 1) (x := x') (y := y') (c := c') (set3_below (b := w.heap.size) (x := x) (y := y) (c := c) hb (Nat.le_refl _)) (by omega)
      refine wpAny_all (rs := [0, 1]) (by kernel_rfl) (by simp) ?_
      intro i hi
      simp only [List.mem_cons, List.not_mem_nil, or_false] at hi
      rcases hi with rfl | rfl
      · refine op_step rfl rfl (R := fun v w' => v = .agg #[.int .u64 (x : Int), .int .u64 (y : Int), .bool c] ∧ w' = _) (does_value (exec_loadP (by kernel_rfl) h6.c0 h6.c1 h6.c2) ⟨rfl, rfl⟩) ?_
        rintro _ _ ⟨rfl, rfl⟩
        refine wpAny_all (rs := [1, 2]) (by kernel_rfl) (by simp) ?_
        intro i hi
        simp only [List.mem_cons, List.not_mem_nil, or_false] at hi
        rcases hi with rfl | rfl
        · refine op_step rfl rfl (R := fun v w' => v = .agg #[.int .u64 (x' : Int), .int .u64 (y' : Int), .bool c'] ∧ w' = _) (does_value (exec_loadP (by kernel_rfl) h8.c0 h8.c1 h8.c2) ⟨rfl, rfl⟩) ?_
          rintro _ _ ⟨rfl, rfl⟩
          refine wpAny_all (rs := [2]) (by kernel_rfl) (by simp) ?_
          intro i hi
          simp only [List.mem_cons, List.not_mem_nil, or_false] at hi
          subst hi
          refine op_step rfl rfl (R := fun v w' => v = undef ∧ w' = set3 _ w.heap.size x y c) (does_skip (exec_storeP (by kernel_rfl) (by kernel_rfl) hr) ⟨rfl, rfl⟩) ?_
          rintro _ _ ⟨rfl, rfl⟩
          refine wpAny_all (rs := [3]) (by kernel_rfl) (by simp) ?_
          intro i hi
          simp only [List.mem_cons, List.not_mem_nil, or_false] at hi
          subst hi
          refine op_step rfl rfl (R := fun v w' => v = undef ∧ w' = set3 _ (w.heap.size + 1) x' y' c') (does_skip (exec_storeP (by kernel_rfl) (by kernel_rfl) hs5) ⟨rfl, rfl⟩) ?_
          rintro _ _ ⟨rfl, rfl⟩
          refine wpAny_done (by kernel_rfl) ?_ _
          exact ⟨rfl, by kernel_rfl, by kernel_rfl, by kernel_rfl, hr6, hs6, hb6⟩
        · refine op_step rfl rfl (R := fun v w' => v = undef ∧ w' = set3 _ w.heap.size x y c) (does_skip (exec_storeP (by kernel_rfl) (by kernel_rfl) hr) ⟨rfl, rfl⟩) ?_
          rintro _ _ ⟨rfl, rfl⟩
          refine wpAny_all (rs := [1]) (by kernel_rfl) (by simp) ?_
          intro i hi
          simp only [List.mem_cons, List.not_mem_nil, or_false] at hi
          subst hi
          refine op_step rfl rfl (R := fun v w' => v = .agg #[.int .u64 (x' : Int), .int .u64 (y' : Int), .bool c'] ∧ w' = _) (does_value (exec_loadP (by kernel_rfl) h85.c0 h85.c1 h85.c2) ⟨rfl, rfl⟩) ?_
          rintro _ _ ⟨rfl, rfl⟩
          refine wpAny_all (rs := [3]) (by kernel_rfl) (by simp) ?_
          intro i hi
          simp only [List.mem_cons, List.not_mem_nil, or_false] at hi
          subst hi
          refine op_step rfl rfl (R := fun v w' => v = undef ∧ w' = set3 _ (w.heap.size + 1) x' y' c') (does_skip (exec_storeP (by kernel_rfl) (by kernel_rfl) hs5) ⟨rfl, rfl⟩) ?_
          rintro _ _ ⟨rfl, rfl⟩
          refine wpAny_done (by kernel_rfl) ?_ _
          exact ⟨rfl, by kernel_rfl, by kernel_rfl, by kernel_rfl, hr6, hs6, hb6⟩
      · refine op_step rfl rfl (R := fun v w' => v = .agg #[.int .u64 (x' : Int), .int .u64 (y' : Int), .bool c'] ∧ w' = _) (does_value (exec_loadP (by kernel_rfl) h8.c0 h8.c1 h8.c2) ⟨rfl, rfl⟩) ?_
        rintro _ _ ⟨rfl, rfl⟩
        refine wpAny_all (rs := [0]) (by kernel_rfl) (by simp) ?_
        intro i hi
        simp only [List.mem_cons, List.not_mem_nil, or_false] at hi
        subst hi
        refine op_step rfl rfl (R := fun v w' => v = .agg #[.int .u64 (x : Int), .int .u64 (y : Int), .bool c] ∧ w' = _) (does_value (exec_loadP (by kernel_rfl) h6.c0 h6.c1 h6.c2) ⟨rfl, rfl⟩) ?_
        rintro _ _ ⟨rfl, rfl⟩
        refine wpAny_all (rs := [2]) (by kernel_rfl) (by simp) ?_
        intro i hi
        simp only [List.mem_cons, List.not_mem_nil, or_false] at hi
        subst hi
        refine op_step rfl rfl (R := fun v w' => v = undef ∧ w' = set3 _ w.heap.size x y c) (does_skip (exec_storeP (by kernel_rfl) (by kernel_rfl) hr) ⟨rfl, rfl⟩) ?_
        rintro _ _ ⟨rfl, rfl⟩
        refine wpAny_all (rs := [3]) (by kernel_rfl) (by simp) ?_
        intro i hi
        simp only [List.mem_cons, List.not_mem_nil, or_false] at hi
        subst hi
        refine op_step rfl rfl (R := fun v w' => v = undef ∧ w' = set3 _ (w.heap.size + 1) x' y' c') (does_skip (exec_storeP (by kernel_rfl) (by kernel_rfl) hs5) ⟨rfl, rfl⟩) ?_
        rintro _ _ ⟨rfl, rfl⟩
        refine wpAny_done (by kernel_rfl) ?_ _
        exact ⟨rfl, by kernel_rfl, by kernel_rfl, by kernel_rfl, hr6, hs6, hb6⟩
    case cont =>
      clear hr hs h6 h8 hb N1
      rintro e ⟨tm, df⟩ w' ⟨rfl, t2, t3, hdf, hr6, hs6, hb6⟩
      simp only at t2 t3 hdf
      subst hdf
      go_wp2
      exact bodyPost_ret (v := .tuple #[.agg #[.int .u64 x, .int .u64 y, .bool c], .agg #[.int .u64 x', .int .u64 y', .bool c']]) (pts_res (fn := Try.f31) (p := 2) (u := 3) Try.results31 _ t2 t3 hr6 hs6) rfl ⟨⟨x, y, c, x', y', c', hx, hy, hx', hy', rfl⟩, hb6⟩
end Go.Proofs.Ytaeanelfpaphiab
