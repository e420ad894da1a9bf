import Derived.Test.YtaeanelfpaphiabCrvE
namespace Go.Proofs.Ytaeanelfpaphiab
open Go.RowKit M
set_option linter.unusedVariables false

theorem R3.keep {W W' : World} {b : Nat} {x y : Int} {c : Bool} (h : R3 W b x y c) (hb : Below W.heap.size W W') : R3 W' b x y c := h.below hb h.lt
theorem kpB {n : Nat} {w0 w1 w2 : World} (h : Below n w0 w1) (hn : n ≤ w1.heap.size) (b : Below w1.heap.size w1 w2) : Below n w0 w2 := h.trans (b.mono hn)

set_option maxRecDepth 100000 in
set_option maxHeartbeats 2000000 in
theorem addS_no (x y u v : Int) (c d o1 o2 : Bool) (w : World) (hok : o1 = false ∨ (o1 = true ∧ o2 = false))
    (F1 : ∀ w, Calls Try.prog 29 #[.agg #[.int .u64 x, .int .u64 y, .bool c]] w fun e w' => e = .returned (.bool o1) ∧ Below w.heap.size w w')
    (F2 : ∀ w, Calls Try.prog 29 #[.agg #[.int .u64 u, .int .u64 v, .bool d]] w fun e w' => e = .returned (.bool o2) ∧ Below w.heap.size w w') :
    Calls Try.prog 34 #[.agg #[.int .u64 x, .int .u64 y, .bool c], .agg #[.int .u64 u, .int .u64 v, .bool d]] w fun e w' => e = .returned (.agg #[.int .u64 0, .int .u64 0, .bool true]) ∧ Below w.heap.size w w' := by
  obtain ⟨X, hX⟩ : ∃ X, X = ((w.alloc (Obj.cells #[.int .u64 x, .int .u64 y, .bool c] 25)).alloc (Obj.cells #[.int .u64 u, .int .u64 v, .bool d] 25)).alloc (Obj.cells #[.int .u64 0, .int .u64 0, .bool false] 25) := ⟨_, rfl⟩
  have hq : R3 X (w.heap.size + 1) u v d := by rw [hX]; exact ((R3.new _ u v d).at (by simp)).alloc _
  have hr : R3 X (w.heap.size + 1 + 1) 0 0 false := by rw [hX]; exact (R3.new _ 0 0 false).at (by simp)
  have hb : Below w.heap.size w X := by rw [hX]; exact (((Below.refl _ w).alloc (Nat.le_refl _) _).alloc (by simp) _).alloc (by simp; omega) _
  rw [hX] at hq hr hb
  clear hX
  rcases hok with rfl | ⟨rfl, rfl⟩
  · go_enter Try.func34, Try.ntmps34
    go_wp2_with fail
    refine (F1 _).mono ?_
    rintro e w1 ⟨rfl, b1⟩
    replace hr := hr.keep b1
    replace hb := kpB hb hb.size b1
    clear b1 F1 F2 hq
    go_wp2_with fail
    refine (zeroS _).mono ?_
    rintro e w3 ⟨rfl, rfl⟩
    replace hr := hr.alloc (Obj.cells #[.int .u64 0, .int .u64 0, .bool true] 25)
    replace hb := hb.alloc hb.size (Obj.cells #[.int .u64 0, .int .u64 0, .bool true] 25)
    have c0 := hr.c0
    have c1 := hr.c1
    have c2 := hr.c2
    have f0 := hr.frz 0
    have f1 := hr.frz 1
    have f2 := hr.frz 2
    go_wp2
    exact bodyPost_ret (v := .agg #[.int .u64 0, .int .u64 0, .bool true]) (point_res (fn := Try.f34) (p := 4) Try.results34 _ rfl (hr.set _ _ _)) rfl ⟨rfl, set3_below hb (by omega)⟩
  · go_enter Try.func34, Try.ntmps34
    go_wp2_with fail
    refine (F1 _).mono ?_
    rintro e w1 ⟨rfl, b1⟩
    replace hr := hr.keep b1
    replace hq := hq.keep b1
    replace hb := kpB hb hb.size b1
    clear b1 F1
    have c0 := hq.c0
    have c1 := hq.c1
    have c2 := hq.c2
    go_wp2_with fail
    refine (F2 _).mono ?_
    rintro e w2 ⟨rfl, b2⟩
    replace hr := hr.keep b2
    replace hb := kpB hb hb.size b2
    clear b2 F2 c0 c1 c2 hq
    go_wp2_with fail
    refine (zeroS _).mono ?_
    rintro e w3 ⟨rfl, rfl⟩
    replace hr := hr.alloc (Obj.cells #[.int .u64 0, .int .u64 0, .bool true] 25)
    replace hb := hb.alloc hb.size (Obj.cells #[.int .u64 0, .int .u64 0, .bool true] 25)
    have c0 := hr.c0
    have c1 := hr.c1
    have c2 := hr.c2
    have f0 := hr.frz 0
    have f1 := hr.frz 1
    have f2 := hr.frz 2
    go_wp2
    exact bodyPost_ret (v := .agg #[.int .u64 0, .int .u64 0, .bool true]) (point_res (fn := Try.f34) (p := 4) Try.results34 _ rfl (hr.set _ _ _)) rfl ⟨rfl, set3_below hb (by omega)⟩
set_option maxRecDepth 100000 in
set_option maxHeartbeats 2000000 in
theorem addS_yes (x y u v x4 y4 : Int) (c d c4 : Bool) (w : World)
    (F1 : ∀ w, Calls Try.prog 29 #[.agg #[.int .u64 x, .int .u64 y, .bool c]] w fun e w' => e = .returned (.bool true) ∧ Below w.heap.size w w')
    (F2 : ∀ w, Calls Try.prog 29 #[.agg #[.int .u64 u, .int .u64 v, .bool d]] w fun e w' => e = .returned (.bool true) ∧ Below w.heap.size w w')
    (Pl : ∀ w, Calls Try.prog 39 #[.agg #[.int .u64 x, .int .u64 y, .bool c], .agg #[.int .u64 u, .int .u64 v, .bool d]] w fun e w' => e = .returned (.agg #[.int .u64 x4, .int .u64 y4, .bool c4]) ∧ Below w.heap.size w w') :
    Calls Try.prog 34 #[.agg #[.int .u64 x, .int .u64 y, .bool c], .agg #[.int .u64 u, .int .u64 v, .bool d]] w fun e w' => e = .returned (.agg #[.int .u64 x4, .int .u64 y4, .bool c4]) ∧ Below w.heap.size w w' := by
  obtain ⟨X, hX⟩ : ∃ X, X = ((w.alloc (Obj.cells #[.int .u64 x, .int .u64 y, .bool c] 25)).alloc (Obj.cells #[.int .u64 u, .int .u64 v, .bool d] 25)).alloc (Obj.cells #[.int .u64 0, .int .u64 0, .bool false] 25) := ⟨_, rfl⟩
  have hp : R3 X w.heap.size x y c := by rw [hX]; exact ((R3.new w x y c).alloc _).alloc _
  have hq : R3 X (w.heap.size + 1) u v d := by rw [hX]; exact ((R3.new _ u v d).at (by simp)).alloc _
  have hr : R3 X (w.heap.size + 1 + 1) 0 0 false := by rw [hX]; exact (R3.new _ 0 0 false).at (by simp)
  have hb : Below w.heap.size w X := by rw [hX]; exact (((Below.refl _ w).alloc (Nat.le_refl _) _).alloc (by simp) _).alloc (by simp; omega) _
  rw [hX] at hp hq hr hb
  clear hX
  go_enter Try.func34, Try.ntmps34
  go_wp2_with fail
  refine (F1 _).mono ?_
  rintro e w1 ⟨rfl, b1⟩
  replace hp := hp.keep b1
  replace hr := hr.keep b1
  replace hq := hq.keep b1
  replace hb := kpB hb hb.size b1
  clear b1 F1
  have c0 := hq.c0
  have c1 := hq.c1
  have c2 := hq.c2
  go_wp2_with fail
  refine (F2 _).mono ?_
  rintro e w2 ⟨rfl, b2⟩
  replace hp := hp.keep b2
  replace hq := hq.keep b2
  replace hr := hr.keep b2
  replace hb := kpB hb hb.size b2
  clear b2 F2 c0 c1 c2
  have c0 := hp.c0
  have c1 := hp.c1
  have c2 := hp.c2
  have d0 := hq.c0
  have d1 := hq.c1
  have d2 := hq.c2
  go_wp2_with fail
  refine (Pl _).mono ?_
  rintro e w3 ⟨rfl, b3⟩
  replace hr := hr.keep b3
  replace hb := kpB hb hb.size b3
  clear b3 Pl c0 c1 c2 d0 d1 d2 hp hq
  have c0 := hr.c0
  have c1 := hr.c1
  have c2 := hr.c2
  have f0 := hr.frz 0
  have f1 := hr.frz 1
  have f2 := hr.frz 2
  go_wp2
  exact bodyPost_ret (v := .agg #[.int .u64 x4, .int .u64 y4, .bool c4]) (point_res (fn := Try.f34) (p := 4) Try.results34 _ rfl (hr.set _ _ _)) rfl ⟨rfl, set3_below hb (by omega)⟩
noncomputable def adPt (x y : Nat) (c : Bool) (u v : Nat) (d : Bool) : Pt := if (toPt x y c).isSome = true ∧ (toPt u v d).isSome = true then ad (asPt x y c) (asPt u v d) else none
theorem fields_of {x y : Nat} {c : Bool} {p : Pt} (h : toPt x y c = some p) : (x : Int) = px p ∧ (y : Int) = py p ∧ c = pb p := by
  have e := toPt_W h
  rw [ptW_eq] at e
  injection e with e
  injection e with e
  simpa using e
theorem addS_any (x y : Nat) (c : Bool) (u v : Nat) (d : Bool) (w : World) :
    Calls Try.prog 34 #[.agg #[.int .u64 x, .int .u64 y, .bool c], .agg #[.int .u64 u, .int .u64 v, .bool d]] w fun e w' => e = .returned (ptW (adPt x y c u v d)) ∧ Below w.heap.size w w' := by
  have F1 := onS_any x y c
  have F2 := onS_any u v d
  unfold adPt
  cases h1 : toPt x y c with
  | none =>
    rw [if_neg (fun h => by cases h.1)]
    rw [h1] at F1
    exact addS_no _ _ _ _ _ _ _ _ w (.inl rfl) F1 F2
  | some p =>
    rw [h1] at F1
    cases h2 : toPt u v d with
    | none =>
      rw [if_neg (fun h => by cases h.2)]
      rw [h2] at F2
      exact addS_no _ _ _ _ _ _ _ _ w (.inr ⟨rfl, rfl⟩) F1 F2
    | some q =>
      rw [h2] at F2
      rw [if_pos ⟨rfl, rfl⟩, asPt_some h1, asPt_some h2, ptW_eq]
      obtain ⟨e1, e2, e3⟩ := fields_of h1
      obtain ⟨e4, e5, e6⟩ := fields_of h2
      have Pl := sumS_xyz p q
      rw [← e1, ← e2, ← e3, ← e4, ← e5, ← e6] at Pl
      exact addS_yes _ _ _ _ _ _ _ _ _ w F1 F2 Pl

set_option maxRecDepth 100000 in
set_option maxHeartbeats 2000000 in
theorem negS_no (x y : Int) (c o1 : Bool) (w : World) (hok : o1 = false ∨ (o1 = true ∧ c = true))
    (F1 : ∀ w, Calls Try.prog 29 #[.agg #[.int .u64 x, .int .u64 y, .bool c]] w fun e w' => e = .returned (.bool o1) ∧ Below w.heap.size w w') :
    Calls Try.prog 44 #[.agg #[.int .u64 x, .int .u64 y, .bool c]] w fun e w' => e = .returned (.agg #[.int .u64 0, .int .u64 0, .bool true]) ∧ Below w.heap.size w w' := by
  obtain ⟨X, hX⟩ : ∃ X, X = (w.alloc (Obj.cells #[.int .u64 x, .int .u64 y, .bool c] 25)).alloc (Obj.cells #[.int .u64 0, .int .u64 0, .bool false] 25) := ⟨_, rfl⟩
  have hp : R3 X w.heap.size x y c := by rw [hX]; exact (R3.new w x y c).alloc _
  have hr : R3 X (w.heap.size + 1) 0 0 false := by rw [hX]; exact (R3.new _ 0 0 false).at (by simp)
  have hb : Below w.heap.size w X := by rw [hX]; exact ((Below.refl _ w).alloc (Nat.le_refl _) _).alloc (by simp) _
  rw [hX] at hp hr hb
  clear hX
  rcases hok with rfl | ⟨rfl, rfl⟩
  · go_enter Try.func44, Try.ntmps44
    go_wp2_with fail
    refine (F1 _).mono ?_
    rintro e w1 ⟨rfl, b1⟩
    replace hr := hr.keep b1
    replace hb := kpB hb hb.size b1
    clear b1 F1 hp
    go_wp2_with fail
    refine (zeroS _).mono ?_
    rintro e w3 ⟨rfl, rfl⟩
    replace hr := hr.alloc (Obj.cells #[.int .u64 0, .int .u64 0, .bool true] 25)
    replace hb := hb.alloc hb.size (Obj.cells #[.int .u64 0, .int .u64 0, .bool true] 25)
    have c0 := hr.c0
    have c1 := hr.c1
    have c2 := hr.c2
    have f0 := hr.frz 0
    have f1 := hr.frz 1
    have f2 := hr.frz 2
    go_wp2
    exact bodyPost_ret (v := .agg #[.int .u64 0, .int .u64 0, .bool true]) (point_res (fn := Try.f44) (p := 2) Try.results44 _ rfl (hr.set _ _ _)) rfl ⟨rfl, set3_below hb (by omega)⟩
  · go_enter Try.func44, Try.ntmps44
    go_wp2_with fail
    refine (F1 _).mono ?_
    rintro e w1 ⟨rfl, b1⟩
    replace hp := hp.keep b1
    replace hr := hr.keep b1
    replace hb := kpB hb hb.size b1
    clear b1 F1
    have d2 := hp.c2
    go_wp2_with fail
    refine (zeroS _).mono ?_
    rintro e w3 ⟨rfl, rfl⟩
    replace hr := hr.alloc (Obj.cells #[.int .u64 0, .int .u64 0, .bool true] 25)
    replace hb := hb.alloc hb.size (Obj.cells #[.int .u64 0, .int .u64 0, .bool true] 25)
    clear d2
    have c0 := hr.c0
    have c1 := hr.c1
    have c2 := hr.c2
    have f0 := hr.frz 0
    have f1 := hr.frz 1
    have f2 := hr.frz 2
    go_wp2
    exact bodyPost_ret (v := .agg #[.int .u64 0, .int .u64 0, .bool true]) (point_res (fn := Try.f44) (p := 2) Try.results44 _ rfl (hr.set _ _ _)) rfl ⟨rfl, set3_below hb (by omega)⟩
set_option maxRecDepth 100000 in
set_option maxHeartbeats 2000000 in
theorem negS_yes (x y z : Int) (w : World) (hy : IntKind.u64.wrap (2305843009213693951 - y) = 2305843009213693951 - y) (hz : (2305843009213693951 - y).tmod 2305843009213693951 = z)
    (F1 : ∀ w, Calls Try.prog 29 #[.agg #[.int .u64 x, .int .u64 y, .bool false]] w fun e w' => e = .returned (.bool true) ∧ Below w.heap.size w w') :
    Calls Try.prog 44 #[.agg #[.int .u64 x, .int .u64 y, .bool false]] w fun e w' => e = .returned (.agg #[.int .u64 x, .int .u64 z, .bool false]) ∧ Below w.heap.size w w' := by
  obtain ⟨X, hX⟩ : ∃ X, X = (w.alloc (Obj.cells #[.int .u64 x, .int .u64 y, .bool false] 25)).alloc (Obj.cells #[.int .u64 0, .int .u64 0, .bool false] 25) := ⟨_, rfl⟩
  have hp : R3 X w.heap.size x y false := by rw [hX]; exact (R3.new w x y false).alloc _
  have hr : R3 X (w.heap.size + 1) 0 0 false := by rw [hX]; exact (R3.new _ 0 0 false).at (by simp)
  have hb : Below w.heap.size w X := by rw [hX]; exact ((Below.refl _ w).alloc (Nat.le_refl _) _).alloc (by simp) _
  rw [hX] at hp hr hb
  clear hX
  go_enter Try.func44, Try.ntmps44
  go_wp2_with fail
  refine (F1 _).mono ?_
  rintro e w1 ⟨rfl, b1⟩
  replace hp := hp.keep b1
  replace hr := hr.keep b1
  replace hb := kpB hb hb.size b1
  clear b1 F1
  have d0 := hp.c0
  have d1 := hp.c1
  have d2 := hp.c2
  have c0 := hr.c0
  have c1 := hr.c1
  have c2 := hr.c2
  have f0 := hr.frz 0
  have f1 := hr.frz 1
  have f2 := hr.frz 2
  go_wp2
  exact bodyPost_ret (v := .agg #[.int .u64 x, .int .u64 z, .bool false]) (point_res (fn := Try.f44) (p := 2) Try.results44 _ rfl (hr.set _ _ _)) rfl ⟨rfl, set3_below hb (by omega)⟩
theorem fv_neg (y : Fp) : (2305843009213693951 - fv y).tmod 2305843009213693951 = fv (-y) := by
  have hy := val_lt y
  have e : (-y).val = (2305843009213693951 - y.val) % 2305843009213693951 := by
    rw [Fin.val_neg]
    split
    · rename_i h; subst h; rfl
    · rename_i h
      have : y.val ≠ 0 := fun e => h (Fin.ext e)
      omega
  unfold fv
  rw [e, Int.tmod_eq_emod_of_nonneg (by omega)]
  generalize y.val = Y at *
  omega
theorem negS_any (x y : Nat) (c : Bool) (w : World) :
    Calls Try.prog 44 #[.agg #[.int .u64 x, .int .u64 y, .bool c]] w fun e w' => e = .returned (ptW (ng (asPt x y c))) ∧ Below w.heap.size w w' := by
  have F1 := onS_any x y c
  cases h1 : toPt x y c with
  | none =>
    rw [h1] at F1
    have e : asPt x y c = none := by unfold asPt; rw [h1]; rfl
    rw [e]
    exact negS_no _ _ _ _ w (.inl rfl) F1
  | some p =>
    rw [h1] at F1
    rw [asPt_some h1]
    obtain ⟨e1, e2, e3⟩ := fields_of h1
    rcases p with _ | ⟨X, Y⟩
    · subst e3
      exact negS_no _ _ _ _ w (.inr ⟨rfl, rfl⟩) F1
    · subst e3
      have hY := val_lt Y
      have hy : (y : Int) = fv Y := e2
      have hx : (x : Int) = fv X := e1
      have := negS_yes x y (fv (-Y)) w (by rw [IntKind.wrap_u64, hy]; unfold fv; omega) (by rw [hy]; exact fv_neg Y) F1
      rw [hx] at this ⊢
      exact this
theorem toPt_self {X Y : Fp} (h : on (some (X, Y))) : toPt X.val Y.val false = some (some (X, Y)) := by
  unfold toPt
  rw [if_neg (by decide), dif_pos ⟨X.isLt, Y.isLt⟩]
  exact if_pos h
end Go.Proofs.Ytaeanelfpaphiab
