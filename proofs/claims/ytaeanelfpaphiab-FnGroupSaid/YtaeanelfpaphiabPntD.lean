import Derived.Test.YtaeanelfpaphiabMulP

import Derived.Test.YtaeanelfpaphiabCrvE
namespace Go.Proofs.Ytaeanelfpaphiab
open Go.RowKit M
set_option linter.unusedVariables false

set_option maxRecDepth 100000 in
set_option maxHeartbeats 2000000 in
theorem ctm_of (x y a b s a2 b2 s2 x4 y4 : Int) (k : Int) (c c4 : Bool) (w : World)
    (K1 : ∀ w, Calls Try.prog 74 #[.agg #[.int .u64 x, .int .u64 y, .bool c]] w fun e w' => e = .returned (.agg #[.int .u64 a, .int .u64 b, .int .u64 s]) ∧ Below w.heap.size w w')
    (K2 : ∀ w, Calls Try.prog 75 #[.agg #[.int .u64 a, .int .u64 b, .int .u64 s], .int .u64 k] w fun e w' => e = .returned (.agg #[.int .u64 a2, .int .u64 b2, .int .u64 s2]) ∧ Below w.heap.size w w')
    (K4 : ∀ w, Calls Try.prog 76 #[.agg #[.int .u64 a2, .int .u64 b2, .int .u64 s2]] w fun e w' => e = .returned (.agg #[.int .u64 x4, .int .u64 y4, .bool c4]) ∧ Below w.heap.size w w') :
    Calls Try.prog 41 #[.agg #[.int .u64 x, .int .u64 y, .bool c], .int .u64 k] w fun e w' => e = .returned (.agg #[.int .u64 x4, .int .u64 y4, .bool c4]) ∧ Below w.heap.size w w' := by
  obtain ⟨X, hX⟩ : ∃ X, X = (w.alloc (Obj.cells #[.int .u64 x, .int .u64 y, .bool c] 60)).alloc (Obj.cells #[.int .u64 0, .int .u64 0, .bool false] 60) := ⟨_, rfl⟩
  have hr : K3 X 60 (w.heap.size + 1) 0 0 false := by rw [hX]; exact (K3.new _ _ 0 0 false).at (by simp)
  have hb : Below w.heap.size w X := by rw [hX]; exact ((Below.refl _ w).alloc (Nat.le_refl _) _).alloc (by simp) _
  rw [hX] at hr hb
  clear hX
  go_enter Try.func41, Try.ntmps41
  go_wp2_with fail
  refine (K1 _).mono ?_
  rintro e w1 ⟨rfl, b1⟩
  go_wp2_with fail
  refine (K2 _).mono ?_
  rintro e w2 ⟨rfl, b2⟩
  go_wp2_with fail
  refine (K4 _).mono ?_
  rintro e w3 ⟨rfl, b3⟩
  replace hr := ((hr.keep b1).keep b2).keep b3
  replace hb := keepB (keepB (keepB hb hb.size b1) (Nat.le_trans hb.size b1.size) b2) (Nat.le_trans hb.size (Nat.le_trans b1.size b2.size)) b3
  clear b1 b2 b3
  have c0 := hr.c0
  have c1 := hr.c1
  have c2 := hr.c2
  have f0 := hr.frz 0
  have f1 := hr.frz 1
  have f2 := hr.frz 2
  go_wp2
  exact bodyPost_ret (v := .agg #[.int .u64 x4, .int .u64 y4, .bool c4]) (cp_res (fn := Try.f41) (p := 4) Try.results41 _ rfl (hr.set _ _ _)) rfl ⟨rfl, set3_below hb (by omega)⟩
theorem ctmV {p : Pt} (hp : on p) (k : Nat) (hk : k < 18446744073709551616) (w : World) :
    Calls Try.prog 41 #[ptW p, .int .u64 k] w fun e w' => e = .returned (ptW (nt k p)) ∧ Below w.heap.size w w' := by
  have K1 := triV p
  have hr := trB_rep (t := (pX p, pY p, pZ p)) hp (rep_self p) (bitsF k (Lib.bitLen k) (Lib.bitLen k))
  rw [valB_all k (by omega)] at hr
  have K2 := fun w => mulP (pX p) (pY p) (pZ p) k w hk _ rfl
  have K4 := pntV hr
  rw [ptW_eq] at K1 K4 ⊢
  rw [ptW_eq (nt k p)]
  exact ctm_of _ _ _ _ _ _ _ _ _ _ _ _ _ w K1 K2 K4

set_option maxRecDepth 100000 in
set_option maxHeartbeats 2000000 in
theorem cng_of (x y z u : Int) (c : Bool) (w : World)
    (R : ∀ w, Calls Try.prog 89 #[.int .u64 y, .agg #[]] w fun e w' => e = .returned (.agg #[.int .u64 z]) ∧ Below w.heap.size w w')
    (N : ∀ w, Calls Try.prog 77 #[.agg #[.int .u64 z]] w fun e w' => e = .returned (.agg #[.int .u64 u]) ∧ Below w.heap.size w w') :
    Calls Try.prog 69 #[.agg #[.int .u64 x, .int .u64 y, .bool c]] w fun e w' => e = .returned (.agg #[.int .u64 x, .int .u64 u, .bool c]) ∧ Below w.heap.size w w' := by
  have hfl := fldP
  obtain ⟨X, hX⟩ : ∃ X, X = (w.alloc (Obj.cells #[.int .u64 x, .int .u64 y, .bool c] 60)).alloc (Obj.cells #[.int .u64 0, .int .u64 0, .bool false] 60) := ⟨_, rfl⟩
  have hp : K3 X 60 w.heap.size x y c := by rw [hX]; exact (K3.new w _ _ _ _).alloc _
  have hr : K3 X 60 (w.heap.size + 1) 0 0 false := by rw [hX]; exact (K3.new _ _ 0 0 false).at (by simp)
  have hb : Below w.heap.size w X := by rw [hX]; exact ((Below.refl _ w).alloc (Nat.le_refl _) _).alloc (by simp) _
  rw [hX] at hp hr hb
  clear hX
  go_enter Try.func69, Try.ntmps69
  go_wp2_with fail
  refine (R _).mono ?_
  rintro e w1 ⟨rfl, b1⟩
  go_wp2_with fail
  refine (N _).mono ?_
  rintro e w2 ⟨rfl, b2⟩
  replace hr := (hr.keep b1).keep b2
  replace hp := (hp.keep b1).keep b2
  replace hb := keepB (keepB hb hb.size b1) (Nat.le_trans hb.size b1.size) b2
  clear b1 b2
  have p0 := hp.c0
  have p1 := hp.c1
  have p2 := hp.c2
  have q1 := hp.frz 1
  have hp2 : K3 (w2.setCell ⟨w.heap.size, 1, none⟩ (.int .u64 u)) 60 w.heap.size x u c := by
    unfold K3 at *
    simp [World.setCell, Array.getElem?_modify, hp]
  have hr2 : K3 (w2.setCell ⟨w.heap.size, 1, none⟩ (.int .u64 u)) 60 (w.heap.size + 1) 0 0 false := by
    unfold K3 at *
    rw [setCell_heap3 _ _ _ _ _ (by omega)]; exact hr
  have hb2 := hb.setCell (p := ⟨w.heap.size, 1, none⟩) (by simp) (.int .u64 u)
  have c0 := hr2.c0
  have c1 := hr2.c1
  have c2 := hr2.c2
  have f0 := hr2.frz 0
  have f1 := hr2.frz 1
  have f2 := hr2.frz 2
  have d0 := hp2.c0
  have d1 := hp2.c1
  have d2 := hp2.c2
  go_wp2
  exact bodyPost_ret (v := .agg #[.int .u64 x, .int .u64 u, .bool c]) (cp_res (fn := Try.f69) (p := 2) Try.results69 _ rfl (hr2.set _ _ _)) rfl ⟨rfl, set3_below hb2 (by omega)⟩
theorem cngV : ∀ (p : Pt) (w : World), Calls Try.prog 69 #[ptW p] w fun e w' => e = .returned (ptW (ng p)) ∧ Below w.heap.size w w'
  | none, w => cng_of 0 0 (fv 0) (fv (0 - 0)) true w rd0 (ngV 0)
  | some (x, y), w => by
    have h := cng_of (fv x) (fv y) (fv y) (fv (0 - y)) false w (rdV y) (ngV y)
    exact h
end Go.Proofs.Ytaeanelfpaphiab
