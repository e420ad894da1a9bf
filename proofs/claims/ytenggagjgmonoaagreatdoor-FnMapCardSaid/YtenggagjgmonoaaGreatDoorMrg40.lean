import Derived.Test.YtenggagjgmonoaaGreatDoorMrg37
import Derived.Test.YtenggagjgmonoaaGreatDoorMrg31
namespace Go.Proofs.YtenggagjgmonoaaGreatDoor
open Go.RowKit M
set_option linter.unusedVariables false

set_option maxRecDepth 100000 in
set_option maxHeartbeats 2000000 in
theorem cng_of (x y z u : Int) (c : Bool) (w : World)
    (R : ∀ w, Calls Tryz.prog 17 #[.int .u64 y, .agg #[]] w fun e w' => e = .returned (.agg #[.int .u64 z]) ∧ Below w.heap.size w w')
    (N : ∀ w, Calls Tryz.prog 36 #[.agg #[.int .u64 z]] w fun e w' => e = .returned (.agg #[.int .u64 u]) ∧ Below w.heap.size w w') :
    Calls Tryz.prog 24 #[.agg #[.int .u64 x, .int .u64 y, .bool c]] w fun e w' => e = .returned (.agg #[.int .u64 x, .int .u64 u, .bool c]) ∧ Below w.heap.size w w' := by
  have hfl := fldP
  obtain ⟨X, hX⟩ : ∃ X, X = (w.alloc (Obj.cells #[.int .u64 x, .int .u64 y, .bool c] 44)).alloc (Obj.cells #[.int .u64 0, .int .u64 0, .bool false] 44) := ⟨_, rfl⟩
  have hp : K3 X 44 w.heap.size x y c := by rw [hX]; exact (K3.new w _ _ _ _).alloc _
  have hr : K3 X 44 (w.heap.size + 1) 0 0 false := by rw [hX]; exact (K3.new _ _ 0 0 false).at (by simp)
  have hb : Below w.heap.size w X := by rw [hX]; exact ((Below.refl _ w).alloc (Nat.le_refl _) _).alloc (by simp) _
  rw [hX] at hp hr hb
  clear hX
  go_enter Tryz.func24, Tryz.ntmps24
  go_wp2_with fail
  refine (R _).mono ?_
  rintro e w1 ⟨rfl, b1⟩
  go_wp2_with fail
  refine (N _).mono ?_
  rintro e w2 ⟨rfl, b2⟩
  replace hr := (hr.keep b1).keep b2
  replace hp := (hp.keep b1).keep b2
  replace hb := keepB (keepB hb hb.size b1) (Nat.le_trans hb.size b1.size) b2
  clear b1 b2
  have p0 := hp.c0
  have p1 := hp.c1
  have p2 := hp.c2
  have q1 := hp.frz 1
  have hp2 : K3 (w2.setCell ⟨w.heap.size, 1, none⟩ (.int .u64 u)) 44 w.heap.size x u c := by
    unfold K3 at *
    simp [World.setCell, Array.getElem?_modify, hp]
  have hr2 : K3 (w2.setCell ⟨w.heap.size, 1, none⟩ (.int .u64 u)) 44 (w.heap.size + 1) 0 0 false := by
    unfold K3 at *
    rw [setCell_heap3 _ _ _ _ _ (by omega)]; exact hr
  have hb2 := hb.setCell (p := ⟨w.heap.size, 1, none⟩) (by simp) (.int .u64 u)
  have c0 := hr2.c0
  have c1 := hr2.c1
  have c2 := hr2.c2
  have f0 := hr2.frz 0
  have f1 := hr2.frz 1
  have f2 := hr2.frz 2
  have d0 := hp2.c0
  have d1 := hp2.c1
  have d2 := hp2.c2
  go_wp2
  exact bodyPost_ret (v := .agg #[.int .u64 x, .int .u64 u, .bool c]) (cp_res (fn := Tryz.f24) (p := 2) Tryz.results24 _ rfl (hr2.set _ _ _)) rfl ⟨rfl, set3_below hb2 (by omega)⟩
theorem cngV : ∀ (p : Pt) (w : World), Calls Tryz.prog 24 #[ptW p] w fun e w' => e = .returned (ptW (ng p)) ∧ Below w.heap.size w w'
  | none, w => cng_of 0 0 (fv 0) (fv (0 - 0)) true w rd0 (ngV 0)
  | some (x, y), w => by
    have h := cng_of (fv x) (fv y) (fv y) (fv (0 - y)) false w (rdV y) (ngV y)
    exact h
end Go.Proofs.YtenggagjgmonoaaGreatDoor

namespace Go.Proofs.YtenggagjgmonoaaGreatDoor
open Go.RowKit M
set_option linter.unusedVariables false

/-- the point of the curve that three fields are, if they are one -/
noncomputable def toPt (x y : Nat) (b : Bool) : Option Pt :=
  if b = true then (if x = 0 ∧ y = 0 then some none else none)
  else if h : x < 2305843009213693951 ∧ y < 2305843009213693951 then
    (if (⟨y, h.2⟩ : Fp) * ⟨y, h.2⟩ = crv ⟨x, h.1⟩ then some (some (⟨x, h.1⟩, ⟨y, h.2⟩)) else none)
  else none
theorem toPt_on {x y : Nat} {b : Bool} {p : Pt} (h : toPt x y b = some p) : on p := by
  unfold toPt at h
  split at h
  · split at h
    · cases h; trivial
    · cases h
  · split at h
    · split at h
      · cases h; assumption
      · cases h
    · cases h
theorem toPt_W {x y : Nat} {b : Bool} {p : Pt} (h : toPt x y b = some p) : (.agg #[.int .u64 x, .int .u64 y, .bool b] : Value) = ptW p := by
  unfold toPt at h
  split at h
  · split at h
    · rename_i hb hxy
      obtain ⟨rfl, rfl⟩ := hxy
      subst hb; cases h; rfl
    · cases h
  · split at h
    · split at h
      · rename_i hb _ _
        have hb' : b = false := by simpa using hb
        subst hb'; cases h; rfl
      · cases h
    · cases h
end Go.Proofs.YtenggagjgmonoaaGreatDoor
