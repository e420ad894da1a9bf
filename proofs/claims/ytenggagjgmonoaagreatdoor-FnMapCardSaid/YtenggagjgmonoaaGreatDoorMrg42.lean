import Derived.Test.YtenggagjgmonoaaGreatDoorMrg41
import Derived.Test.YtenggagjgmonoaaGreatDoorMrg38
namespace Go.Proofs.YtenggagjgmonoaaGreatDoor
open Go.RowKit M
set_option linter.unusedVariables false

noncomputable def adPt (x y : Nat) (c : Bool) (u v : Nat) (d : Bool) : Pt := if (toPt x y c).isSome = true ∧ (toPt u v d).isSome = true then ad (asPt x y c) (asPt u v d) else none
theorem fields_of {x y : Nat} {c : Bool} {p : Pt} (h : toPt x y c = some p) : (x : Int) = px p ∧ (y : Int) = py p ∧ c = pb p := by
  have e := toPt_W h
  rw [ptW_eq] at e
  injection e with e
  injection e with e
  simpa using e
theorem toPt_self {X Y : Fp} (h : on (some (X, Y))) : toPt X.val Y.val false = some (some (X, Y)) := by
  unfold toPt
  rw [if_neg (by decide), dif_pos ⟨X.isLt, Y.isLt⟩]
  exact if_pos h
end Go.Proofs.YtenggagjgmonoaaGreatDoor

namespace Go.Proofs.YtenggagjgmonoaaGreatDoor
open Go.RowKit M
set_option linter.unusedVariables false

set_option maxRecDepth 100000 in
set_option maxHeartbeats 2000000 in
theorem onI_of (x y u v : Int) (c d ok : Bool) (w : World)
    (Fd : ∀ w, Calls Tryz.prog 23 #[.agg #[.int .u64 x, .int .u64 y, .bool c]] w fun e w' => e = .returned (.tuple #[.agg #[.int .u64 u, .int .u64 v, .bool d], .bool ok]) ∧ Below w.heap.size w w') :
    Calls Tryz.prog 7 #[.agg #[.int .u64 x, .int .u64 y, .bool c]] w fun e w' => e = .returned (.bool ok) ∧ Below w.heap.size w w' := by
  go_enter Tryz.func7, Tryz.ntmps7
  go_wp2_with fail
  refine (Fd _).mono ?_
  rintro e w1 ⟨rfl, b1⟩
  have hb := keepB ((Below.refl _ w).alloc (Nat.le_refl _) (Obj.cells #[.int .u64 x, .int .u64 y, .bool c] 26)) (by simp) b1
  go_wp2
  go_ret
  exact ⟨rfl, hb.alloc hb.size _⟩

set_option maxRecDepth 100000 in
set_option maxHeartbeats 2000000 in
theorem addI_no (x y u v p q r s : Int) (c d pb rb o1 o2 : Bool) (w : World) (hok : o1 = false ∨ (o1 = true ∧ o2 = false))
    (F1 : ∀ w, Calls Tryz.prog 23 #[.agg #[.int .u64 x, .int .u64 y, .bool c]] w fun e w' => e = .returned (.tuple #[.agg #[.int .u64 p, .int .u64 q, .bool pb], .bool o1]) ∧ Below w.heap.size w w')
    (F2 : ∀ w, Calls Tryz.prog 23 #[.agg #[.int .u64 u, .int .u64 v, .bool d]] w fun e w' => e = .returned (.tuple #[.agg #[.int .u64 r, .int .u64 s, .bool rb], .bool o2]) ∧ Below w.heap.size w w') :
    Calls Tryz.prog 13 #[.agg #[.int .u64 x, .int .u64 y, .bool c], .agg #[.int .u64 u, .int .u64 v, .bool d]] w fun e w' => e = .returned (.agg #[.int .u64 0, .int .u64 0, .bool true]) ∧ Below w.heap.size w w' := by
  have hfl := fldK
  obtain ⟨X, hX⟩ : ∃ X, X = ((w.alloc (Obj.cells #[.int .u64 x, .int .u64 y, .bool c] 26)).alloc (Obj.cells #[.int .u64 u, .int .u64 v, .bool d] 26)).alloc (Obj.cells #[.int .u64 0, .int .u64 0, .bool false] 26) := ⟨_, rfl⟩
  have hq : K3 X 26 (w.heap.size + 1) u v d := by rw [hX]; exact ((K3.new _ _ u v d).at (by simp)).alloc _
  have hr : K3 X 26 (w.heap.size + 1 + 1) 0 0 false := by rw [hX]; exact (K3.new _ _ 0 0 false).at (by simp)
  have hb : Below w.heap.size w X := by rw [hX]; exact (((Below.refl _ w).alloc (Nat.le_refl _) _).alloc (by simp) _).alloc (by simp; omega) _
  rw [hX] at hq hr hb
  clear hX
  go_enter Tryz.func13, Tryz.ntmps13
  go_wp2_with fail
  refine (F1 _).mono ?_
  rintro e w1 ⟨rfl, b1⟩
  replace hq := (hq.keep b1).alloc (Obj.cells #[.int .u64 p, .int .u64 q, .bool pb] 44)
  replace hr := (hr.keep b1).alloc (Obj.cells #[.int .u64 p, .int .u64 q, .bool pb] 44)
  replace hb := keepB hb hb.size b1
  replace hb := hb.alloc hb.size (Obj.cells #[.int .u64 p, .int .u64 q, .bool pb] 44)
  clear b1 F1
  have c0 := hq.c0
  have c1 := hq.c1
  have c2 := hq.c2
  go_wp2_with fail
  refine (F2 _).mono ?_
  rintro e w2 ⟨rfl, b2⟩
  replace hr := (hr.keep b2).alloc (Obj.cells #[.int .u64 r, .int .u64 s, .bool rb] 44)
  replace hb := keepB hb hb.size b2
  replace hb := hb.alloc hb.size (Obj.cells #[.int .u64 r, .int .u64 s, .bool rb] 44)
  clear b2 F2 c0 c1 c2 hq
  rcases hok with rfl | ⟨rfl, rfl⟩
  · go_wp2_with fail
    refine (zpP _).mono ?_
    rintro e w3 ⟨rfl, b3⟩
    replace hr := hr.keep b3
    replace hb := keepB hb hb.size b3
    have c0 := hr.c0
    have c1 := hr.c1
    have c2 := hr.c2
    have f0 := hr.frz 0
    have f1 := hr.frz 1
    have f2 := hr.frz 2
    go_wp2
    exact bodyPost_ret (v := .agg #[.int .u64 0, .int .u64 0, .bool true]) (pt_res (fn := Tryz.f13) (p := 4) Tryz.results13 _ rfl (hr.set _ _ _)) rfl ⟨rfl, set3_below hb (by omega)⟩
  · go_wp2_with fail
    refine (zpP _).mono ?_
    rintro e w3 ⟨rfl, b3⟩
    replace hr := hr.keep b3
    replace hb := keepB hb hb.size b3
    have c0 := hr.c0
    have c1 := hr.c1
    have c2 := hr.c2
    have f0 := hr.frz 0
    have f1 := hr.frz 1
    have f2 := hr.frz 2
    go_wp2
    exact bodyPost_ret (v := .agg #[.int .u64 0, .int .u64 0, .bool true]) (pt_res (fn := Tryz.f13) (p := 4) Tryz.results13 _ rfl (hr.set _ _ _)) rfl ⟨rfl, set3_below hb (by omega)⟩
set_option maxRecDepth 100000 in
set_option maxHeartbeats 2000000 in
theorem addI_yes (x y u v p q r s x4 y4 : Int) (c d pb rb c4 : Bool) (w : World)
    (F1 : ∀ w, Calls Tryz.prog 23 #[.agg #[.int .u64 x, .int .u64 y, .bool c]] w fun e w' => e = .returned (.tuple #[.agg #[.int .u64 p, .int .u64 q, .bool pb], .bool true]) ∧ Below w.heap.size w w')
    (F2 : ∀ w, Calls Tryz.prog 23 #[.agg #[.int .u64 u, .int .u64 v, .bool d]] w fun e w' => e = .returned (.tuple #[.agg #[.int .u64 r, .int .u64 s, .bool rb], .bool true]) ∧ Below w.heap.size w w')
    (Pl : ∀ w, Calls Tryz.prog 33 #[.agg #[.int .u64 p, .int .u64 q, .bool pb], .agg #[.int .u64 r, .int .u64 s, .bool rb]] w fun e w' => e = .returned (.agg #[.int .u64 x4, .int .u64 y4, .bool c4]) ∧ Below w.heap.size w w') :
    Calls Tryz.prog 13 #[.agg #[.int .u64 x, .int .u64 y, .bool c], .agg #[.int .u64 u, .int .u64 v, .bool d]] w fun e w' => e = .returned (.agg #[.int .u64 x4, .int .u64 y4, .bool c4]) ∧ Below w.heap.size w w' := by
  have hfl := fldK
  obtain ⟨X, hX⟩ : ∃ X, X = ((w.alloc (Obj.cells #[.int .u64 x, .int .u64 y, .bool c] 26)).alloc (Obj.cells #[.int .u64 u, .int .u64 v, .bool d] 26)).alloc (Obj.cells #[.int .u64 0, .int .u64 0, .bool false] 26) := ⟨_, rfl⟩
  have hq : K3 X 26 (w.heap.size + 1) u v d := by rw [hX]; exact ((K3.new _ _ u v d).at (by simp)).alloc _
  have hr : K3 X 26 (w.heap.size + 1 + 1) 0 0 false := by rw [hX]; exact (K3.new _ _ 0 0 false).at (by simp)
  have hb : Below w.heap.size w X := by rw [hX]; exact (((Below.refl _ w).alloc (Nat.le_refl _) _).alloc (by simp) _).alloc (by simp; omega) _
  rw [hX] at hq hr hb
  clear hX
  go_enter Tryz.func13, Tryz.ntmps13
  go_wp2_with fail
  refine (F1 _).mono ?_
  rintro e w1 ⟨rfl, b1⟩
  replace hq := (hq.keep b1).alloc (Obj.cells #[.int .u64 p, .int .u64 q, .bool pb] 44)
  replace hr := (hr.keep b1).alloc (Obj.cells #[.int .u64 p, .int .u64 q, .bool pb] 44)
  replace hb := keepB hb hb.size b1
  replace hb := hb.alloc hb.size (Obj.cells #[.int .u64 p, .int .u64 q, .bool pb] 44)
  have hp := K3.new w1 44 p q pb
  clear b1 F1
  have c0 := hq.c0
  have c1 := hq.c1
  have c2 := hq.c2
  go_wp2_with fail
  refine (F2 _).mono ?_
  rintro e w2 ⟨rfl, b2⟩
  replace hp := (hp.keep b2).alloc (Obj.cells #[.int .u64 r, .int .u64 s, .bool rb] 44)
  replace hr := (hr.keep b2).alloc (Obj.cells #[.int .u64 r, .int .u64 s, .bool rb] 44)
  replace hb := keepB hb hb.size b2
  replace hb := hb.alloc hb.size (Obj.cells #[.int .u64 r, .int .u64 s, .bool rb] 44)
  clear b2 F2 c0 c1 c2 hq
  have c0 := hp.c0
  have c1 := hp.c1
  have c2 := hp.c2
  go_wp2_with fail
  refine (Pl _).mono ?_
  rintro e w3 ⟨rfl, b3⟩
  replace hr := hr.keep b3
  replace hb := keepB hb hb.size b3
  clear c0 c1 c2 b3 hp Pl
  have c0 := hr.c0
  have c1 := hr.c1
  have c2 := hr.c2
  have f0 := hr.frz 0
  have f1 := hr.frz 1
  have f2 := hr.frz 2
  go_wp2
  exact bodyPost_ret (v := .agg #[.int .u64 x4, .int .u64 y4, .bool c4]) (pt_res (fn := Tryz.f13) (p := 4) Tryz.results13 _ rfl (hr.set _ _ _)) rfl ⟨rfl, set3_below hb (by omega)⟩

set_option maxRecDepth 100000 in
set_option maxHeartbeats 2000000 in
theorem negI_of (x y p q x4 y4 : Int) (c pb c4 ok : Bool) (w : World)
    (F1 : ∀ w, Calls Tryz.prog 23 #[.agg #[.int .u64 x, .int .u64 y, .bool c]] w fun e w' => e = .returned (.tuple #[.agg #[.int .u64 p, .int .u64 q, .bool pb], .bool ok]) ∧ Below w.heap.size w w')
    (Ng : ∀ w, Calls Tryz.prog 24 #[.agg #[.int .u64 p, .int .u64 q, .bool pb]] w fun e w' => e = .returned (.agg #[.int .u64 x4, .int .u64 y4, .bool c4]) ∧ Below w.heap.size w w') :
    Calls Tryz.prog 8 #[.agg #[.int .u64 x, .int .u64 y, .bool c]] w fun e w' => e = .returned (.agg #[.int .u64 x4, .int .u64 y4, .bool c4]) ∧ Below w.heap.size w w' := by
  have hfl := fldK
  obtain ⟨X, hX⟩ : ∃ X, X = (w.alloc (Obj.cells #[.int .u64 x, .int .u64 y, .bool c] 26)).alloc (Obj.cells #[.int .u64 0, .int .u64 0, .bool false] 26) := ⟨_, rfl⟩
  have hr : K3 X 26 (w.heap.size + 1) 0 0 false := by rw [hX]; exact (K3.new _ _ 0 0 false).at (by simp)
  have hb : Below w.heap.size w X := by rw [hX]; exact ((Below.refl _ w).alloc (Nat.le_refl _) _).alloc (by simp) _
  rw [hX] at hr hb
  clear hX
  go_enter Tryz.func8, Tryz.ntmps8
  go_wp2_with fail
  refine (F1 _).mono ?_
  rintro e w1 ⟨rfl, b1⟩
  replace hr := (hr.keep b1).alloc (Obj.cells #[.int .u64 p, .int .u64 q, .bool pb] 44)
  replace hb := keepB hb hb.size b1
  replace hb := hb.alloc hb.size (Obj.cells #[.int .u64 p, .int .u64 q, .bool pb] 44)
  clear b1 F1
  go_wp2_with fail
  refine (Ng _).mono ?_
  rintro e w3 ⟨rfl, b3⟩
  replace hr := hr.keep b3
  replace hb := keepB hb hb.size b3
  clear b3 Ng
  have c0 := hr.c0
  have c1 := hr.c1
  have c2 := hr.c2
  have f0 := hr.frz 0
  have f1 := hr.frz 1
  have f2 := hr.frz 2
  go_wp2
  exact bodyPost_ret (v := .agg #[.int .u64 x4, .int .u64 y4, .bool c4]) (pt_res (fn := Tryz.f8) (p := 2) Tryz.results8 _ rfl (hr.set _ _ _)) rfl ⟨rfl, set3_below hb (by omega)⟩
/-- the program's functions of points, whatever the fields are -/
theorem fndW (x y : Nat) (c : Bool) (w : World) :
    Calls Tryz.prog 23 #[.agg #[.int .u64 x, .int .u64 y, .bool c]] w fun e w' => e = .returned (.tuple #[.agg #[.int .u64 (px (asPt x y c)), .int .u64 (py (asPt x y c)), .bool (pb (asPt x y c))], .bool (toPt x y c).isSome]) ∧ Below w.heap.size w w' := by
  have := fndV x y c w
  rwa [ptW_eq] at this
theorem onI_any (x y : Nat) (c : Bool) (w : World) :
    Calls Tryz.prog 7 #[.agg #[.int .u64 x, .int .u64 y, .bool c]] w fun e w' => e = .returned (.bool (toPt x y c).isSome) ∧ Below w.heap.size w w' :=
  onI_of _ _ _ _ _ _ _ w (fndW x y c)

theorem addI_any (x y : Nat) (c : Bool) (u v : Nat) (d : Bool) (w : World) :
    Calls Tryz.prog 13 #[.agg #[.int .u64 x, .int .u64 y, .bool c], .agg #[.int .u64 u, .int .u64 v, .bool d]] w fun e w' => e = .returned (ptW (adPt x y c u v d)) ∧ Below w.heap.size w w' := by
  have F1 := fndW x y c
  have F2 := fndW u v d
  unfold adPt
  by_cases h1 : (toPt x y c).isSome = true
  · by_cases h2 : (toPt u v d).isSome = true
    · rw [if_pos ⟨h1, h2⟩]
      rw [h1] at F1
      rw [h2] at F2
      have Pl := cplV (asPt_on x y c) (asPt_on u v d)
      rw [ptW_eq, ptW_eq, ptW_eq] at Pl
      rw [ptW_eq]
      exact addI_yes _ _ _ _ _ _ _ _ _ _ _ _ _ _ _ w F1 F2 Pl
    · rw [if_neg (fun h => h2 h.2)]
      exact addI_no _ _ _ _ _ _ _ _ _ _ _ _ _ _ w (.inr ⟨h1, by simpa using h2⟩) F1 F2
  · rw [if_neg (fun h => h1 h.1)]
    exact addI_no _ _ _ _ _ _ _ _ _ _ _ _ _ _ w (.inl (by simpa using h1)) F1 F2
theorem negI_any (x y : Nat) (c : Bool) (w : World) :
    Calls Tryz.prog 8 #[.agg #[.int .u64 x, .int .u64 y, .bool c]] w fun e w' => e = .returned (ptW (ng (asPt x y c))) ∧ Below w.heap.size w w' := by
  have N := cngV (asPt x y c)
  rw [ptW_eq, ptW_eq] at N
  rw [ptW_eq]
  exact negI_of _ _ _ _ _ _ _ _ _ _ w (fndW x y c) N
end Go.Proofs.YtenggagjgmonoaaGreatDoor
