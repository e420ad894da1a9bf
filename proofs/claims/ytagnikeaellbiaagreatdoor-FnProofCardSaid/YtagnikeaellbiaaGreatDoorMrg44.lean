import Derived.Test.YtagnikeaellbiaaGreatDoorMrg10
import Derived.Test.YtagnikeaellbiaaGreatDoorMrg19
import Derived.Test.YtagnikeaellbiaaGreatDoorMrg43
import Derived.Test.YtagnikeaellbiaaGreatDoorMrg37
import Derived.Test.YtagnikeaellbiaaGreatDoorMrg38
import Derived.Test.YtagnikeaellbiaaGreatDoorMrg40
import Derived.Test.YtagnikeaellbiaaGreatDoorMrg39
import Derived.Test.YtagnikeaellbiaaGreatDoorMrg41
/-
  The program's Composites, Prove and Check.
-/
namespace Go.Proofs.YtagnikeaellbiaaGreatDoor
open Go.RowKit M
set_option linter.unusedVariables false

theorem G.Sides.under {S : List Nat} {W0 w w' : World} {B : Nat} (h : G.Sides S W0 w') (hb : Below B w W0) (hS : ∀ b ∈ S, B ≤ b) (hB : B ≤ W0.heap.size) : Below B w w' :=
  hb.trans ⟨h.os, h.tape, h.output, h.size, fun k hk => h.block k (Nat.lt_of_lt_of_le hk hB) (fun hm => by have := hS k hm; omega)⟩
section
variable (mode bx by' : Int) (bc : Bool) (gc oc nc cc gd od nd cd : Nat) (w : World)
set_option maxRecDepth 100000 in
set_option maxHeartbeats 2000000 in
theorem comI_no
    (F : ∀ w', Below w.heap.size w w' → Calls Tryz.prog 31 #[.int .i64 mode, .agg #[.int .u64 bx, .int .u64 by', .bool bc], .slice (some ⟨gc, oc, none⟩) nc cc, .slice (some ⟨gd, od, none⟩) nd cd] w' fun e w'' => ∃ s x y c a1 n1 k1 a2 n2 k2, e = .returned (.tuple #[.agg #[.string s, .int .u64 x, .int .u64 y, .bool c, .slice a1 n1 k1, .slice a2 n2 k2], .bool false]) ∧ Below w'.heap.size w' w'') :
    Calls Tryz.prog 11 #[.int .i64 mode, .agg #[.int .u64 bx, .int .u64 by', .bool bc], .slice (some ⟨gc, oc, none⟩) nc cc, .slice (some ⟨gd, od, none⟩) nd cd] w fun e w' => e = .returned (.tuple #[.agg #[.int .u64 0, .int .u64 0, .bool false], .agg #[.int .u64 0, .int .u64 0, .bool false], .bool false]) ∧ Below w.heap.size w w' := by
  obtain ⟨X, hX⟩ : ∃ X, X = ((w.alloc (Obj.cells #[.int .u64 bx, .int .u64 by', .bool bc] 27)).alloc (Obj.cells #[.int .u64 0, .int .u64 0, .bool false] 27)).alloc (Obj.cells #[.int .u64 0, .int .u64 0, .bool false] 27) := ⟨_, rfl⟩
  have r1 : R3 X (w.heap.size + 1) 0 0 false := by rw [hX]; exact ((R3.new _ 0 0 false).at (by simp)).alloc _
  have r2 : R3 X (w.heap.size + 1 + 1) 0 0 false := by rw [hX]; exact (R3.new _ 0 0 false).at (by simp)
  have hb : Below w.heap.size w X := by rw [hX]; exact ((((Below.refl _ w).alloc (Nat.le_refl _) _).alloc (by simp) _).alloc (by simp; omega) _)
  rw [hX] at r1 r2 hb
  clear hX
  go_enter Tryz.func11, Tryz.ntmps11
  go_wp2_with fail
  refine (F _ hb).mono ?_
  rintro e w1 ⟨s, x, y, c, a1, n1, k1, a2, n2, k2, rfl, b1⟩
  have hal := (Below.refl _ w1).alloc (Nat.le_refl _) (Obj.cells #[.string s, .int .u64 x, .int .u64 y, .bool c, .slice a1 n1 k1, .slice a2 n2 k2] 65)
  replace r1 := (r1.keep' b1).keep' hal
  replace r2 := (r2.keep' b1).keep' hal
  replace hb := hb.trans (b1.mono hb.size)
  replace hb := hb.trans (hal.mono hb.size)
  clear F b1 hal
  have c0 := r1.c0
  have c1 := r1.c1
  have c2 := r1.c2
  have f0 := r1.frz
  have d0 := r2.c0
  have d1 := r2.c1
  have d2 := r2.c2
  have e0 := r2.frz
  go_wp2
  have q1 := r1.set 0 0 false |>.other (b' := w.heap.size + 1 + 1) (by omega) 0 0 false
  have q2 := (r2.other (b' := w.heap.size + 1) (by omega) 0 0 false).set 0 0 false
  exact bodyPost_ret (v := .tuple #[.agg #[.int .u64 0, .int .u64 0, .bool false], .agg #[.int .u64 0, .int .u64 0, .bool false], .bool false]) (ppb_res (fn := Tryz.f11) (p := 8) (p2 := 9) (u := 10) Tryz.results11 _ rfl rfl q1 q2) rfl ⟨rfl, set3_below (set3_below hb (by omega)) (by omega)⟩
set_option maxRecDepth 100000 in
set_option maxHeartbeats 4000000 in
theorem comI_of (P : World → Nat → Nat → Prop) (s : ByteArray) (fx fy mx my zx zy : Int) (fc mc zc : Bool) (n : Nat)
    (F : ∀ w', Below w.heap.size w w' → Calls Tryz.prog 31 #[.int .i64 mode, .agg #[.int .u64 bx, .int .u64 by', .bool bc], .slice (some ⟨gc, oc, none⟩) nc cc, .slice (some ⟨gd, od, none⟩) nd cd] w' fun e w'' => ∃ g1 k1 g2 k2, e = .returned (.tuple #[.agg #[.string s, .int .u64 fx, .int .u64 fy, .bool fc, .slice (some ⟨g1, 0, none⟩) n k1, .slice (some ⟨g2, 0, none⟩) n k2], .bool true]) ∧ P w'' g1 g2 ∧ Below w'.heap.size w' w'')
    (hP : ∀ w1 w2 g1 g2, P w1 g1 g2 → Below w1.heap.size w1 w2 → P w2 g1 g2)
    (C : ∀ w' g1 k1 g2 k2, Below w.heap.size w w' → P w' g1 g2 → Calls Tryz.prog 32 #[.agg #[.string s, .int .u64 fx, .int .u64 fy, .bool fc, .slice (some ⟨g1, 0, none⟩) n k1, .slice (some ⟨g2, 0, none⟩) n k2]] w' fun e w'' => e = .returned (.tuple #[.agg #[.int .u64 mx, .int .u64 my, .bool mc], .agg #[.int .u64 zx, .int .u64 zy, .bool zc]]) ∧ Below w'.heap.size w' w'') :
    Calls Tryz.prog 11 #[.int .i64 mode, .agg #[.int .u64 bx, .int .u64 by', .bool bc], .slice (some ⟨gc, oc, none⟩) nc cc, .slice (some ⟨gd, od, none⟩) nd cd] w fun e w' => e = .returned (.tuple #[.agg #[.int .u64 mx, .int .u64 my, .bool mc], .agg #[.int .u64 zx, .int .u64 zy, .bool zc], .bool true]) ∧ Below w.heap.size w w' := by
  obtain ⟨X, hX⟩ : ∃ X, X = ((w.alloc (Obj.cells #[.int .u64 bx, .int .u64 by', .bool bc] 27)).alloc (Obj.cells #[.int .u64 0, .int .u64 0, .bool false] 27)).alloc (Obj.cells #[.int .u64 0, .int .u64 0, .bool false] 27) := ⟨_, rfl⟩
  have r1 : R3 X (w.heap.size + 1) 0 0 false := by rw [hX]; exact ((R3.new _ 0 0 false).at (by simp)).alloc _
  have r2 : R3 X (w.heap.size + 1 + 1) 0 0 false := by rw [hX]; exact (R3.new _ 0 0 false).at (by simp)
  have hb : Below w.heap.size w X := by rw [hX]; exact ((((Below.refl _ w).alloc (Nat.le_refl _) _).alloc (by simp) _).alloc (by simp; omega) _)
  have hxs : X.heap.size = w.heap.size + 3 := by rw [hX]; simp
  rw [hX] at r1 r2 hb hxs
  clear hX
  go_enter Tryz.func11, Tryz.ntmps11
  go_wp2_with fail
  refine (F _ hb).mono ?_
  rintro e w1 ⟨g1, k1, g2, k2, rfl, p1, b1⟩
  have hal := (Below.refl _ w1).alloc (Nat.le_refl _) (Obj.cells #[.string s, .int .u64 fx, .int .u64 fy, .bool fc, .slice (some ⟨g1, 0, none⟩) n k1, .slice (some ⟨g2, 0, none⟩) n k2] 65)
  have hs1 := b1.size
  rw [hxs] at hs1
  replace r1 := (r1.keep' b1).keep' hal
  replace r2 := (r2.keep' b1).keep' hal
  replace p1 := hP _ _ _ _ p1 hal
  replace hb := hb.trans (b1.mono hb.size)
  replace hb := hb.trans (hal.mono hb.size)
  clear F b1 hal hxs
  go_wp2_with fail
  refine (C _ g1 k1 g2 k2 hb p1).mono ?_
  rintro e w2 ⟨rfl, b2⟩
  have hs2 := b2.size
  obtain ⟨W2, hW2⟩ : ∃ W2, W2 = (w2.alloc (Obj.cells #[.int .u64 mx, .int .u64 my, .bool mc] 62)).alloc (Obj.cells #[.int .u64 zx, .int .u64 zy, .bool zc] 62) := ⟨_, rfl⟩
  have hB2 : Below w2.heap.size w2 W2 := by rw [hW2]; exact ((Below.refl _ w2).alloc (Nat.le_refl _) _).alloc (by simp) _
  replace r1 := (r1.keep' b2).keep' hB2
  replace r2 := (r2.keep' b2).keep' hB2
  replace hb := hb.trans (b2.mono hb.size)
  replace hb := hb.trans (hB2.mono hb.size)
  have rm : K3 W2 62 w2.heap.size mx my mc := by rw [hW2]; exact (K3.new _ _ _ _ _).alloc _
  have rz : K3 W2 62 (w2.heap.size + 1) zx zy zc := by rw [hW2]; exact (K3.new _ _ _ _ _).at (by simp)
  have hH : w.heap.size + 3 ≤ w2.heap.size := by simp at hs2; omega
  clear C b2 hB2 p1 hs1 hs2
  go_wp2
  rw [← hW2]
  clear hW2
  generalize w2.heap.size = H1 at *
  have m0 : W2.drew.cell? ⟨H1, 0, none⟩ = _ := rm.c0
  have m1 : W2.drew.cell? ⟨H1, 1, none⟩ = _ := rm.c1
  have m2 : W2.drew.cell? ⟨H1, 2, none⟩ = _ := rm.c2
  have z0 : W2.drew.cell? ⟨H1 + 1, 0, none⟩ = _ := rz.c0
  have z1 : W2.drew.cell? ⟨H1 + 1, 1, none⟩ = _ := rz.c1
  have z2 : W2.drew.cell? ⟨H1 + 1, 2, none⟩ = _ := rz.c2
  have n1 : H1 ∉ [w.heap.size + 1, w.heap.size + 1 + 1] := by simp; omega
  have n2 : H1 + 1 ∉ [w.heap.size + 1, w.heap.size + 1 + 1] := by simp; omega
  have l1 : w.heap.size + 1 < W2.drew.heap.size := r1.lt
  have l2 : w.heap.size + 1 + 1 < W2.drew.heap.size := r2.lt
  refine G.pool_list (W := W2) [w.heap.size + 1, w.heap.size + 1 + 1] [.val (.pointer (some ⟨H1, 0, none⟩)),
      .val (.agg #[.int .u64 mx, .int .u64 my, .bool mc]),
      .val (.pointer (some ⟨H1 + 1, 0, none⟩)),
      .val (.agg #[.int .u64 zx, .int .u64 zy, .bool zc]),
      .set (w.heap.size + 1) (.cells #[.int .u64 0, .int .u64 0, .bool false] 27) (.cells #[.int .u64 mx, .int .u64 my, .bool mc] 27),
      .set (w.heap.size + 1 + 1) (.cells #[.int .u64 0, .int .u64 0, .bool false] 27) (.cells #[.int .u64 zx, .int .u64 zy, .bool zc] 27),
      .val (.bool true)] [[13], [32], [14], [34], [8, 33], [9, 35], []] (fun f => [(some 32, .pointer (some ⟨H1, 0, none⟩)), (some 33, .agg #[.int .u64 mx, .int .u64 my, .bool mc]), (some 34, .pointer (some ⟨H1 + 1, 0, none⟩)), (some 35, .agg #[.int .u64 zx, .int .u64 zy, .bool zc]), (none, undef), (none, undef), (some 10, .bool true)]) (by kernel_rfl) (by kernel_rfl) (by kernel_rfl) (by kernel_rfl) (fun _ => by kernel_rfl) (G.last_of [.cells #[.int .u64 0, .int .u64 0, .bool false] 27] (fun F R hm => by simp at hm) (fun ob ob' k hm => by simp at hm) (fun b ob ob' hm => by simp at hm; rcases hm with h | h <;> simp [h])) (fun b ob ob' hm => by simp at hm; rcases hm with ⟨rfl, rfl, -⟩ | ⟨rfl, rfl, -⟩ <;> first | exact r1 | exact r2) ?_ ?_
  · intro ix hix
    match ix, hix with
    | 0, _ => exact G.ob_val [(13, .pointer (some ⟨H1, 0, none⟩))] rfl rfl (fun _ => by kernel_rfl) (fun A w ⟨e0, _⟩ hB => fa_cpt0 e0)
    | 1, _ => exact G.ob_val [(32, .pointer (some ⟨H1, 0, none⟩))] rfl rfl (fun _ => by kernel_rfl) (fun A w ⟨e0, _⟩ hB => ld_pt e0 (hB.cell m0 n1) (hB.cell m1 n1) (hB.cell m2 n1))
    | 2, _ => exact G.ob_val [(14, .pointer (some ⟨H1 + 1, 0, none⟩))] rfl rfl (fun _ => by kernel_rfl) (fun A w ⟨e0, _⟩ hB => fa_cpt0 e0)
    | 3, _ => exact G.ob_val [(34, .pointer (some ⟨H1 + 1, 0, none⟩))] rfl rfl (fun _ => by kernel_rfl) (fun A w ⟨e0, _⟩ hB => ld_pt e0 (hB.cell z0 n2) (hB.cell z1 n2) (hB.cell z2 n2))
    | 4, _ => exact G.ob_set (fun f => [(8, .pointer (some ⟨w.heap.size + 1, 0, none⟩)), (33, .agg #[.int .u64 mx, .int .u64 my, .bool mc])]) rfl rfl rfl (by simp) l1 (fun j ob1 ob2 h => by (rcases j with _ | _ | _ | _ | _ | _ | _ | j) <;> simp [G.kindOf] at h ⊢ <;> omega) (fun _ => by kernel_rfl) (fun f A w ⟨e0, e1, _⟩ hh hr => pu_pt e0 e1 hr)
    | 5, _ => exact G.ob_set (fun f => [(9, .pointer (some ⟨w.heap.size + 1 + 1, 0, none⟩)), (35, .agg #[.int .u64 zx, .int .u64 zy, .bool zc])]) rfl rfl rfl (by simp) l2 (fun j ob1 ob2 h => by (rcases j with _ | _ | _ | _ | _ | _ | _ | j) <;> simp [G.kindOf] at h ⊢ <;> omega) (fun _ => by kernel_rfl) (fun f A w ⟨e0, e1, _⟩ hh hr => pu_pt e0 e1 hr)
    | 6, _ => exact G.ob_val [] rfl rfl (fun _ => by kernel_rfl) (fun A w _ hB => doV_assign rfl)
    | ix + 7, h => exact absurd h (by simp)
  intro f W3 hS _ _ _ hset
  have q1 : R3 W3 (w.heap.size + 1) mx my mc := hset 4 _ _ _ rfl (by decide)
  have q2 : R3 W3 (w.heap.size + 1 + 1) zx zy zc := hset 5 _ _ _ rfl (by decide)
  have hb3 : Below w.heap.size w W3 := hS.under hb.drew (by simp; omega) hb.size
  clear hset hS m0 m1 m2 z0 z1 z2
  simp only [puts, List.foldl, Act.put, List.setIfInBounds_toArray, List.set_cons_zero, List.set_cons_succ]
  go_wp2
  exact bodyPost_ret (v := .tuple #[.agg #[.int .u64 mx, .int .u64 my, .bool mc], .agg #[.int .u64 zx, .int .u64 zy, .bool zc], .bool true]) (ppb_res (fn := Tryz.f11) (p := 8) (p2 := 9) (u := 10) Tryz.results11 _ rfl rfl q1 q2) rfl ⟨rfl, hb3⟩
end
theorem map_len {α β : Type} (f : α → β) (l : List α) (n : Nat) (h : l.length = n) : (l.map f).length = n := by simp [h]
/-- the program's composites -/
theorem comI_yes (mode : Int) (b : Tri) (cs ds : List Tri) (gc oc cc gd od cd : Nat) (w : World) (hT : TabK w) (hc : Pts w gc oc cs) (hd : Pts w gd od ds) (h : batB mode b b cs ds = true) :
    Calls Tryz.prog 11 #[.int .i64 mode, triW b, .slice (some ⟨gc, oc, none⟩) cs.length cc, .slice (some ⟨gd, od, none⟩) ds.length cd] w fun e w' => e = .returned (.tuple #[ptW (comM mode.toNat b cs ds cs), ptW (comM mode.toNat b cs ds ds), .bool true]) ∧ Below w.heap.size w w' := by
  have hgw : 3 < w.heap.size := World.block_lt_of_cell? w _ (hT 0 (by omega))
  have h' := h
  rw [batB_iff] at h'
  obtain ⟨h1, h2, h3, h4, h5, -, -⟩ := h'
  have F := fun w' hb => fbI_yes mode b cs ds gc oc cc gd od cd w' (hc.below (B := w.heap.size) hb hc.lt) (hd.below (B := w.heap.size) hb hd.lt) h
  rw [ptW_eq, ptW_eq]
  refine comI_of mode _ _ _ gc oc cs.length cc gd od ds.length cd w (fun w' g1 g2 => Cps w' g1 (cs.map asT) ∧ Cps w' g2 (ds.map asT)) (ctxB mode.toNat) (px (asT b)) (py (asT b)) _ _ _ _ (pb (asT b)) _ _ cs.length (fun w' hb => (F w' hb).mono ?_) (fun w1 w2 g1 g2 hp hb => ⟨hp.1.keep hb, hp.2.keep hb⟩) (fun w' g1 k1 g2 k2 hb hp => ?_)
  · rintro e w'' ⟨g1, k1, g2, k2, rfl, p1, p2, p3⟩
    exact ⟨g1, k1, g2, k2, rfl, ⟨p1, p2⟩, p3⟩
  · have := cmpI_any mode.toNat cs.length g1 k1 g2 k2 (asT b) (cs.map asT) (ds.map asT) w' (keepT hT hgw hb) (by omega) h4.1 h4.2 (map_len _ _ _ rfl) (map_len _ _ _ h5.symm) (asT_list cs) (asT_list ds) hp.1 hp.2
    rw [ptW_eq, ptW_eq] at this
    exact this
theorem comI_bad (mode : Int) (b : Tri) (cs ds : List Tri) (gc oc cc gd od cd : Nat) (w : World) (hc : Pts w gc oc cs) (hd : Pts w gd od ds) (h : batB mode b b cs ds = false) :
    Calls Tryz.prog 11 #[.int .i64 mode, triW b, .slice (some ⟨gc, oc, none⟩) cs.length cc, .slice (some ⟨gd, od, none⟩) ds.length cd] w fun e w' => e = .returned (.tuple #[.agg #[.int .u64 0, .int .u64 0, .bool false], .agg #[.int .u64 0, .int .u64 0, .bool false], .bool false]) ∧ Below w.heap.size w w' :=
  comI_no mode _ _ _ gc oc cs.length cc gd od ds.length cd w (fun w' hb => fbI_no mode b cs ds gc oc cc gd od cd w' (hc.below hb hc.lt) (hd.below hb hd.lt) h)
end Go.Proofs.YtagnikeaellbiaaGreatDoor

/-
  The program's Prove and Check.
-/
namespace Go.Proofs.YtagnikeaellbiaaGreatDoor
open Go.RowKit M
set_option linter.unusedVariables false

theorem exN_any (k : Nat) (w : World) :
    Calls Tryz.prog 37 #[.int .u64 k, .agg #[]] w fun e w' => e = .returned (.tuple #[.agg #[.int .u64 (if k < 2305843010818082053 then (k : Int) else 0)], .bool (decide (k < 2305843010818082053))]) ∧ Below w.heap.size w w' := by
  by_cases h : k < 2305843010818082053
  · rw [if_pos h, decide_eq_true h]
    exact exN_less k w (by omega)
  · rw [if_neg h, decide_eq_false h]
    exact exN_more k w (by omega)
section
variable (mode ax ay bx by' k r fx fy kk rr : Int) (ac bc fc oa ok or' : Bool) (gc oc nc cc gd od nd cd : Nat) (w : World)
set_option maxRecDepth 100000 in
set_option maxHeartbeats 4000000 in
theorem pveI_no (ob : Bool) (h : ob = false ∨ oa = false ∨ ok = false ∨ or' = false)
    (F : ∀ w', Below w.heap.size w w' → Calls Tryz.prog 31 #[.int .i64 mode, .agg #[.int .u64 bx, .int .u64 by', .bool bc], .slice (some ⟨gc, oc, none⟩) nc cc, .slice (some ⟨gd, od, none⟩) nd cd] w' fun e w'' => ∃ s x y c a1 n1 k1 a2 n2 k2, e = .returned (.tuple #[.agg #[.string s, .int .u64 x, .int .u64 y, .bool c, .slice a1 n1 k1, .slice a2 n2 k2], .bool ob]) ∧ Below w'.heap.size w' w'')
    (FA : ∀ w, Calls Tryz.prog 36 #[.agg #[.int .u64 ax, .int .u64 ay, .bool ac]] w fun e w' => e = .returned (.tuple #[.agg #[.int .u64 fx, .int .u64 fy, .bool fc], .bool oa]) ∧ Below w.heap.size w w')
    (EK : ∀ w, Calls Tryz.prog 37 #[.int .u64 k, .agg #[]] w fun e w' => e = .returned (.tuple #[.agg #[.int .u64 kk], .bool ok]) ∧ Below w.heap.size w w')
    (ER : ∀ w, Calls Tryz.prog 37 #[.int .u64 r, .agg #[]] w fun e w' => e = .returned (.tuple #[.agg #[.int .u64 rr], .bool or']) ∧ Below w.heap.size w w') :
    Calls Tryz.prog 15 #[.int .i64 mode, .int .u64 k, .agg #[.int .u64 ax, .int .u64 ay, .bool ac], .agg #[.int .u64 bx, .int .u64 by', .bool bc], .slice (some ⟨gc, oc, none⟩) nc cc, .slice (some ⟨gd, od, none⟩) nd cd, .int .u64 r] w fun e w' => e = .returned (.tuple #[.agg #[.int .u64 0, .int .u64 0], .bool false]) ∧ Below w.heap.size w w' := by
  obtain ⟨X, hX⟩ : ∃ X, X = ((w.alloc (Obj.cells #[.int .u64 ax, .int .u64 ay, .bool ac] 27)).alloc (Obj.cells #[.int .u64 bx, .int .u64 by', .bool bc] 27)).alloc (Obj.cells #[.int .u64 0, .int .u64 0] 37) := ⟨_, rfl⟩
  have ra : R3 X w.heap.size ax ay ac := by rw [hX]; exact ((R3.new _ ax ay ac).alloc _).alloc _
  have rp : P2 X 37 (w.heap.size + 1 + 1) 0 0 := by rw [hX]; exact (P2.new _ _ 0 0).at (by simp)
  have hb : Below w.heap.size w X := by rw [hX]; exact ((((Below.refl _ w).alloc (Nat.le_refl _) _).alloc (by simp) _).alloc (by simp; omega) _)
  rw [hX] at ra rp hb
  clear hX
  go_enter Tryz.func15, Tryz.ntmps15
  go_wp2_with fail
  refine (F _ hb).mono ?_
  rintro e w1 ⟨s, x, y, c, a1, n1, k1, a2, n2, k2, rfl, b1⟩
  have hal := (Below.refl _ w1).alloc (Nat.le_refl _) (Obj.cells #[.string s, .int .u64 x, .int .u64 y, .bool c, .slice a1 n1 k1, .slice a2 n2 k2] 65)
  replace ra := (ra.keep' b1).keep' hal
  replace rp := (rp.keep b1).keep hal
  replace hb := hb.trans (b1.mono hb.size)
  replace hb := hb.trans (hal.mono hb.size)
  have c0 := ra.c0
  have c1 := ra.c1
  have c2 := ra.c2
  clear F b1 hal
  go_wp2_with fail
  refine (FA _).mono ?_
  rintro e w2 ⟨rfl, b2⟩
  have hal := (Below.refl _ w2).alloc (Nat.le_refl _) (Obj.cells #[.int .u64 fx, .int .u64 fy, .bool fc] 62)
  replace rp := (rp.keep b2).keep hal
  replace hb := hb.trans (b2.mono hb.size)
  replace hb := hb.trans (hal.mono hb.size)
  clear FA b2 hal ra c0 c1 c2
  go_wp2_with fail
  refine (EK _).mono ?_
  rintro e w3 ⟨rfl, b3⟩
  have hal := (Below.refl _ w3).alloc (Nat.le_refl _) (Obj.cells #[.int .u64 kk] 77)
  replace rp := (rp.keep b3).keep hal
  replace hb := hb.trans (b3.mono hb.size)
  replace hb := hb.trans (hal.mono hb.size)
  clear EK b3 hal
  go_wp2_with fail
  refine (ER _).mono ?_
  rintro e w4 ⟨rfl, b4⟩
  have hal := (Below.refl _ w4).alloc (Nat.le_refl _) (Obj.cells #[.int .u64 rr] 77)
  replace rp := (rp.keep b4).keep hal
  replace hb := hb.trans (b4.mono hb.size)
  replace hb := hb.trans (hal.mono hb.size)
  clear ER b4 hal
  have d0 := rp.c0
  have d1 := rp.c1
  have e0 := rp.frz
  cases ob with
  | false =>
    clear h
    go_wp2
    exact bodyPost_ret (v := .tuple #[.agg #[.int .u64 0, .int .u64 0], .bool false]) (prb_res (fn := Tryz.f15) (p := 14) (u := 15) Tryz.results15 _ rfl (rp.set 0 0)) rfl ⟨rfl, P2_below hb (by omega) _ _⟩
  | true =>
    cases oa with
    | false =>
      clear h
      go_wp2
      exact bodyPost_ret (v := .tuple #[.agg #[.int .u64 0, .int .u64 0], .bool false]) (prb_res (fn := Tryz.f15) (p := 14) (u := 15) Tryz.results15 _ rfl (rp.set 0 0)) rfl ⟨rfl, P2_below hb (by omega) _ _⟩
    | true =>
      cases ok with
      | false =>
        clear h
        go_wp2
        exact bodyPost_ret (v := .tuple #[.agg #[.int .u64 0, .int .u64 0], .bool false]) (prb_res (fn := Tryz.f15) (p := 14) (u := 15) Tryz.results15 _ rfl (rp.set 0 0)) rfl ⟨rfl, P2_below hb (by omega) _ _⟩
      | true =>
        obtain rfl : or' = false := by simpa using h
        clear h
        go_wp2
        exact bodyPost_ret (v := .tuple #[.agg #[.int .u64 0, .int .u64 0], .bool false]) (prb_res (fn := Tryz.f15) (p := 14) (u := 15) Tryz.results15 _ rfl (rp.set 0 0)) rfl ⟨rfl, P2_below hb (by omega) _ _⟩
set_option maxRecDepth 100000 in
set_option maxHeartbeats 4000000 in
theorem pveI_of (P : World → Nat → Nat → Prop) (s : ByteArray) (gx gy cN sN : Int) (gz : Bool) (n : Nat)
    (F : ∀ w', Below w.heap.size w w' → Calls Tryz.prog 31 #[.int .i64 mode, .agg #[.int .u64 bx, .int .u64 by', .bool bc], .slice (some ⟨gc, oc, none⟩) nc cc, .slice (some ⟨gd, od, none⟩) nd cd] w' fun e w'' => ∃ g1 k1 g2 k2, e = .returned (.tuple #[.agg #[.string s, .int .u64 gx, .int .u64 gy, .bool gz, .slice (some ⟨g1, 0, none⟩) n k1, .slice (some ⟨g2, 0, none⟩) n k2], .bool true]) ∧ P w'' g1 g2 ∧ Below w'.heap.size w' w'')
    (hP : ∀ w1 w2 g1 g2, P w1 g1 g2 → Below w1.heap.size w1 w2 → P w2 g1 g2)
    (FA : ∀ w, Calls Tryz.prog 36 #[.agg #[.int .u64 ax, .int .u64 ay, .bool ac]] w fun e w' => e = .returned (.tuple #[.agg #[.int .u64 fx, .int .u64 fy, .bool fc], .bool true]) ∧ Below w.heap.size w w')
    (EK : ∀ w, Calls Tryz.prog 37 #[.int .u64 k, .agg #[]] w fun e w' => e = .returned (.tuple #[.agg #[.int .u64 kk], .bool true]) ∧ Below w.heap.size w w')
    (ER : ∀ w, Calls Tryz.prog 37 #[.int .u64 r, .agg #[]] w fun e w' => e = .returned (.tuple #[.agg #[.int .u64 rr], .bool true]) ∧ Below w.heap.size w w')
    (PV : ∀ w' g1 k1 g2 k2, Below w.heap.size w w' → P w' g1 g2 → Calls Tryz.prog 38 #[.agg #[.string s, .int .u64 gx, .int .u64 gy, .bool gz, .slice (some ⟨g1, 0, none⟩) n k1, .slice (some ⟨g2, 0, none⟩) n k2], .agg #[.int .u64 kk], .agg #[.int .u64 fx, .int .u64 fy, .bool fc], .agg #[.int .u64 rr]] w' fun e w'' => e = .returned (.agg #[.int .u64 cN, .int .u64 sN]) ∧ Below w'.heap.size w' w'') :
    Calls Tryz.prog 15 #[.int .i64 mode, .int .u64 k, .agg #[.int .u64 ax, .int .u64 ay, .bool ac], .agg #[.int .u64 bx, .int .u64 by', .bool bc], .slice (some ⟨gc, oc, none⟩) nc cc, .slice (some ⟨gd, od, none⟩) nd cd, .int .u64 r] w fun e w' => e = .returned (.tuple #[.agg #[.int .u64 cN, .int .u64 sN], .bool true]) ∧ Below w.heap.size w w' := by
  obtain ⟨X, hX⟩ : ∃ X, X = ((w.alloc (Obj.cells #[.int .u64 ax, .int .u64 ay, .bool ac] 27)).alloc (Obj.cells #[.int .u64 bx, .int .u64 by', .bool bc] 27)).alloc (Obj.cells #[.int .u64 0, .int .u64 0] 37) := ⟨_, rfl⟩
  have ra : R3 X w.heap.size ax ay ac := by rw [hX]; exact ((R3.new _ ax ay ac).alloc _).alloc _
  have rp : P2 X 37 (w.heap.size + 1 + 1) 0 0 := by rw [hX]; exact (P2.new _ _ 0 0).at (by simp)
  have hb : Below w.heap.size w X := by rw [hX]; exact ((((Below.refl _ w).alloc (Nat.le_refl _) _).alloc (by simp) _).alloc (by simp; omega) _)
  rw [hX] at ra rp hb
  clear hX
  go_enter Tryz.func15, Tryz.ntmps15
  go_wp2_with fail
  refine (F _ hb).mono ?_
  rintro e w1 ⟨g1, k1, g2, k2, rfl, p1, b1⟩
  have hal := (Below.refl _ w1).alloc (Nat.le_refl _) (Obj.cells #[.string s, .int .u64 gx, .int .u64 gy, .bool gz, .slice (some ⟨g1, 0, none⟩) n k1, .slice (some ⟨g2, 0, none⟩) n k2] 65)
  have r6 := B6.new w1 s gx gy gz (some ⟨g1, 0, none⟩) n k1 (some ⟨g2, 0, none⟩) n k2
  replace ra := (ra.keep' b1).keep' hal
  replace rp := (rp.keep b1).keep hal
  replace p1 := hP _ _ _ _ p1 hal
  replace hb := hb.trans (b1.mono hb.size)
  replace hb := hb.trans (hal.mono hb.size)
  have c0 := ra.c0
  have c1 := ra.c1
  have c2 := ra.c2
  clear F b1 hal
  go_wp2_with fail
  refine (FA _).mono ?_
  rintro e w2 ⟨rfl, b2⟩
  have hal := (Below.refl _ w2).alloc (Nat.le_refl _) (Obj.cells #[.int .u64 fx, .int .u64 fy, .bool fc] 62)
  have rf := K3.new w2 62 fx fy fc
  replace rp := (rp.keep b2).keep hal
  replace r6 := (r6.keep b2).keep hal
  replace p1 := hP _ _ _ _ (hP _ _ _ _ p1 b2) hal
  replace hb := hb.trans (b2.mono hb.size)
  replace hb := hb.trans (hal.mono hb.size)
  clear FA b2 hal ra c0 c1 c2
  go_wp2_with fail
  refine (EK _).mono ?_
  rintro e w3 ⟨rfl, b3⟩
  have hal := (Below.refl _ w3).alloc (Nat.le_refl _) (Obj.cells #[.int .u64 kk] 77)
  have rk := RN.new w3 kk
  replace rp := (rp.keep b3).keep hal
  replace r6 := (r6.keep b3).keep hal
  replace rf := (rf.keep b3).keep hal
  replace p1 := hP _ _ _ _ (hP _ _ _ _ p1 b3) hal
  replace hb := hb.trans (b3.mono hb.size)
  replace hb := hb.trans (hal.mono hb.size)
  clear EK b3 hal
  go_wp2_with fail
  refine (ER _).mono ?_
  rintro e w4 ⟨rfl, b4⟩
  have hal := (Below.refl _ w4).alloc (Nat.le_refl _) (Obj.cells #[.int .u64 rr] 77)
  replace rp := (rp.keep b4).keep hal
  replace r6 := (r6.keep b4).keep hal
  replace rf := (rf.keep b4).keep hal
  replace rk := (rk.keep b4).keep hal
  replace p1 := hP _ _ _ _ (hP _ _ _ _ p1 b4) hal
  replace hb := hb.trans (b4.mono hb.size)
  replace hb := hb.trans (hal.mono hb.size)
  clear ER b4 hal
  have s0 := r6.c0
  have s1 := r6.c1
  have s2 := r6.c2
  have s3 := r6.c3
  have s4 := r6.c4
  have s5 := r6.c5
  have f0 := rf.c0
  have f1 := rf.c1
  have f2 := rf.c2
  have k0 := rk.cell
  go_wp2_with fail
  refine (PV _ g1 k1 g2 k2 hb p1).mono ?_
  rintro e w5 ⟨rfl, b5⟩
  replace rp := rp.keep b5
  replace hb := hb.trans (b5.mono hb.size)
  clear PV b5 s0 s1 s2 s3 s4 s5 f0 f1 f2 k0
  have d0 := rp.c0
  have d1 := rp.c1
  have e0 := rp.frz
  go_wp2
  exact bodyPost_ret (v := .tuple #[.agg #[.int .u64 cN, .int .u64 sN], .bool true]) (prb_res (fn := Tryz.f15) (p := 14) (u := 15) Tryz.results15 _ rfl (rp.set cN sN)) rfl ⟨rfl, P2_below hb (by omega) _ _⟩
set_option maxRecDepth 100000 in
set_option maxHeartbeats 4000000 in
theorem chkI_no (ob : Bool) (h : ob = false ∨ oa = false ∨ ok = false ∨ or' = false)
    (F : ∀ w', Below w.heap.size w w' → Calls Tryz.prog 31 #[.int .i64 mode, .agg #[.int .u64 bx, .int .u64 by', .bool bc], .slice (some ⟨gc, oc, none⟩) nc cc, .slice (some ⟨gd, od, none⟩) nd cd] w' fun e w'' => ∃ s x y c a1 n1 k1 a2 n2 k2, e = .returned (.tuple #[.agg #[.string s, .int .u64 x, .int .u64 y, .bool c, .slice a1 n1 k1, .slice a2 n2 k2], .bool ob]) ∧ Below w'.heap.size w' w'')
    (FA : ∀ w, Calls Tryz.prog 36 #[.agg #[.int .u64 ax, .int .u64 ay, .bool ac]] w fun e w' => e = .returned (.tuple #[.agg #[.int .u64 fx, .int .u64 fy, .bool fc], .bool oa]) ∧ Below w.heap.size w w')
    (EK : ∀ w, Calls Tryz.prog 37 #[.int .u64 k, .agg #[]] w fun e w' => e = .returned (.tuple #[.agg #[.int .u64 kk], .bool ok]) ∧ Below w.heap.size w w')
    (ER : ∀ w, Calls Tryz.prog 37 #[.int .u64 r, .agg #[]] w fun e w' => e = .returned (.tuple #[.agg #[.int .u64 rr], .bool or']) ∧ Below w.heap.size w w') :
    Calls Tryz.prog 19 #[.int .i64 mode, .agg #[.int .u64 ax, .int .u64 ay, .bool ac], .agg #[.int .u64 bx, .int .u64 by', .bool bc], .slice (some ⟨gc, oc, none⟩) nc cc, .slice (some ⟨gd, od, none⟩) nd cd, .agg #[.int .u64 k, .int .u64 r]] w fun e w' => e = .returned (.bool false) ∧ Below w.heap.size w w' := by
  obtain ⟨X, hX⟩ : ∃ X, X = ((w.alloc (Obj.cells #[.int .u64 ax, .int .u64 ay, .bool ac] 27)).alloc (Obj.cells #[.int .u64 bx, .int .u64 by', .bool bc] 27)).alloc (Obj.cells #[.int .u64 k, .int .u64 r] 37) := ⟨_, rfl⟩
  have ra : R3 X w.heap.size ax ay ac := by rw [hX]; exact ((R3.new _ ax ay ac).alloc _).alloc _
  have rp : P2 X 37 (w.heap.size + 1 + 1) k r := by rw [hX]; exact (P2.new _ _ k r).at (by simp)
  have hb : Below w.heap.size w X := by rw [hX]; exact ((((Below.refl _ w).alloc (Nat.le_refl _) _).alloc (by simp) _).alloc (by simp; omega) _)
  rw [hX] at ra rp hb
  clear hX
  go_enter Tryz.func19, Tryz.ntmps19
  go_wp2_with fail
  refine (F _ hb).mono ?_
  rintro e w1 ⟨s, x, y, c, a1, n1, k1, a2, n2, k2, rfl, b1⟩
  have hal := (Below.refl _ w1).alloc (Nat.le_refl _) (Obj.cells #[.string s, .int .u64 x, .int .u64 y, .bool c, .slice a1 n1 k1, .slice a2 n2 k2] 65)
  replace ra := (ra.keep' b1).keep' hal
  replace rp := (rp.keep b1).keep hal
  replace hb := hb.trans (b1.mono hb.size)
  replace hb := hb.trans (hal.mono hb.size)
  have c0 := ra.c0
  have c1 := ra.c1
  have c2 := ra.c2
  clear F b1 hal
  go_wp2_with fail
  refine (FA _).mono ?_
  rintro e w2 ⟨rfl, b2⟩
  have hal := (Below.refl _ w2).alloc (Nat.le_refl _) (Obj.cells #[.int .u64 fx, .int .u64 fy, .bool fc] 62)
  replace rp := (rp.keep b2).keep hal
  replace hb := hb.trans (b2.mono hb.size)
  replace hb := hb.trans (hal.mono hb.size)
  have d0 := rp.c0
  clear FA b2 hal ra c0 c1 c2
  go_wp2_with fail
  refine (EK _).mono ?_
  rintro e w3 ⟨rfl, b3⟩
  have hal := (Below.refl _ w3).alloc (Nat.le_refl _) (Obj.cells #[.int .u64 kk] 77)
  replace rp := (rp.keep b3).keep hal
  replace hb := hb.trans (b3.mono hb.size)
  replace hb := hb.trans (hal.mono hb.size)
  clear EK b3 hal d0
  have d1 := rp.c1
  go_wp2_with fail
  refine (ER _).mono ?_
  rintro e w4 ⟨rfl, b4⟩
  have hal := (Below.refl _ w4).alloc (Nat.le_refl _) (Obj.cells #[.int .u64 rr] 77)
  replace hb := hb.trans (b4.mono hb.size)
  replace hb := hb.trans (hal.mono hb.size)
  clear ER b4 hal d1
  cases ob with
  | false =>
    clear h
    go_wp2
    go_ret
    exact ⟨rfl, hb⟩
  | true =>
    cases oa with
    | false =>
      clear h
      go_wp2
      go_ret
      exact ⟨rfl, hb⟩
    | true =>
      cases ok with
      | false =>
        clear h
        go_wp2
        go_ret
        exact ⟨rfl, hb⟩
      | true =>
        obtain rfl : or' = false := by simpa using h
        clear h
        go_wp2
        go_ret
        exact ⟨rfl, hb⟩
set_option maxRecDepth 100000 in
set_option maxHeartbeats 4000000 in
theorem chkI_of (P : World → Nat → Nat → Prop) (s : ByteArray) (gx gy : Int) (gz acc : Bool) (n : Nat)
    (F : ∀ w', Below w.heap.size w w' → Calls Tryz.prog 31 #[.int .i64 mode, .agg #[.int .u64 bx, .int .u64 by', .bool bc], .slice (some ⟨gc, oc, none⟩) nc cc, .slice (some ⟨gd, od, none⟩) nd cd] w' fun e w'' => ∃ g1 k1 g2 k2, e = .returned (.tuple #[.agg #[.string s, .int .u64 gx, .int .u64 gy, .bool gz, .slice (some ⟨g1, 0, none⟩) n k1, .slice (some ⟨g2, 0, none⟩) n k2], .bool true]) ∧ P w'' g1 g2 ∧ Below w'.heap.size w' w'')
    (hP : ∀ w1 w2 g1 g2, P w1 g1 g2 → Below w1.heap.size w1 w2 → P w2 g1 g2)
    (FA : ∀ w, Calls Tryz.prog 36 #[.agg #[.int .u64 ax, .int .u64 ay, .bool ac]] w fun e w' => e = .returned (.tuple #[.agg #[.int .u64 fx, .int .u64 fy, .bool fc], .bool true]) ∧ Below w.heap.size w w')
    (EK : ∀ w, Calls Tryz.prog 37 #[.int .u64 k, .agg #[]] w fun e w' => e = .returned (.tuple #[.agg #[.int .u64 kk], .bool true]) ∧ Below w.heap.size w w')
    (ER : ∀ w, Calls Tryz.prog 37 #[.int .u64 r, .agg #[]] w fun e w' => e = .returned (.tuple #[.agg #[.int .u64 rr], .bool true]) ∧ Below w.heap.size w w')
    (PV : ∀ w' g1 k1 g2 k2, Below w.heap.size w w' → P w' g1 g2 → Calls Tryz.prog 40 #[.agg #[.string s, .int .u64 gx, .int .u64 gy, .bool gz, .slice (some ⟨g1, 0, none⟩) n k1, .slice (some ⟨g2, 0, none⟩) n k2], .agg #[.int .u64 fx, .int .u64 fy, .bool fc], .agg #[.int .u64 kk], .agg #[.int .u64 rr]] w' fun e w'' => e = .returned (.bool acc) ∧ Below w'.heap.size w' w'') :
    Calls Tryz.prog 19 #[.int .i64 mode, .agg #[.int .u64 ax, .int .u64 ay, .bool ac], .agg #[.int .u64 bx, .int .u64 by', .bool bc], .slice (some ⟨gc, oc, none⟩) nc cc, .slice (some ⟨gd, od, none⟩) nd cd, .agg #[.int .u64 k, .int .u64 r]] w fun e w' => e = .returned (.bool acc) ∧ Below w.heap.size w w' := by
  obtain ⟨X, hX⟩ : ∃ X, X = ((w.alloc (Obj.cells #[.int .u64 ax, .int .u64 ay, .bool ac] 27)).alloc (Obj.cells #[.int .u64 bx, .int .u64 by', .bool bc] 27)).alloc (Obj.cells #[.int .u64 k, .int .u64 r] 37) := ⟨_, rfl⟩
  have ra : R3 X w.heap.size ax ay ac := by rw [hX]; exact ((R3.new _ ax ay ac).alloc _).alloc _
  have rp : P2 X 37 (w.heap.size + 1 + 1) k r := by rw [hX]; exact (P2.new _ _ k r).at (by simp)
  have hb : Below w.heap.size w X := by rw [hX]; exact ((((Below.refl _ w).alloc (Nat.le_refl _) _).alloc (by simp) _).alloc (by simp; omega) _)
  rw [hX] at ra rp hb
  clear hX
  go_enter Tryz.func19, Tryz.ntmps19
  go_wp2_with fail
  refine (F _ hb).mono ?_
  rintro e w1 ⟨g1, k1, g2, k2, rfl, p1, b1⟩
  have hal := (Below.refl _ w1).alloc (Nat.le_refl _) (Obj.cells #[.string s, .int .u64 gx, .int .u64 gy, .bool gz, .slice (some ⟨g1, 0, none⟩) n k1, .slice (some ⟨g2, 0, none⟩) n k2] 65)
  have r6 := B6.new w1 s gx gy gz (some ⟨g1, 0, none⟩) n k1 (some ⟨g2, 0, none⟩) n k2
  replace ra := (ra.keep' b1).keep' hal
  replace rp := (rp.keep b1).keep hal
  replace p1 := hP _ _ _ _ p1 hal
  replace hb := hb.trans (b1.mono hb.size)
  replace hb := hb.trans (hal.mono hb.size)
  have c0 := ra.c0
  have c1 := ra.c1
  have c2 := ra.c2
  clear F b1 hal
  go_wp2_with fail
  refine (FA _).mono ?_
  rintro e w2 ⟨rfl, b2⟩
  have hal := (Below.refl _ w2).alloc (Nat.le_refl _) (Obj.cells #[.int .u64 fx, .int .u64 fy, .bool fc] 62)
  have rf := K3.new w2 62 fx fy fc
  replace rp := (rp.keep b2).keep hal
  replace r6 := (r6.keep b2).keep hal
  replace p1 := hP _ _ _ _ (hP _ _ _ _ p1 b2) hal
  replace hb := hb.trans (b2.mono hb.size)
  replace hb := hb.trans (hal.mono hb.size)
  have d0 := rp.c0
  clear FA b2 hal ra c0 c1 c2
  go_wp2_with fail
  refine (EK _).mono ?_
  rintro e w3 ⟨rfl, b3⟩
  have hal := (Below.refl _ w3).alloc (Nat.le_refl _) (Obj.cells #[.int .u64 kk] 77)
  have rk := RN.new w3 kk
  replace rp := (rp.keep b3).keep hal
  replace r6 := (r6.keep b3).keep hal
  replace rf := (rf.keep b3).keep hal
  replace p1 := hP _ _ _ _ (hP _ _ _ _ p1 b3) hal
  replace hb := hb.trans (b3.mono hb.size)
  replace hb := hb.trans (hal.mono hb.size)
  clear EK b3 hal d0
  have d1 := rp.c1
  go_wp2_with fail
  refine (ER _).mono ?_
  rintro e w4 ⟨rfl, b4⟩
  have hal := (Below.refl _ w4).alloc (Nat.le_refl _) (Obj.cells #[.int .u64 rr] 77)
  replace r6 := (r6.keep b4).keep hal
  replace rf := (rf.keep b4).keep hal
  replace rk := (rk.keep b4).keep hal
  replace p1 := hP _ _ _ _ (hP _ _ _ _ p1 b4) hal
  replace hb := hb.trans (b4.mono hb.size)
  replace hb := hb.trans (hal.mono hb.size)
  clear ER b4 hal d1
  have s0 := r6.c0
  have s1 := r6.c1
  have s2 := r6.c2
  have s3 := r6.c3
  have s4 := r6.c4
  have s5 := r6.c5
  have f0 := rf.c0
  have f1 := rf.c1
  have f2 := rf.c2
  have k0 := rk.cell
  go_wp2_with fail
  refine (PV _ g1 k1 g2 k2 hb p1).mono ?_
  rintro e w5 ⟨rfl, b5⟩
  replace hb := hb.trans (b5.mono hb.size)
  clear PV b5 s0 s1 s2 s3 s4 s5 f0 f1 f2 k0
  go_wp2
  go_ret
  exact ⟨rfl, hb⟩
end
theorem fbI_flag (mode : Int) (b : Tri) (cs ds : List Tri) (gc oc cc gd od cd : Nat) (w : World) (hc : Pts w gc oc cs) (hd : Pts w gd od ds) :
    Calls Tryz.prog 31 #[.int .i64 mode, triW b, .slice (some ⟨gc, oc, none⟩) cs.length cc, .slice (some ⟨gd, od, none⟩) ds.length cd] w fun e w' => ∃ s x y c a1 n1 k1 a2 n2 k2, e = .returned (.tuple #[.agg #[.string s, .int .u64 x, .int .u64 y, .bool c, .slice a1 n1 k1, .slice a2 n2 k2], .bool (batB mode b b cs ds)]) ∧ Below w.heap.size w w' := by
  cases h : batB mode b b cs ds with
  | false => exact fbI_no mode b cs ds gc oc cc gd od cd w hc hd h
  | true =>
    refine (fbI_yes mode b cs ds gc oc cc gd od cd w hc hd h).mono ?_
    rintro e w' ⟨g1, k1, g2, k2, rfl, -, -, hb⟩
    exact ⟨_, _, _, _, _, _, _, _, _, _, rfl, hb⟩
theorem batB_ab (mode : Int) (a b : Tri) (cs ds : List Tri) : batB mode a b cs ds = (batB mode b b cs ds && onT a) := by
  rw [Bool.eq_iff_iff, Bool.and_eq_true, batB_iff, batB_iff]
  constructor
  · rintro ⟨h1, h2, h3, h4⟩; exact ⟨⟨h1, h3, h3, h4⟩, h2⟩
  · rintro ⟨⟨h1, h3, -, h4⟩, h2⟩; exact ⟨h1, h2, h3, h4⟩
theorem pveI_bad (mode : Int) (k r : Nat) (a b : Tri) (cs ds : List Tri) (gc oc cc gd od cd : Nat) (w : World) (hc : Pts w gc oc cs) (hd : Pts w gd od ds) (h : ¬ (batB mode a b cs ds = true ∧ k < 2305843010818082053 ∧ r < 2305843010818082053)) :
    Calls Tryz.prog 15 #[.int .i64 mode, .int .u64 k, triW a, triW b, .slice (some ⟨gc, oc, none⟩) cs.length cc, .slice (some ⟨gd, od, none⟩) ds.length cd, .int .u64 r] w fun e w' => e = .returned (.tuple #[.agg #[.int .u64 0, .int .u64 0], .bool false]) ∧ Below w.heap.size w w' := by
  refine pveI_no mode _ _ _ _ k r _ _ _ _ _ _ _ (onT a) _ _ gc oc cs.length cc gd od ds.length cd w (batB mode b b cs ds) ?_ (fun w' hb => fbI_flag mode b cs ds gc oc cc gd od cd w' (hc.below hb hc.lt) (hd.below hb hd.lt)) (fnd_tri a) (exN_any k) (exN_any r)
  rw [batB_ab] at h
  cases h1 : batB mode b b cs ds with
  | false => exact .inl rfl
  | true =>
    cases h2 : onT a with
    | false => exact .inr (.inl rfl)
    | true =>
      by_cases hk : k < 2305843010818082053
      · exact .inr (.inr (.inr (decide_eq_false (fun hr => h ⟨by rw [h1, h2]; rfl, hk, hr⟩))))
      · exact .inr (.inr (.inl (decide_eq_false hk)))
theorem pveI_yes (md k r : Nat) (a b : Tri) (cs ds : List Tri) (gc oc cc gd od cd : Nat) (w : World) (hT : TabK w) (hc : Pts w gc oc cs) (hd : Pts w gd od ds) (h : batB md a b cs ds = true) (hk : k < 2305843010818082053) (hr : r < 2305843010818082053) :
    Calls Tryz.prog 15 #[.int .i64 md, .int .u64 k, triW a, triW b, .slice (some ⟨gc, oc, none⟩) cs.length cc, .slice (some ⟨gd, od, none⟩) ds.length cd, .int .u64 r] w fun e w' => e = .returned (.tuple #[.agg #[.int .u64 (prvC md k r a b cs ds : Nat), .int .u64 (prvN md k r a b cs ds : Nat)], .bool true]) ∧ Below w.heap.size w w' := by
  have hgw : 3 < w.heap.size := World.block_lt_of_cell? w _ (hT 0 (by omega))
  have hbb := batB_b h
  have h' := h
  rw [batB_iff] at h'
  obtain ⟨h1, h2, h3, h4, h5, -, -⟩ := h'
  have F := fun w' hb => fbI_yes md b cs ds gc oc cc gd od cd w' (hc.below (B := w.heap.size) hb hc.lt) (hd.below (B := w.heap.size) hb hd.lt) hbb
  rw [Int.toNat_natCast] at F
  have FA := fnd_tri a
  rw [h2] at FA
  refine pveI_of md _ _ _ _ k r _ _ k r _ _ _ gc oc cs.length cc gd od ds.length cd w (fun w' g1 g2 => Cps w' g1 (cs.map asT) ∧ Cps w' g2 (ds.map asT)) (ctxB md) (px (asT b)) (py (asT b)) _ _ (pb (asT b)) cs.length (fun w' hb => (F w' hb).mono ?_) (fun w1 w2 g1 g2 hp hb => ⟨hp.1.keep hb, hp.2.keep hb⟩) FA (fun w => exN_less k w (by omega)) (fun w => exN_less r w (by omega)) (fun w' g1 k1 g2 k2 hb hp => ?_)
  · rintro e w'' ⟨g1, k1, g2, k2, rfl, p1, p2, p3⟩
    exact ⟨g1, k1, g2, k2, rfl, ⟨p1, p2⟩, p3⟩
  · exact prvI_any md cs.length g1 k1 g2 k2 k r (asT a) (asT b) (cs.map asT) (ds.map asT) w' (keepT hT hgw hb) (by omega) h4.1 h4.2 (map_len _ _ _ rfl) (map_len _ _ _ h5.symm) (asT_on a) (asT_list cs) hp.1 hp.2 hk hr (comM md b cs ds cs) rfl (prvC md k r a b cs ds) rfl
theorem chkI_any (mode : Int) (a b : Tri) (cs ds : List Tri) (c s gc oc cc gd od cd : Nat) (w : World) (hT : TabK w) (hc : Pts w gc oc cs) (hd : Pts w gd od ds) :
    Calls Tryz.prog 19 #[.int .i64 mode, triW a, triW b, .slice (some ⟨gc, oc, none⟩) cs.length cc, .slice (some ⟨gd, od, none⟩) ds.length cd, .agg #[.int .u64 c, .int .u64 s]] w fun e w' => e = .returned (.bool (chkB mode a b cs ds c s)) ∧ Below w.heap.size w w' := by
  have hgw : 3 < w.heap.size := World.block_lt_of_cell? w _ (hT 0 (by omega))
  by_cases h : batB mode a b cs ds = true ∧ c < 2305843010818082053 ∧ s < 2305843010818082053
  · obtain ⟨hB, hlc, hls⟩ := h
    have hbb := batB_b hB
    have h' := hB
    rw [batB_iff] at h'
    obtain ⟨h1, h2, h3, h4, h5, -, -⟩ := h'
    obtain ⟨md, rfl⟩ : ∃ k : Nat, mode = (k : Int) := ⟨mode.toNat, by omega⟩
    have e : chkB md a b cs ds c s = (((chkC md c s a b cs ds : Nat) : Int) == (c : Int)) := by
      unfold chkB
      rw [hB, decide_eq_true hlc, decide_eq_true hls, Int.toNat_natCast]
      rw [Bool.eq_iff_iff]
      simp
      omega
    rw [e]
    have F := fun w' hb => fbI_yes md b cs ds gc oc cc gd od cd w' (hc.below (B := w.heap.size) hb hc.lt) (hd.below (B := w.heap.size) hb hd.lt) hbb
    rw [Int.toNat_natCast] at F
    have FA := fnd_tri a
    rw [h2] at FA
    refine chkI_of md _ _ _ _ c s _ _ c s _ _ _ gc oc cs.length cc gd od ds.length cd w (fun w' g1 g2 => Cps w' g1 (cs.map asT) ∧ Cps w' g2 (ds.map asT)) (ctxB md) (px (asT b)) (py (asT b)) (pb (asT b)) _ cs.length (fun w' hb => (F w' hb).mono ?_) (fun w1 w2 g1 g2 hp hb => ⟨hp.1.keep hb, hp.2.keep hb⟩) FA (fun w => exN_less c w (by omega)) (fun w => exN_less s w (by omega)) (fun w' g1 k1 g2 k2 hb hp => ?_)
    · rintro e w'' ⟨g1, k1, g2, k2, rfl, p1, p2, p3⟩
      exact ⟨g1, k1, g2, k2, rfl, ⟨p1, p2⟩, p3⟩
    · exact accI_any md cs.length g1 k1 g2 k2 c s (asT a) (asT b) (cs.map asT) (ds.map asT) w' (keepT hT hgw hb) (by omega) h4.1 h4.2 (map_len _ _ _ rfl) (map_len _ _ _ h5.symm) (asT_on a) (asT_on b) (asT_list cs) (asT_list ds) hp.1 hp.2 hlc hls (comM md b cs ds cs) (comM md b cs ds ds) rfl rfl (chkC md c s a b cs ds) rfl
  · have e : chkB mode a b cs ds c s = false := by
      cases hh : chkB mode a b cs ds c s with
      | false => rfl
      | true =>
        unfold chkB at hh
        simp only [Bool.and_eq_true, decide_eq_true_eq] at hh
        exact absurd ⟨hh.1.1.1, hh.1.1.2, hh.1.2⟩ h
    rw [e]
    refine chkI_no mode _ _ _ _ c s _ _ _ _ _ _ _ (onT a) _ _ gc oc cs.length cc gd od ds.length cd w (batB mode b b cs ds) ?_ (fun w' hb => fbI_flag mode b cs ds gc oc cc gd od cd w' (hc.below hb hc.lt) (hd.below hb hd.lt)) (fnd_tri a) (exN_any c) (exN_any s)
    rw [batB_ab] at h
    cases h1 : batB mode b b cs ds with
    | false => exact .inl rfl
    | true =>
      cases h2 : onT a with
      | false => exact .inr (.inl rfl)
      | true =>
        by_cases hk : c < 2305843010818082053
        · exact .inr (.inr (.inr (decide_eq_false (fun hr => h ⟨by rw [h1, h2]; rfl, hk, hr⟩))))
        · exact .inr (.inr (.inl (decide_eq_false hk)))
end Go.Proofs.YtagnikeaellbiaaGreatDoor

/-
  FnProof: the contracts of both sides, put into the walk.
-/
namespace Go.Proofs.YtagnikeaellbiaaGreatDoor
open Go.RowKit M
set_option linter.unusedVariables false

theorem ptT_agg {p : Pt} (hp : on p) : (.agg #[.int .u64 ((ptT p).1 : Int), .int .u64 ((ptT p).2.1 : Int), .bool (ptT p).2.2] : Value) = ptW p := triW_pt hp
/-- what lies behind the first of a row of points -/
theorem Pts.tail {W : World} {g : Nat} {t : Tri} {L : List Tri} (h : Pts W g 0 (t :: L)) : Pts W g 3 L :=
  ⟨h.lt, fun i u hu => by have := h.c0 (i + 1) u (by simpa using hu); rwa [show 0 + (i + 1) * 3 = 3 + i * 3 by omega] at this,
    fun i u hu => by have := h.c1 (i + 1) u (by simpa using hu); rwa [show 0 + (i + 1) * 3 = 3 + i * 3 by omega] at this,
    fun i u hu => by have := h.c2 (i + 1) u (by simpa using hu); rwa [show 0 + (i + 1) * 3 = 3 + i * 3 by omega] at this⟩
theorem Pts.cut {W : World} {g n k o : Nat} {L : List Tri} (h : Pts W g 0 L) (hl : L.length = n + 1) (hk : n + 1 ≤ k) (ho : (if k = 1 then some (⟨g, 0, none⟩ : Addr) else some ⟨g, 3, none⟩) = some ⟨g, o, none⟩) : ∃ L', L'.length = n ∧ Pts W g o L' := by
  match L, hl with
  | t :: L', hl =>
    have hl' : L'.length = n := by simpa using hl
    by_cases h1 : k = 1
    · have : L' = [] := List.eq_nil_of_length_eq_zero (by omega)
      subst this
      exact ⟨[], hl', h.lt, fun i t ht => by simp at ht, fun i t ht => by simp at ht, fun i t ht => by simp at ht⟩
    · rw [if_neg h1] at ho
      injection ho with ho
      injection ho with e1 e2
      subst e2
      exact ⟨L', hl', h.tail⟩
theorem up_eq {e : Ending} {v : Value} {w w' : World} (h : e = .returned v ∧ w = w') : e = .returned v ∧ Below w.heap.size w w' := ⟨h.1, h.2 ▸ Below.refl _ _⟩
set_option maxRecDepth 100000 in
theorem prfW (a0 a1 : Option Addr) (l0 cap0 l1 cap1 : Nat) (w : World) (v0 : Cod w (.slice a0 l0 cap0)) (v1 : Cod w (.slice a1 l1 cap1)) (h0 : l0 ≤ 1048576) (h1 : l1 ≤ 1048576) (hT : TabK w) :
    Calls Tryz.prog 6 #[.slice a0 l0 cap0, .slice a1 l1 cap1] w fun e w' => e = .returned (.bool true) ∧ Below w.heap.size w w' := by
  obtain ⟨pk, hp⟩ := gives_of _ w v0
  obtain ⟨pm, hm⟩ := gives_of _ w v1
  have hB := bat_ok pk
  have hBb := batB_b hB
  have hkl := ky_lt pk 1
  have hrl : wd pm 0 % 2305843010818082053 < 2305843010818082053 := Nat.mod_lt _ (by decide)
  have hcl := prvC_lt (pk 2 % 3) (ky pk 1) (wd pm 0 % 2305843010818082053) bG (bP pk) (bCs pk) (bDs pk)
  have hsl := prvN_lt (pk 2 % 3) (ky pk 1) (wd pm 0 % 2305843010818082053) bG (bP pk) (bCs pk) (bDs pk)
  have hx8 := hm.1 8 (by omega)
  have hck := chkB_prv (pk 2 % 3) (ky pk 1) (wd pm 0 % 2305843010818082053) bG (bP pk) (bCs pk) (bDs pk) hB (bP_nt pk) (bDs_nt pk)
  have hPV := fun w' g1 k1 g2 k2 (hT : TabK w') (q : Pts w' g1 0 (bCs pk) ∧ Pts w' g2 0 (bDs pk)) => pveI_yes (pk 2 % 3) (ky pk 1) (wd pm 0 % 2305843010818082053) bG (bP pk) (bCs pk) (bDs pk) g1 0 k1 g2 0 k2 w' hT q.1 q.2 hB hkl hrl
  have hCK := fun w' g1 k1 g2 k2 c s (hT : TabK w') (q : Pts w' g1 0 (bCs pk) ∧ Pts w' g2 0 (bDs pk)) => chkI_any (pk 2 % 3 : Nat) bG (bP pk) (bCs pk) (bDs pk) c s g1 0 k1 g2 0 k2 w' hT q.1 q.2
  have hCS := fun w' g1 k1 g2 k2 c s (q : Pts w' g1 0 (bCs pk) ∧ Pts w' g2 0 (bDs pk)) => chkS_any (pk 2 % 3 : Nat) bG (bP pk) (bCs pk) (bDs pk) c s g1 0 k1 g2 0 k2 w' q.1 q.2
  have hCI := fun w' g1 k1 g2 k2 (hT : TabK w') (q : Pts w' g1 0 (bCs pk) ∧ Pts w' g2 0 (bDs pk)) => comI_yes (pk 2 % 3 : Nat) (bP pk) (bCs pk) (bDs pk) g1 0 k1 g2 0 k2 w' hT q.1 q.2 hBb
  have hCO := fun w' g1 k1 g2 k2 (q : Pts w' g1 0 (bCs pk) ∧ Pts w' g2 0 (bDs pk)) => comS_yes (pk 2 % 3 : Nat) (bP pk) (bCs pk) (bDs pk) g1 0 k1 g2 0 k2 w' q.1 q.2 hBb
  have hBT := fun w' hb => wBatch_any _ w' pk (hp.below (w' := w') hb)
  simp only [bCs_len, bDs_len, Int.toNat_natCast] at hPV hCK hCS hCI hCO hBT
  have om : on (comM (pk 2 % 3) (bP pk) (bCs pk) (bDs pk) (bCs pk)) := comM_on _ _ _ _ _
  have ez : comM (pk 2 % 3) (bP pk) (bCs pk) (bDs pk) (bDs pk) = nt (ky pk 1) (comM (pk 2 % 3) (bP pk) (bCs pk) (bDs pk) (bCs pk)) := com_nt _ _ _ _ _ (bDs_nt pk)
  rw [ez] at hCI hCO
  generalize comM (pk 2 % 3) (bP pk) (bCs pk) (bDs pk) (bCs pk) = m at *
  rw [← ptT_agg om, ← ptT_agg (nt_on om (ky pk 1))] at hCI hCO
  generalize prvC (pk 2 % 3) (ky pk 1) (wd pm 0 % 2305843010818082053) bG (bP pk) (bCs pk) (bDs pk) = c at *
  generalize prvN (pk 2 % 3) (ky pk 1) (wd pm 0 % 2305843010818082053) bG (bP pk) (bCs pk) (bDs pk) = s at *
  refine prfW_of (fun w g1 g2 => Pts w g1 0 (bCs pk) ∧ Pts w g2 0 (bDs pk)) (pk 2 % 3 : Nat) (ky pk 1 : Nat) (bG.1 : Int) (bG.2.1 : Int) ((bP pk).1 : Int) ((bP pk).2.1 : Int) (wd pm 0 : Nat) (wd pm 0 % 2305843010818082053 : Nat) c s ((ptT m).1 : Int) ((ptT m).2.1 : Int) ((ptT (nt (ky pk 1) m)).1 : Int) ((ptT (nt (ky pk 1) m)).2.1 : Int) (pm 8 : Nat) (pm 9 : Nat) ((s + 1 + pm 8) % 2305843010818082053 : Nat) ((c + 1 + pm 8) % 2305843010818082053 : Nat) bG.2.2 (bP pk).2.2 (ptT m).2.2 (ptT (nt (ky pk 1) m)).2.2 (chkB (pk 2 % 3 : Nat) bG (bP pk) (bCs pk) (bDs pk) c ((s + 1 + pm 8) % 2305843010818082053)) (chkB (pk 2 % 3 : Nat) bG (bP pk) (bCs pk) (bDs pk) ((c + 1 + pm 8) % 2305843010818082053) s) (strOfNums (be8 (c : Int)) ++ strOfNums (be8 (s : Int))) (pk 0 % 4) l0 cap0 l1 cap1 a0 a1 w hT (by omega) (by omega) rfl (by omega) ?_ ?_ ?_ rfl ?_ ?_ rfl ?_ hBT ?_ ?_ ?_ ?_ ?_ hPV ?_ (fun w => putF_any c s w (by omega) (by omega)) (fun w => getput c s hcl hsl w) hCI hCO ?_ (fun w' g1 k1 g2 k2 => hCK w' g1 k1 g2 k2 _ _) (fun w' g1 k1 g2 k2 => hCS w' g1 k1 g2 k2 _ _) (fun w' g1 k1 g2 k2 => hCK w' g1 k1 g2 k2 _ _) (fun w' g1 k1 g2 k2 => hCS w' g1 k1 g2 k2 _ _) ?_ ?_
  · rw [IntKind.wrap_u64]; omega
  · rw [IntKind.wrap_u64]; omega
  · rw [IntKind.wrap_u64]; omega
  · rw [IntKind.wrap_u64]; omega
  · rw [IntKind.wrap_u64]; omega
  · exact fun w w' g1 g2 q hb => ⟨q.1.keep hb, q.2.keep hb⟩
  · intro w'
    have := baseS w'
    rwa [← ptT_agg gG_on] at this
  · intro w'
    have := tiS_pt gG_on (ky pk 1) (by omega) w'
    rw [← ptW_eq, ← ptW_eq, ← ptT_agg gG_on, ← ptT_agg (nt_on gG_on (ky pk 1))] at this
    exact this
  · exact fun w' hb => ((hm.below hb).word 0 (by omega)).mono fun e w'' h => up_eq h
  · exact fun w' hb => ((hm.below hb).pick 9 (by omega)).mono fun e w'' h => up_eq h
  · exact fun w' hb => ((hm.below hb).pick 8 (by omega)).mono fun e w'' h => up_eq h
  · intro w' g1 k1 g2 k2 hT q
    have := hCK w' g1 k1 g2 k2 c s hT q
    rwa [hck] at this
  · intro w'
    have := timI_pt (ky pk 1) (ptT m).1 (ptT m).2.1 (ptT m).2.2 w' (by omega)
    rw [show asPt (ptT m).1 (ptT m).2.1 (ptT m).2.2 = m from (ptT_as om).1, ← ptT_agg (nt_on om (ky pk 1))] at this
    exact this
  · intro w' g1 k1 g2 k2 o ho hk hT q
    obtain ⟨L, hl, hL⟩ := q.1.cut (bCs_len pk) hk ho
    have := pveI_bad (pk 2 % 3 : Nat) (ky pk 1) 1 bG (bP pk) L (bDs pk) g1 o (k1 - 1) g2 0 k2 w' hL q.2 (fun h => by rw [batB_uneq _ _ _ _ _ (by rw [hl, bDs_len]; omega)] at h; exact absurd h.1 (by decide))
    rw [hl, bDs_len] at this
    exact this
  · intro w' g1 k1 g2 k2 o ho hk hT q
    obtain ⟨L, hl, hL⟩ := q.2.cut (bDs_len pk) hk ho
    have := chkI_any (pk 2 % 3 : Nat) bG (bP pk) (bCs pk) L c s g1 0 k1 g2 o (k2 - 1) w' hT q.1 hL
    rw [chkB_uneq _ _ _ _ _ _ _ (by rw [hl, bCs_len]; omega), hl, bCs_len] at this
    exact this
end Go.Proofs.YtagnikeaellbiaaGreatDoor
