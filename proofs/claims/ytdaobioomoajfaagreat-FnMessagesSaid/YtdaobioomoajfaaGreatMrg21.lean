import Derived.Test.YtdaobioomoajfaaGreatMrg20
import Derived.Test.YtdaobioomoajfaaGreatMrg4
import Derived.Test.YtdaobioomoajfaaGreatMrg17
import Derived.Test.YtdaobioomoajfaaGreatMrg19
set_option linter.unusedVariables false
set_option maxRecDepth 100000
set_option maxHeartbeats 16000000
namespace Go.Proofs.YtdaobioomoajfaaGreat
open Go.RowKit
noncomputable def ptR (s : Rd) : Rd := { (s.cut 8).2 with bad := (s.cut 8).2.bad || !(gp (s.cut 8).1).isSome }
theorem grownN {W W' : World} {r : Option Nat} (h : W.grownBy W' r) {b i : Nat} (hb : W.heap.size ≤ b) {x : Value} : W.grownBy (W'.setCell ⟨b, i, none⟩ x) r :=
  ⟨h.os, h.tape, h.output, by simpa using h.size, fun k hk hne => (heap_setCell_other W' ⟨b, i, none⟩ k x (fun e => absurd (show k = b from e) (by omega))).trans (h.block k hk hne)⟩
theorem ptW_tri : ∀ p, ptW p = .agg #[.int .u64 ((tri p).1 : Int), .int .u64 ((tri p).2.1 : Int), .bool (tri p).2.2]
  | none => rfl
  | some (X, Y) => rfl
theorem rd_pt (s : Rd) (b : Nat) (w : World) (hb : Bk w 59 b (rdL s).toArray) (hz : s.rest.size ≤ maxLen) :
    Calls Tryz.prog 102 #[.pointer (some ⟨b, 0, none⟩)] w fun e w' => e = .returned (.agg #[.int .u64 ((tri ((gp (s.cut 8).1).getD none)).1 : Int), .int .u64 ((tri ((gp (s.cut 8).1).getD none)).2.1 : Int), .bool (tri ((gp (s.cut 8).1).getD none)).2.2]) ∧ w.grownBy w' (some b) ∧ Bk w' 59 b (rdL (ptR s)).toArray := by
  have hr0 := Bk.new w 25 #[.int .u64 0, .int .u64 0, .bool false]
  have hb0 := hb.alloc (Obj.cells #[.int .u64 0, .int .u64 0, .bool false] 25)
  have g0 : w.grownBy (w.alloc (Obj.cells #[.int .u64 0, .int .u64 0, .bool false] 25)) (some b) := grownB ((Below.refl _ w).alloc (Nat.le_refl _) _)
  have hne : w.heap.size ≠ b := Nat.ne_of_gt hb.lt
  have C := rd_cut s 8 b _ hb0 (by decide) hz
  have G := gpI (s.cut 8).1
  rw [ptW_tri] at G
  unfold ptR
  generalize tri ((gp (s.cut 8).1).getD none) = q at *
  obtain ⟨x, y, z⟩ := q
  simp only at G ⊢
  generalize (gp (s.cut 8).1).isSome = ok at *
  generalize (s.cut 8).1 = a at *
  generalize (s.cut 8).2 = r at *
  clear hb hb0
  go_enter Tryz.func102, Tryz.ntmps102
  go_wp2_with fail
  refine C.mono ?_
  rintro e w1 ⟨rfl, g1, hb1⟩
  replace hr0 := hr0.keptBy g1 (by simpa using hne)
  replace g0 := grownT g0 g1
  clear C g1
  go_wp2_with fail
  refine (G _).mono ?_
  rintro e w2 ⟨rfl, b2⟩
  replace hb1 := hb1.keep b2
  replace hr0 := hr0.keep b2
  replace g0 := grownT g0 (grownB b2)
  have hr := Bk.new w2 25 #[.int .u64 x, .int .u64 y, .bool z]
  have hb2 := hb1.alloc (Obj.cells #[.int .u64 x, .int .u64 y, .bool z] 25)
  have hr2 := hr0.alloc (Obj.cells #[.int .u64 x, .int .u64 y, .bool z] 25)
  have g3 := grownT g0 (grownB (b := b) ((Below.refl _ w2).alloc (Nat.le_refl _) (Obj.cells #[.int .u64 x, .int .u64 y, .bool z] 25)))
  have hne2 : w2.heap.size ≠ b := Nat.ne_of_gt hb1.lt
  clear G b2 hb1 hr0 g0
  cases ok with
  | true =>
    have c0 := hr.cell (k := 0) rfl
    have c1 := hr.cell (k := 1) rfl
    have c2 := hr.cell (k := 2) rfl
    have d0 := hr2.cell (k := 0) rfl
    have d1 := hr2.cell (k := 1) rfl
    have d2 := hr2.cell (k := 2) rfl
    have f0 := hr2.frz 0
    have f1 := hr2.frz 1
    have f2 := hr2.frz 2
    go_wp2
    refine bodyPost_ret (v := .agg #[.int .u64 x, .int .u64 y, .bool z]) (bk_res1 (fn := Tryz.f102) (p := 2) (cs := #[.int .u64 x, .int .u64 y, .bool z]) Tryz.results102 _ rfl (((hr2.set 0 (.int .u64 x)).set 1 (.int .u64 y)).set 2 (.bool z)) Tryz.underlying25 rfl (by kernel_rfl)) rfl ⟨rfl, ?_, ?_⟩
    · exact grownN (grownN (grownN g3 (Nat.le_refl _)) (Nat.le_refl _)) (Nat.le_refl _)
    · rw [Bool.not_true, Bool.or_false]
      exact ((hb2.other hne.symm 0 _).other hne.symm 1 _).other hne.symm 2 _
  | false =>
    have c13 : (w2.alloc (Obj.cells #[.int .u64 x, .int .u64 y, .bool z] 25)).cell? ⟨b, 13, none⟩ = some (.bool r.bad) := hb2.cell (k := 13) rfl
    have f13 := hb2.frz 13
    have hb3 := hb2.set 13 (.bool true)
    have hr3 := hr2.other hne 13 (.bool true)
    have hr4 := hr.other hne2 13 (.bool true)
    have g4 := grownT g3 (grownS (w2.alloc (Obj.cells #[.int .u64 x, .int .u64 y, .bool z] 25)) b 13 (.bool true))
    have c0 := hr4.cell (k := 0) rfl
    have c1 := hr4.cell (k := 1) rfl
    have c2 := hr4.cell (k := 2) rfl
    have d0 := hr3.cell (k := 0) rfl
    have d1 := hr3.cell (k := 1) rfl
    have d2 := hr3.cell (k := 2) rfl
    have f0 := hr3.frz 0
    have f1 := hr3.frz 1
    have f2 := hr3.frz 2
    go_wp2
    refine bodyPost_ret (v := .agg #[.int .u64 x, .int .u64 y, .bool z]) (bk_res1 (fn := Tryz.f102) (p := 2) (cs := #[.int .u64 x, .int .u64 y, .bool z]) Tryz.results102 _ rfl (((hr3.set 0 (.int .u64 x)).set 1 (.int .u64 y)).set 2 (.bool z)) Tryz.underlying25 rfl (by kernel_rfl)) rfl ⟨rfl, ?_, ?_⟩
    · exact grownN (grownN (grownN g4 (Nat.le_refl _)) (Nat.le_refl _)) (Nat.le_refl _)
    · rw [Bool.not_false, Bool.or_true]
      exact ((hb3.other hne.symm 0 _).other hne.symm 1 _).other hne.symm 2 _
theorem rd_e (s : Rd) (b : Nat) (w : World) (hb : Bk w 59 b (rdL s).toArray) (hz : s.rest.size ≤ maxLen) :
    Calls Tryz.prog 97 #[.pointer (some ⟨b, 0, none⟩)] w fun e w' => e = .returned (.tuple #[]) ∧ w.grownBy w' (some b) ∧ Bk w' 59 b (rdL (s.step .e)).toArray := by
  have C := rd_pt s b w hb hz
  have e : s.step .e = { ptR s with m := { s.m with el := tri ((gp (s.cut 8).1).getD none) } } := rfl
  rw [e]
  have hm : (ptR s).m = s.m := cut_m s 8
  rw [← hm]
  generalize tri ((gp (s.cut 8).1).getD none) = q at *
  generalize ptR s = r at *
  obtain ⟨x, y, z⟩ := q
  simp only at C
  clear hb hm e
  go_enter Tryz.func97, Tryz.ntmps97
  go_wp2_with fail
  refine C.mono ?_
  rintro e w1 ⟨rfl, g1, hb1⟩
  have c1 : w1.cell? ⟨b, 2, none⟩ = some (.int .u64 (r.m.el.1 : Int)) := hb1.cell (k := 2) rfl
  have c2 : w1.cell? ⟨b, 3, none⟩ = some (.int .u64 (r.m.el.2.1 : Int)) := hb1.cell (k := 3) rfl
  have c3 : w1.cell? ⟨b, 4, none⟩ = some (.bool r.m.el.2.2) := hb1.cell (k := 4) rfl
  have f1 := hb1.frz 2
  have f2 := hb1.frz 3
  have f3 := hb1.frz 4
  go_wp2
  go_end0
  exact ⟨rfl, grownT g1 (grownT (grownT (grownS w1 b 2 _) (grownS _ b 3 _)) (grownS _ b 4 _)), ((hb1.set 2 _).set 3 _).set 4 _⟩
theorem rd_o (s : Rd) (b : Nat) (w : World) (hb : Bk w 59 b (rdL s).toArray) (hz : s.rest.size ≤ maxLen) :
    Calls Tryz.prog 100 #[.pointer (some ⟨b, 0, none⟩)] w fun e w' => e = .returned (.tuple #[]) ∧ w.grownBy w' (some b) ∧ Bk w' 59 b (rdL (s.step .o)).toArray := by
  have C := rd_pt s b w hb hz
  have e : s.step .o = { ptR s with m := { s.m with ot := tri ((gp (s.cut 8).1).getD none) } } := rfl
  rw [e]
  have hm : (ptR s).m = s.m := cut_m s 8
  rw [← hm]
  generalize tri ((gp (s.cut 8).1).getD none) = q at *
  generalize ptR s = r at *
  obtain ⟨x, y, z⟩ := q
  simp only at C
  clear hb hm e
  go_enter Tryz.func100, Tryz.ntmps100
  go_wp2_with fail
  refine C.mono ?_
  rintro e w1 ⟨rfl, g1, hb1⟩
  have c1 : w1.cell? ⟨b, 5, none⟩ = some (.int .u64 (r.m.ot.1 : Int)) := hb1.cell (k := 5) rfl
  have c2 : w1.cell? ⟨b, 6, none⟩ = some (.int .u64 (r.m.ot.2.1 : Int)) := hb1.cell (k := 6) rfl
  have c3 : w1.cell? ⟨b, 7, none⟩ = some (.bool r.m.ot.2.2) := hb1.cell (k := 7) rfl
  have f1 := hb1.frz 5
  have f2 := hb1.frz 6
  have f3 := hb1.frz 7
  go_wp2
  go_end0
  exact ⟨rfl, grownT g1 (grownT (grownT (grownS w1 b 5 _) (grownS _ b 6 _)) (grownS _ b 7 _)), ((hb1.set 5 _).set 6 _).set 7 _⟩
theorem rd_u (s : Rd) (b : Nat) (w : World) (hb : Bk w 59 b (rdL s).toArray) (hz : s.rest.size ≤ maxLen) :
    Calls Tryz.prog 101 #[.pointer (some ⟨b, 0, none⟩)] w fun e w' => e = .returned (.tuple #[]) ∧ w.grownBy w' (some b) ∧ Bk w' 59 b (rdL (s.step .u)).toArray := by
  have C := rd_num s 2 b w hb (by decide) hz
  have hk := num_le _ _ (cut_le s 2) (by decide)
  have hz2 := cut_rest s 2
  have hm := cut_m s 2
  have e : s.step .u = { ((s.cut 2).2.cut (numL (byt (s.cut 2).1))).2 with m := { s.m with user := ((s.cut 2).2.cut (numL (byt (s.cut 2).1))).1 }, bad := ((s.cut 2).2.cut (numL (byt (s.cut 2).1))).2.bad || !nameB ((s.cut 2).2.cut (numL (byt (s.cut 2).1))).1 } := rfl
  rw [e, ← hm]
  generalize numL (byt (s.cut 2).1) = k at *
  generalize (s.cut 2).2 = r at *
  have D := fun w hb => rd_cut r k b w hb (by omega) (Nat.le_trans hz2 hz)
  have hm2 := cut_m r k
  rw [← hm2]
  generalize (r.cut k).1 = a at *
  generalize (r.cut k).2 = q at *
  have N := nmI a
  clear hb hm hm2 e hz hz2 hk
  go_enter Tryz.func101, Tryz.ntmps101
  go_wp2_with fail
  refine C.mono ?_
  rintro e w1 ⟨rfl, g1, hb1⟩
  go_wp2_with fail
  refine (D _ hb1).mono ?_
  rintro e w2 ⟨rfl, g2, hb2⟩
  replace g1 := grownT g1 g2
  clear C D hb1 g2
  have c1 : w2.cell? ⟨b, 1, none⟩ = some (.string q.m.user) := hb2.cell (k := 1) rfl
  have c13 : w2.cell? ⟨b, 13, none⟩ = some (.bool q.bad) := hb2.cell (k := 13) rfl
  have f1 := hb2.frz 1
  have f13 := hb2.frz 13
  have hb3 := hb2.set 1 (.string a)
  have g3 := grownT g1 (grownS w2 b 1 (.string a))
  cases hN : nameB a with
  | true =>
    rw [hN] at N
    go_wp2_with fail
    refine (N _).mono ?_
    rintro e w3 ⟨rfl, rfl⟩
    go_wp2
    go_end0
    refine ⟨rfl, g3, ?_⟩
    rw [hN, Bool.not_true, Bool.or_false]
    exact hb3
  | false =>
    rw [hN] at N
    go_wp2_with fail
    refine (N _).mono ?_
    rintro e w3 ⟨rfl, rfl⟩
    have f13' := hb3.frz 13
    have c13' : (w2.setCell ⟨b, 1, none⟩ (.string a)).cell? ⟨b, 13, none⟩ = some (.bool q.bad) := hb3.cell (k := 13) rfl
    generalize w2.setCell ⟨b, 1, none⟩ (.string a) = W3 at *
    clear c1 c13 f1 f13 hb2
    go_wp2
    go_end0
    refine ⟨rfl, grownT g3 (grownS W3 b 13 _), ?_⟩
    rw [hN, Bool.not_false, Bool.or_true]
    exact hb3.set 13 _
theorem rd_c (s : Rd) (b : Nat) (w : World) (hb : Bk w 59 b (rdL s).toArray) (hz : s.rest.size ≤ maxLen) :
    Calls Tryz.prog 96 #[.pointer (some ⟨b, 0, none⟩)] w fun e w' => e = .returned (.tuple #[]) ∧ w.grownBy w' (some b) ∧ Bk w' 59 b (rdL (s.step .c)).toArray := by
  have C := rd_num s 1 b w hb (by decide) hz
  have hk := num_le _ _ (cut_le s 1) (by decide)
  have hm := cut_m s 1
  have e : s.step .c = { (s.cut 1).2 with m := { s.m with code := (numL (byt (s.cut 1).1) : Nat) }, bad := (s.cut 1).2.bad || !decide (1 ≤ numL (byt (s.cut 1).1) ∧ numL (byt (s.cut 1).1) ≤ 7) } := rfl
  rw [e, ← hm]
  generalize numL (byt (s.cut 1).1) = k at *
  generalize (s.cut 1).2 = r at *
  clear hb hm e hz
  by_cases h1 : (k : Int) < 1
  · rw [decide_eq_false (show ¬ (1 ≤ k ∧ k ≤ 7) by omega), Bool.not_false, Bool.or_true]
    go_enter Tryz.func96, Tryz.ntmps96
    go_wp2_with fail
    refine C.mono ?_
    rintro e w1 ⟨rfl, g1, hb1⟩
    clear C
    have c1 : w1.cell? ⟨b, 11, none⟩ = some (.int .i64 r.m.code) := hb1.cell (k := 11) rfl
    have f1 := hb1.frz 11
    have hb3 := hb1.set 11 (.int .i64 (k : Int))
    have g3 := grownT g1 (grownS w1 b 11 (.int .i64 (k : Int)))
    have f13 := hb3.frz 13
    have c13 : (w1.setCell ⟨b, 11, none⟩ (.int .i64 (k : Int))).cell? ⟨b, 13, none⟩ = some (.bool r.bad) := hb3.cell (k := 13) rfl
    go_wp2
    go_end0
    exact ⟨rfl, grownT g3 (grownS _ b 13 _), hb3.set 13 _⟩
  · by_cases h2 : (7 : Int) < (k : Int)
    · rw [decide_eq_false (show ¬ (1 ≤ k ∧ k ≤ 7) by omega), Bool.not_false, Bool.or_true]
      go_enter Tryz.func96, Tryz.ntmps96
      go_wp2_with fail
      refine C.mono ?_
      rintro e w1 ⟨rfl, g1, hb1⟩
      clear C
      have c1 : w1.cell? ⟨b, 11, none⟩ = some (.int .i64 r.m.code) := hb1.cell (k := 11) rfl
      have f1 := hb1.frz 11
      have hb3 := hb1.set 11 (.int .i64 (k : Int))
      have g3 := grownT g1 (grownS w1 b 11 (.int .i64 (k : Int)))
      have f13 := hb3.frz 13
      have c13 : (w1.setCell ⟨b, 11, none⟩ (.int .i64 (k : Int))).cell? ⟨b, 13, none⟩ = some (.bool r.bad) := hb3.cell (k := 13) rfl
      go_wp2
      go_end0
      exact ⟨rfl, grownT g3 (grownS _ b 13 _), hb3.set 13 _⟩
    · rw [decide_eq_true (show 1 ≤ k ∧ k ≤ 7 by omega), Bool.not_true, Bool.or_false]
      go_enter Tryz.func96, Tryz.ntmps96
      go_wp2_with fail
      refine C.mono ?_
      rintro e w1 ⟨rfl, g1, hb1⟩
      clear C
      have c1 : w1.cell? ⟨b, 11, none⟩ = some (.int .i64 r.m.code) := hb1.cell (k := 11) rfl
      have f1 := hb1.frz 11
      have hb3 := hb1.set 11 (.int .i64 (k : Int))
      have g3 := grownT g1 (grownS w1 b 11 (.int .i64 (k : Int)))
      have f13 := hb3.frz 13
      have c13 : (w1.setCell ⟨b, 11, none⟩ (.int .i64 (k : Int))).cell? ⟨b, 13, none⟩ = some (.bool r.bad) := hb3.cell (k := 13) rfl
      go_wp2
      go_end0
      exact ⟨rfl, g3, hb3⟩
end Go.Proofs.YtdaobioomoajfaaGreat
namespace Go.Proofs.YtdaobioomoajfaaGreat
open Go.RowKit
theorem bt_get (t : ByteArray) (i : Nat) (h : i < t.size) : t[i].toNat = bt t i := by
  unfold bt
  rw [Array.getD_eq_getD_getElem?, Array.getElem?_eq_getElem (show i < t.data.size from h)]
  rfl
theorem set_u (m : Msg) (t : ByteArray) (w : World) (ht : 2 ≤ t.size) (ht2 : t.size ≤ 2097152) :
    Calls Tryz.prog 25 #[.agg #[.int .i64 m.kind, .string m.user, .int .u64 (m.el.1 : Int), .int .u64 (m.el.2.1 : Int), .bool m.el.2.2, .int .u64 (m.ot.1 : Int), .int .u64 (m.ot.2.1 : Int), .bool m.ot.2.2, .string m.nonce, .string m.box, .string m.mac, .int .i64 m.code], .int .u8 117, .string t] w fun e w' => e = .returned (.agg (msgL (setS m t .u)).toArray) ∧ Below w.heap.size w w' := by
  have ht' : (2 : Int) ≤ (t.size : Int) := by omega
  have hR := (Bk.new w 27 #[.int .i64 m.kind, .string m.user, .int .u64 (m.el.1 : Int), .int .u64 (m.el.2.1 : Int), .bool m.el.2.2, .int .u64 (m.ot.1 : Int), .int .u64 (m.ot.2.1 : Int), .bool m.ot.2.2, .string m.nonce, .string m.box, .string m.mac, .int .i64 m.code]).alloc (Obj.cells #[.int .i64 0, .string ⟨#[]⟩, .int .u64 0, .int .u64 0, .bool false, .int .u64 0, .int .u64 0, .bool false, .string ⟨#[]⟩, .string ⟨#[]⟩, .string ⟨#[]⟩, .int .i64 0] 27)
  have hZ := (Bk.new (w.alloc (Obj.cells #[.int .i64 m.kind, .string m.user, .int .u64 (m.el.1 : Int), .int .u64 (m.el.2.1 : Int), .bool m.el.2.2, .int .u64 (m.ot.1 : Int), .int .u64 (m.ot.2.1 : Int), .bool m.ot.2.2, .string m.nonce, .string m.box, .string m.mac, .int .i64 m.code] 27)) 27 #[.int .i64 0, .string ⟨#[]⟩, .int .u64 0, .int .u64 0, .bool false, .int .u64 0, .int .u64 0, .bool false, .string ⟨#[]⟩, .string ⟨#[]⟩, .string ⟨#[]⟩, .int .i64 0]).at (b' := w.heap.size + 1) (by simp)
  have hB := ((Below.refl _ w).alloc (Nat.le_refl _) (Obj.cells #[.int .i64 m.kind, .string m.user, .int .u64 (m.el.1 : Int), .int .u64 (m.el.2.1 : Int), .bool m.el.2.2, .int .u64 (m.ot.1 : Int), .int .u64 (m.ot.2.1 : Int), .bool m.ot.2.2, .string m.nonce, .string m.box, .string m.mac, .int .i64 m.code] 27)).alloc (by simp) (Obj.cells #[.int .i64 0, .string ⟨#[]⟩, .int .u64 0, .int .u64 0, .bool false, .int .u64 0, .int .u64 0, .bool false, .string ⟨#[]⟩, .string ⟨#[]⟩, .string ⟨#[]⟩, .int .i64 0] 27)
  obtain ⟨W, hW⟩ : ∃ W, ((w.alloc (Obj.cells #[.int .i64 m.kind, .string m.user, .int .u64 (m.el.1 : Int), .int .u64 (m.el.2.1 : Int), .bool m.el.2.2, .int .u64 (m.ot.1 : Int), .int .u64 (m.ot.2.1 : Int), .bool m.ot.2.2, .string m.nonce, .string m.box, .string m.mac, .int .i64 m.code] 27)).alloc (Obj.cells #[.int .i64 0, .string ⟨#[]⟩, .int .u64 0, .int .u64 0, .bool false, .int .u64 0, .int .u64 0, .bool false, .string ⟨#[]⟩, .string ⟨#[]⟩, .string ⟨#[]⟩, .int .i64 0] 27)) = W := ⟨_, rfl⟩
  rw [hW] at hR hZ hB
  have c0 : W.cell? ⟨w.heap.size, 0, none⟩ = some (.int .i64 m.kind) := hR.cell (k := 0) rfl
  have c1 : W.cell? ⟨w.heap.size, 1, none⟩ = some (.string m.user) := hR.cell (k := 1) rfl
  have c2 : W.cell? ⟨w.heap.size, 2, none⟩ = some (.int .u64 (m.el.1 : Int)) := hR.cell (k := 2) rfl
  have c3 : W.cell? ⟨w.heap.size, 3, none⟩ = some (.int .u64 (m.el.2.1 : Int)) := hR.cell (k := 3) rfl
  have c4 : W.cell? ⟨w.heap.size, 4, none⟩ = some (.bool m.el.2.2) := hR.cell (k := 4) rfl
  have c5 : W.cell? ⟨w.heap.size, 5, none⟩ = some (.int .u64 (m.ot.1 : Int)) := hR.cell (k := 5) rfl
  have c6 : W.cell? ⟨w.heap.size, 6, none⟩ = some (.int .u64 (m.ot.2.1 : Int)) := hR.cell (k := 6) rfl
  have c7 : W.cell? ⟨w.heap.size, 7, none⟩ = some (.bool m.ot.2.2) := hR.cell (k := 7) rfl
  have c8 : W.cell? ⟨w.heap.size, 8, none⟩ = some (.string m.nonce) := hR.cell (k := 8) rfl
  have c9 : W.cell? ⟨w.heap.size, 9, none⟩ = some (.string m.box) := hR.cell (k := 9) rfl
  have c10 : W.cell? ⟨w.heap.size, 10, none⟩ = some (.string m.mac) := hR.cell (k := 10) rfl
  have c11 : W.cell? ⟨w.heap.size, 11, none⟩ = some (.int .i64 m.code) := hR.cell (k := 11) rfl
  have g1 := hR.frz 1
  have z0 : W.cell? ⟨w.heap.size + 1, 0, none⟩ = some (.int .i64 0) := hZ.cell (k := 0) rfl
  have f0 := hZ.frz 0
  have z1 : W.cell? ⟨w.heap.size + 1, 1, none⟩ = some (.string ⟨#[]⟩) := hZ.cell (k := 1) rfl
  have f1 := hZ.frz 1
  have z2 : W.cell? ⟨w.heap.size + 1, 2, none⟩ = some (.int .u64 0) := hZ.cell (k := 2) rfl
  have f2 := hZ.frz 2
  have z3 : W.cell? ⟨w.heap.size + 1, 3, none⟩ = some (.int .u64 0) := hZ.cell (k := 3) rfl
  have f3 := hZ.frz 3
  have z4 : W.cell? ⟨w.heap.size + 1, 4, none⟩ = some (.bool false) := hZ.cell (k := 4) rfl
  have f4 := hZ.frz 4
  have z5 : W.cell? ⟨w.heap.size + 1, 5, none⟩ = some (.int .u64 0) := hZ.cell (k := 5) rfl
  have f5 := hZ.frz 5
  have z6 : W.cell? ⟨w.heap.size + 1, 6, none⟩ = some (.int .u64 0) := hZ.cell (k := 6) rfl
  have f6 := hZ.frz 6
  have z7 : W.cell? ⟨w.heap.size + 1, 7, none⟩ = some (.bool false) := hZ.cell (k := 7) rfl
  have f7 := hZ.frz 7
  have z8 : W.cell? ⟨w.heap.size + 1, 8, none⟩ = some (.string ⟨#[]⟩) := hZ.cell (k := 8) rfl
  have f8 := hZ.frz 8
  have z9 : W.cell? ⟨w.heap.size + 1, 9, none⟩ = some (.string ⟨#[]⟩) := hZ.cell (k := 9) rfl
  have f9 := hZ.frz 9
  have z10 : W.cell? ⟨w.heap.size + 1, 10, none⟩ = some (.string ⟨#[]⟩) := hZ.cell (k := 10) rfl
  have f10 := hZ.frz 10
  have z11 : W.cell? ⟨w.heap.size + 1, 11, none⟩ = some (.int .i64 0) := hZ.cell (k := 11) rfl
  have f11 := hZ.frz 11
  go_enter Tryz.func25, Tryz.ntmps25
  go_wp2
  have hn := (((((((((((((hZ.other (b' := w.heap.size) (by omega) 1 (.string (t.extract 2 t.size))).set 0 (.int .i64 m.kind)).set 1 (.string (t.extract 2 t.size))).set 2 (.int .u64 (m.el.1 : Int))).set 3 (.int .u64 (m.el.2.1 : Int))).set 4 (.bool m.el.2.2)).set 5 (.int .u64 (m.ot.1 : Int))).set 6 (.int .u64 (m.ot.2.1 : Int))).set 7 (.bool m.ot.2.2)).set 8 (.string m.nonce)).set 9 (.string m.box)).set 10 (.string m.mac)).set 11 (.int .i64 m.code))
  have hm := (((((((((((((hB.setCell (p := ⟨w.heap.size, 1, none⟩) (Nat.le_refl _) (.string (t.extract 2 t.size))).setCell (p := ⟨w.heap.size + 1, 0, none⟩) (show w.heap.size ≤ w.heap.size + 1 by omega) (.int .i64 m.kind)).setCell (p := ⟨w.heap.size + 1, 1, none⟩) (show w.heap.size ≤ w.heap.size + 1 by omega) (.string (t.extract 2 t.size))).setCell (p := ⟨w.heap.size + 1, 2, none⟩) (show w.heap.size ≤ w.heap.size + 1 by omega) (.int .u64 (m.el.1 : Int))).setCell (p := ⟨w.heap.size + 1, 3, none⟩) (show w.heap.size ≤ w.heap.size + 1 by omega) (.int .u64 (m.el.2.1 : Int))).setCell (p := ⟨w.heap.size + 1, 4, none⟩) (show w.heap.size ≤ w.heap.size + 1 by omega) (.bool m.el.2.2)).setCell (p := ⟨w.heap.size + 1, 5, none⟩) (show w.heap.size ≤ w.heap.size + 1 by omega) (.int .u64 (m.ot.1 : Int))).setCell (p := ⟨w.heap.size + 1, 6, none⟩) (show w.heap.size ≤ w.heap.size + 1 by omega) (.int .u64 (m.ot.2.1 : Int))).setCell (p := ⟨w.heap.size + 1, 7, none⟩) (show w.heap.size ≤ w.heap.size + 1 by omega) (.bool m.ot.2.2)).setCell (p := ⟨w.heap.size + 1, 8, none⟩) (show w.heap.size ≤ w.heap.size + 1 by omega) (.string m.nonce)).setCell (p := ⟨w.heap.size + 1, 9, none⟩) (show w.heap.size ≤ w.heap.size + 1 by omega) (.string m.box)).setCell (p := ⟨w.heap.size + 1, 10, none⟩) (show w.heap.size ≤ w.heap.size + 1 by omega) (.string m.mac)).setCell (p := ⟨w.heap.size + 1, 11, none⟩) (show w.heap.size ≤ w.heap.size + 1 by omega) (.int .i64 m.code))
  simp only [List.setIfInBounds_toArray, List.set_cons_zero, List.set_cons_succ] at hn
  exact bodyPost_ret (v := .agg #[.int .i64 m.kind, .string (t.extract 2 t.size), .int .u64 (m.el.1 : Int), .int .u64 (m.el.2.1 : Int), .bool m.el.2.2, .int .u64 (m.ot.1 : Int), .int .u64 (m.ot.2.1 : Int), .bool m.ot.2.2, .string m.nonce, .string m.box, .string m.mac, .int .i64 m.code]) (bk_res1 (fn := Tryz.f25) (p := 6) Tryz.results25 _ rfl hn Tryz.underlying27 rfl (by kernel_rfl)) rfl ⟨rfl, hm⟩
theorem set_e (m : Msg) (t : ByteArray) (w : World) :
    Calls Tryz.prog 25 #[.agg #[.int .i64 m.kind, .string m.user, .int .u64 (m.el.1 : Int), .int .u64 (m.el.2.1 : Int), .bool m.el.2.2, .int .u64 (m.ot.1 : Int), .int .u64 (m.ot.2.1 : Int), .bool m.ot.2.2, .string m.nonce, .string m.box, .string m.mac, .int .i64 m.code], .int .u8 101, .string t] w fun e w' => e = .returned (.agg (msgL (setS m t .e)).toArray) ∧ Below w.heap.size w w' := by
  have e : setS m t .e = { m with el := tri ((gp t).getD none) } := rfl
  have P := gpS t
  rw [ptW_tri] at P
  rw [e]
  clear e
  generalize tri ((gp t).getD none) = tt at *
  obtain ⟨x, y, z⟩ := tt
  simp only at P
  generalize (gp t).isSome = ok at *
  have hR := (Bk.new w 27 #[.int .i64 m.kind, .string m.user, .int .u64 (m.el.1 : Int), .int .u64 (m.el.2.1 : Int), .bool m.el.2.2, .int .u64 (m.ot.1 : Int), .int .u64 (m.ot.2.1 : Int), .bool m.ot.2.2, .string m.nonce, .string m.box, .string m.mac, .int .i64 m.code]).alloc (Obj.cells #[.int .i64 0, .string ⟨#[]⟩, .int .u64 0, .int .u64 0, .bool false, .int .u64 0, .int .u64 0, .bool false, .string ⟨#[]⟩, .string ⟨#[]⟩, .string ⟨#[]⟩, .int .i64 0] 27)
  have hZ := (Bk.new (w.alloc (Obj.cells #[.int .i64 m.kind, .string m.user, .int .u64 (m.el.1 : Int), .int .u64 (m.el.2.1 : Int), .bool m.el.2.2, .int .u64 (m.ot.1 : Int), .int .u64 (m.ot.2.1 : Int), .bool m.ot.2.2, .string m.nonce, .string m.box, .string m.mac, .int .i64 m.code] 27)) 27 #[.int .i64 0, .string ⟨#[]⟩, .int .u64 0, .int .u64 0, .bool false, .int .u64 0, .int .u64 0, .bool false, .string ⟨#[]⟩, .string ⟨#[]⟩, .string ⟨#[]⟩, .int .i64 0]).at (b' := w.heap.size + 1) (by simp)
  have hB := ((Below.refl _ w).alloc (Nat.le_refl _) (Obj.cells #[.int .i64 m.kind, .string m.user, .int .u64 (m.el.1 : Int), .int .u64 (m.el.2.1 : Int), .bool m.el.2.2, .int .u64 (m.ot.1 : Int), .int .u64 (m.ot.2.1 : Int), .bool m.ot.2.2, .string m.nonce, .string m.box, .string m.mac, .int .i64 m.code] 27)).alloc (by simp) (Obj.cells #[.int .i64 0, .string ⟨#[]⟩, .int .u64 0, .int .u64 0, .bool false, .int .u64 0, .int .u64 0, .bool false, .string ⟨#[]⟩, .string ⟨#[]⟩, .string ⟨#[]⟩, .int .i64 0] 27)
  obtain ⟨W, hW⟩ : ∃ W, ((w.alloc (Obj.cells #[.int .i64 m.kind, .string m.user, .int .u64 (m.el.1 : Int), .int .u64 (m.el.2.1 : Int), .bool m.el.2.2, .int .u64 (m.ot.1 : Int), .int .u64 (m.ot.2.1 : Int), .bool m.ot.2.2, .string m.nonce, .string m.box, .string m.mac, .int .i64 m.code] 27)).alloc (Obj.cells #[.int .i64 0, .string ⟨#[]⟩, .int .u64 0, .int .u64 0, .bool false, .int .u64 0, .int .u64 0, .bool false, .string ⟨#[]⟩, .string ⟨#[]⟩, .string ⟨#[]⟩, .int .i64 0] 27)) = W := ⟨_, rfl⟩
  rw [hW] at hR hZ hB
  go_enter Tryz.func25, Tryz.ntmps25
  go_wp2_with fail
  refine (P _).mono ?_
  rintro e w1 ⟨rfl, b1⟩
  replace hR := hR.keep b1
  replace hZ := hZ.keep b1
  replace hB := hB.trans (b1.mono hB.size)
  clear P b1 hW
  have c0 : w1.cell? ⟨w.heap.size, 0, none⟩ = some (.int .i64 m.kind) := hR.cell (k := 0) rfl
  have c1 : w1.cell? ⟨w.heap.size, 1, none⟩ = some (.string m.user) := hR.cell (k := 1) rfl
  have c2 : w1.cell? ⟨w.heap.size, 2, none⟩ = some (.int .u64 (m.el.1 : Int)) := hR.cell (k := 2) rfl
  have c3 : w1.cell? ⟨w.heap.size, 3, none⟩ = some (.int .u64 (m.el.2.1 : Int)) := hR.cell (k := 3) rfl
  have c4 : w1.cell? ⟨w.heap.size, 4, none⟩ = some (.bool m.el.2.2) := hR.cell (k := 4) rfl
  have c5 : w1.cell? ⟨w.heap.size, 5, none⟩ = some (.int .u64 (m.ot.1 : Int)) := hR.cell (k := 5) rfl
  have c6 : w1.cell? ⟨w.heap.size, 6, none⟩ = some (.int .u64 (m.ot.2.1 : Int)) := hR.cell (k := 6) rfl
  have c7 : w1.cell? ⟨w.heap.size, 7, none⟩ = some (.bool m.ot.2.2) := hR.cell (k := 7) rfl
  have c8 : w1.cell? ⟨w.heap.size, 8, none⟩ = some (.string m.nonce) := hR.cell (k := 8) rfl
  have c9 : w1.cell? ⟨w.heap.size, 9, none⟩ = some (.string m.box) := hR.cell (k := 9) rfl
  have c10 : w1.cell? ⟨w.heap.size, 10, none⟩ = some (.string m.mac) := hR.cell (k := 10) rfl
  have c11 : w1.cell? ⟨w.heap.size, 11, none⟩ = some (.int .i64 m.code) := hR.cell (k := 11) rfl
  have g2 := hR.frz 2
  have g3 := hR.frz 3
  have g4 := hR.frz 4
  have z0 : w1.cell? ⟨w.heap.size + 1, 0, none⟩ = some (.int .i64 0) := hZ.cell (k := 0) rfl
  have f0 := hZ.frz 0
  have z1 : w1.cell? ⟨w.heap.size + 1, 1, none⟩ = some (.string ⟨#[]⟩) := hZ.cell (k := 1) rfl
  have f1 := hZ.frz 1
  have z2 : w1.cell? ⟨w.heap.size + 1, 2, none⟩ = some (.int .u64 0) := hZ.cell (k := 2) rfl
  have f2 := hZ.frz 2
  have z3 : w1.cell? ⟨w.heap.size + 1, 3, none⟩ = some (.int .u64 0) := hZ.cell (k := 3) rfl
  have f3 := hZ.frz 3
  have z4 : w1.cell? ⟨w.heap.size + 1, 4, none⟩ = some (.bool false) := hZ.cell (k := 4) rfl
  have f4 := hZ.frz 4
  have z5 : w1.cell? ⟨w.heap.size + 1, 5, none⟩ = some (.int .u64 0) := hZ.cell (k := 5) rfl
  have f5 := hZ.frz 5
  have z6 : w1.cell? ⟨w.heap.size + 1, 6, none⟩ = some (.int .u64 0) := hZ.cell (k := 6) rfl
  have f6 := hZ.frz 6
  have z7 : w1.cell? ⟨w.heap.size + 1, 7, none⟩ = some (.bool false) := hZ.cell (k := 7) rfl
  have f7 := hZ.frz 7
  have z8 : w1.cell? ⟨w.heap.size + 1, 8, none⟩ = some (.string ⟨#[]⟩) := hZ.cell (k := 8) rfl
  have f8 := hZ.frz 8
  have z9 : w1.cell? ⟨w.heap.size + 1, 9, none⟩ = some (.string ⟨#[]⟩) := hZ.cell (k := 9) rfl
  have f9 := hZ.frz 9
  have z10 : w1.cell? ⟨w.heap.size + 1, 10, none⟩ = some (.string ⟨#[]⟩) := hZ.cell (k := 10) rfl
  have f10 := hZ.frz 10
  have z11 : w1.cell? ⟨w.heap.size + 1, 11, none⟩ = some (.int .i64 0) := hZ.cell (k := 11) rfl
  have f11 := hZ.frz 11
  go_wp2
  have hn := (((((((((((((((hZ.other (b' := w.heap.size) (by omega) 2 (.int .u64 (x : Int))).other (b' := w.heap.size) (by omega) 3 (.int .u64 (y : Int))).other (b' := w.heap.size) (by omega) 4 (.bool z)).set 0 (.int .i64 m.kind)).set 1 (.string m.user)).set 2 (.int .u64 (x : Int))).set 3 (.int .u64 (y : Int))).set 4 (.bool z)).set 5 (.int .u64 (m.ot.1 : Int))).set 6 (.int .u64 (m.ot.2.1 : Int))).set 7 (.bool m.ot.2.2)).set 8 (.string m.nonce)).set 9 (.string m.box)).set 10 (.string m.mac)).set 11 (.int .i64 m.code))
  have hm := (((((((((((((((hB.setCell (p := ⟨w.heap.size, 2, none⟩) (Nat.le_refl _) (.int .u64 (x : Int))).setCell (p := ⟨w.heap.size, 3, none⟩) (Nat.le_refl _) (.int .u64 (y : Int))).setCell (p := ⟨w.heap.size, 4, none⟩) (Nat.le_refl _) (.bool z)).setCell (p := ⟨w.heap.size + 1, 0, none⟩) (show w.heap.size ≤ w.heap.size + 1 by omega) (.int .i64 m.kind)).setCell (p := ⟨w.heap.size + 1, 1, none⟩) (show w.heap.size ≤ w.heap.size + 1 by omega) (.string m.user)).setCell (p := ⟨w.heap.size + 1, 2, none⟩) (show w.heap.size ≤ w.heap.size + 1 by omega) (.int .u64 (x : Int))).setCell (p := ⟨w.heap.size + 1, 3, none⟩) (show w.heap.size ≤ w.heap.size + 1 by omega) (.int .u64 (y : Int))).setCell (p := ⟨w.heap.size + 1, 4, none⟩) (show w.heap.size ≤ w.heap.size + 1 by omega) (.bool z)).setCell (p := ⟨w.heap.size + 1, 5, none⟩) (show w.heap.size ≤ w.heap.size + 1 by omega) (.int .u64 (m.ot.1 : Int))).setCell (p := ⟨w.heap.size + 1, 6, none⟩) (show w.heap.size ≤ w.heap.size + 1 by omega) (.int .u64 (m.ot.2.1 : Int))).setCell (p := ⟨w.heap.size + 1, 7, none⟩) (show w.heap.size ≤ w.heap.size + 1 by omega) (.bool m.ot.2.2)).setCell (p := ⟨w.heap.size + 1, 8, none⟩) (show w.heap.size ≤ w.heap.size + 1 by omega) (.string m.nonce)).setCell (p := ⟨w.heap.size + 1, 9, none⟩) (show w.heap.size ≤ w.heap.size + 1 by omega) (.string m.box)).setCell (p := ⟨w.heap.size + 1, 10, none⟩) (show w.heap.size ≤ w.heap.size + 1 by omega) (.string m.mac)).setCell (p := ⟨w.heap.size + 1, 11, none⟩) (show w.heap.size ≤ w.heap.size + 1 by omega) (.int .i64 m.code))
  simp only [List.setIfInBounds_toArray, List.set_cons_zero, List.set_cons_succ] at hn
  exact bodyPost_ret (v := .agg #[.int .i64 m.kind, .string m.user, .int .u64 (x : Int), .int .u64 (y : Int), .bool z, .int .u64 (m.ot.1 : Int), .int .u64 (m.ot.2.1 : Int), .bool m.ot.2.2, .string m.nonce, .string m.box, .string m.mac, .int .i64 m.code]) (bk_res1 (fn := Tryz.f25) (p := 6) Tryz.results25 _ rfl hn Tryz.underlying27 rfl (by kernel_rfl)) rfl ⟨rfl, hm⟩
theorem set_o (m : Msg) (t : ByteArray) (w : World) :
    Calls Tryz.prog 25 #[.agg #[.int .i64 m.kind, .string m.user, .int .u64 (m.el.1 : Int), .int .u64 (m.el.2.1 : Int), .bool m.el.2.2, .int .u64 (m.ot.1 : Int), .int .u64 (m.ot.2.1 : Int), .bool m.ot.2.2, .string m.nonce, .string m.box, .string m.mac, .int .i64 m.code], .int .u8 111, .string t] w fun e w' => e = .returned (.agg (msgL (setS m t .o)).toArray) ∧ Below w.heap.size w w' := by
  have e : setS m t .o = { m with ot := tri ((gp t).getD none) } := rfl
  have P := gpS t
  rw [ptW_tri] at P
  rw [e]
  clear e
  generalize tri ((gp t).getD none) = tt at *
  obtain ⟨x, y, z⟩ := tt
  simp only at P
  generalize (gp t).isSome = ok at *
  have hR := (Bk.new w 27 #[.int .i64 m.kind, .string m.user, .int .u64 (m.el.1 : Int), .int .u64 (m.el.2.1 : Int), .bool m.el.2.2, .int .u64 (m.ot.1 : Int), .int .u64 (m.ot.2.1 : Int), .bool m.ot.2.2, .string m.nonce, .string m.box, .string m.mac, .int .i64 m.code]).alloc (Obj.cells #[.int .i64 0, .string ⟨#[]⟩, .int .u64 0, .int .u64 0, .bool false, .int .u64 0, .int .u64 0, .bool false, .string ⟨#[]⟩, .string ⟨#[]⟩, .string ⟨#[]⟩, .int .i64 0] 27)
  have hZ := (Bk.new (w.alloc (Obj.cells #[.int .i64 m.kind, .string m.user, .int .u64 (m.el.1 : Int), .int .u64 (m.el.2.1 : Int), .bool m.el.2.2, .int .u64 (m.ot.1 : Int), .int .u64 (m.ot.2.1 : Int), .bool m.ot.2.2, .string m.nonce, .string m.box, .string m.mac, .int .i64 m.code] 27)) 27 #[.int .i64 0, .string ⟨#[]⟩, .int .u64 0, .int .u64 0, .bool false, .int .u64 0, .int .u64 0, .bool false, .string ⟨#[]⟩, .string ⟨#[]⟩, .string ⟨#[]⟩, .int .i64 0]).at (b' := w.heap.size + 1) (by simp)
  have hB := ((Below.refl _ w).alloc (Nat.le_refl _) (Obj.cells #[.int .i64 m.kind, .string m.user, .int .u64 (m.el.1 : Int), .int .u64 (m.el.2.1 : Int), .bool m.el.2.2, .int .u64 (m.ot.1 : Int), .int .u64 (m.ot.2.1 : Int), .bool m.ot.2.2, .string m.nonce, .string m.box, .string m.mac, .int .i64 m.code] 27)).alloc (by simp) (Obj.cells #[.int .i64 0, .string ⟨#[]⟩, .int .u64 0, .int .u64 0, .bool false, .int .u64 0, .int .u64 0, .bool false, .string ⟨#[]⟩, .string ⟨#[]⟩, .string ⟨#[]⟩, .int .i64 0] 27)
  obtain ⟨W, hW⟩ : ∃ W, ((w.alloc (Obj.cells #[.int .i64 m.kind, .string m.user, .int .u64 (m.el.1 : Int), .int .u64 (m.el.2.1 : Int), .bool m.el.2.2, .int .u64 (m.ot.1 : Int), .int .u64 (m.ot.2.1 : Int), .bool m.ot.2.2, .string m.nonce, .string m.box, .string m.mac, .int .i64 m.code] 27)).alloc (Obj.cells #[.int .i64 0, .string ⟨#[]⟩, .int .u64 0, .int .u64 0, .bool false, .int .u64 0, .int .u64 0, .bool false, .string ⟨#[]⟩, .string ⟨#[]⟩, .string ⟨#[]⟩, .int .i64 0] 27)) = W := ⟨_, rfl⟩
  rw [hW] at hR hZ hB
  go_enter Tryz.func25, Tryz.ntmps25
  go_wp2_with fail
  refine (P _).mono ?_
  rintro e w1 ⟨rfl, b1⟩
  replace hR := hR.keep b1
  replace hZ := hZ.keep b1
  replace hB := hB.trans (b1.mono hB.size)
  clear P b1 hW
  have c0 : w1.cell? ⟨w.heap.size, 0, none⟩ = some (.int .i64 m.kind) := hR.cell (k := 0) rfl
  have c1 : w1.cell? ⟨w.heap.size, 1, none⟩ = some (.string m.user) := hR.cell (k := 1) rfl
  have c2 : w1.cell? ⟨w.heap.size, 2, none⟩ = some (.int .u64 (m.el.1 : Int)) := hR.cell (k := 2) rfl
  have c3 : w1.cell? ⟨w.heap.size, 3, none⟩ = some (.int .u64 (m.el.2.1 : Int)) := hR.cell (k := 3) rfl
  have c4 : w1.cell? ⟨w.heap.size, 4, none⟩ = some (.bool m.el.2.2) := hR.cell (k := 4) rfl
  have c5 : w1.cell? ⟨w.heap.size, 5, none⟩ = some (.int .u64 (m.ot.1 : Int)) := hR.cell (k := 5) rfl
  have c6 : w1.cell? ⟨w.heap.size, 6, none⟩ = some (.int .u64 (m.ot.2.1 : Int)) := hR.cell (k := 6) rfl
  have c7 : w1.cell? ⟨w.heap.size, 7, none⟩ = some (.bool m.ot.2.2) := hR.cell (k := 7) rfl
  have c8 : w1.cell? ⟨w.heap.size, 8, none⟩ = some (.string m.nonce) := hR.cell (k := 8) rfl
  have c9 : w1.cell? ⟨w.heap.size, 9, none⟩ = some (.string m.box) := hR.cell (k := 9) rfl
  have c10 : w1.cell? ⟨w.heap.size, 10, none⟩ = some (.string m.mac) := hR.cell (k := 10) rfl
  have c11 : w1.cell? ⟨w.heap.size, 11, none⟩ = some (.int .i64 m.code) := hR.cell (k := 11) rfl
  have g5 := hR.frz 5
  have g6 := hR.frz 6
  have g7 := hR.frz 7
  have z0 : w1.cell? ⟨w.heap.size + 1, 0, none⟩ = some (.int .i64 0) := hZ.cell (k := 0) rfl
  have f0 := hZ.frz 0
  have z1 : w1.cell? ⟨w.heap.size + 1, 1, none⟩ = some (.string ⟨#[]⟩) := hZ.cell (k := 1) rfl
  have f1 := hZ.frz 1
  have z2 : w1.cell? ⟨w.heap.size + 1, 2, none⟩ = some (.int .u64 0) := hZ.cell (k := 2) rfl
  have f2 := hZ.frz 2
  have z3 : w1.cell? ⟨w.heap.size + 1, 3, none⟩ = some (.int .u64 0) := hZ.cell (k := 3) rfl
  have f3 := hZ.frz 3
  have z4 : w1.cell? ⟨w.heap.size + 1, 4, none⟩ = some (.bool false) := hZ.cell (k := 4) rfl
  have f4 := hZ.frz 4
  have z5 : w1.cell? ⟨w.heap.size + 1, 5, none⟩ = some (.int .u64 0) := hZ.cell (k := 5) rfl
  have f5 := hZ.frz 5
  have z6 : w1.cell? ⟨w.heap.size + 1, 6, none⟩ = some (.int .u64 0) := hZ.cell (k := 6) rfl
  have f6 := hZ.frz 6
  have z7 : w1.cell? ⟨w.heap.size + 1, 7, none⟩ = some (.bool false) := hZ.cell (k := 7) rfl
  have f7 := hZ.frz 7
  have z8 : w1.cell? ⟨w.heap.size + 1, 8, none⟩ = some (.string ⟨#[]⟩) := hZ.cell (k := 8) rfl
  have f8 := hZ.frz 8
  have z9 : w1.cell? ⟨w.heap.size + 1, 9, none⟩ = some (.string ⟨#[]⟩) := hZ.cell (k := 9) rfl
  have f9 := hZ.frz 9
  have z10 : w1.cell? ⟨w.heap.size + 1, 10, none⟩ = some (.string ⟨#[]⟩) := hZ.cell (k := 10) rfl
  have f10 := hZ.frz 10
  have z11 : w1.cell? ⟨w.heap.size + 1, 11, none⟩ = some (.int .i64 0) := hZ.cell (k := 11) rfl
  have f11 := hZ.frz 11
  go_wp2
  have hn := (((((((((((((((hZ.other (b' := w.heap.size) (by omega) 5 (.int .u64 (x : Int))).other (b' := w.heap.size) (by omega) 6 (.int .u64 (y : Int))).other (b' := w.heap.size) (by omega) 7 (.bool z)).set 0 (.int .i64 m.kind)).set 1 (.string m.user)).set 2 (.int .u64 (m.el.1 : Int))).set 3 (.int .u64 (m.el.2.1 : Int))).set 4 (.bool m.el.2.2)).set 5 (.int .u64 (x : Int))).set 6 (.int .u64 (y : Int))).set 7 (.bool z)).set 8 (.string m.nonce)).set 9 (.string m.box)).set 10 (.string m.mac)).set 11 (.int .i64 m.code))
  have hm := (((((((((((((((hB.setCell (p := ⟨w.heap.size, 5, none⟩) (Nat.le_refl _) (.int .u64 (x : Int))).setCell (p := ⟨w.heap.size, 6, none⟩) (Nat.le_refl _) (.int .u64 (y : Int))).setCell (p := ⟨w.heap.size, 7, none⟩) (Nat.le_refl _) (.bool z)).setCell (p := ⟨w.heap.size + 1, 0, none⟩) (show w.heap.size ≤ w.heap.size + 1 by omega) (.int .i64 m.kind)).setCell (p := ⟨w.heap.size + 1, 1, none⟩) (show w.heap.size ≤ w.heap.size + 1 by omega) (.string m.user)).setCell (p := ⟨w.heap.size + 1, 2, none⟩) (show w.heap.size ≤ w.heap.size + 1 by omega) (.int .u64 (m.el.1 : Int))).setCell (p := ⟨w.heap.size + 1, 3, none⟩) (show w.heap.size ≤ w.heap.size + 1 by omega) (.int .u64 (m.el.2.1 : Int))).setCell (p := ⟨w.heap.size + 1, 4, none⟩) (show w.heap.size ≤ w.heap.size + 1 by omega) (.bool m.el.2.2)).setCell (p := ⟨w.heap.size + 1, 5, none⟩) (show w.heap.size ≤ w.heap.size + 1 by omega) (.int .u64 (x : Int))).setCell (p := ⟨w.heap.size + 1, 6, none⟩) (show w.heap.size ≤ w.heap.size + 1 by omega) (.int .u64 (y : Int))).setCell (p := ⟨w.heap.size + 1, 7, none⟩) (show w.heap.size ≤ w.heap.size + 1 by omega) (.bool z)).setCell (p := ⟨w.heap.size + 1, 8, none⟩) (show w.heap.size ≤ w.heap.size + 1 by omega) (.string m.nonce)).setCell (p := ⟨w.heap.size + 1, 9, none⟩) (show w.heap.size ≤ w.heap.size + 1 by omega) (.string m.box)).setCell (p := ⟨w.heap.size + 1, 10, none⟩) (show w.heap.size ≤ w.heap.size + 1 by omega) (.string m.mac)).setCell (p := ⟨w.heap.size + 1, 11, none⟩) (show w.heap.size ≤ w.heap.size + 1 by omega) (.int .i64 m.code))
  simp only [List.setIfInBounds_toArray, List.set_cons_zero, List.set_cons_succ] at hn
  exact bodyPost_ret (v := .agg #[.int .i64 m.kind, .string m.user, .int .u64 (m.el.1 : Int), .int .u64 (m.el.2.1 : Int), .bool m.el.2.2, .int .u64 (x : Int), .int .u64 (y : Int), .bool z, .string m.nonce, .string m.box, .string m.mac, .int .i64 m.code]) (bk_res1 (fn := Tryz.f25) (p := 6) Tryz.results25 _ rfl hn Tryz.underlying27 rfl (by kernel_rfl)) rfl ⟨rfl, hm⟩
theorem set_n (m : Msg) (t : ByteArray) (w : World) :
    Calls Tryz.prog 25 #[.agg #[.int .i64 m.kind, .string m.user, .int .u64 (m.el.1 : Int), .int .u64 (m.el.2.1 : Int), .bool m.el.2.2, .int .u64 (m.ot.1 : Int), .int .u64 (m.ot.2.1 : Int), .bool m.ot.2.2, .string m.nonce, .string m.box, .string m.mac, .int .i64 m.code], .int .u8 110, .string t] w fun e w' => e = .returned (.agg (msgL (setS m t .n)).toArray) ∧ Below w.heap.size w w' := by
  have hR := (Bk.new w 27 #[.int .i64 m.kind, .string m.user, .int .u64 (m.el.1 : Int), .int .u64 (m.el.2.1 : Int), .bool m.el.2.2, .int .u64 (m.ot.1 : Int), .int .u64 (m.ot.2.1 : Int), .bool m.ot.2.2, .string m.nonce, .string m.box, .string m.mac, .int .i64 m.code]).alloc (Obj.cells #[.int .i64 0, .string ⟨#[]⟩, .int .u64 0, .int .u64 0, .bool false, .int .u64 0, .int .u64 0, .bool false, .string ⟨#[]⟩, .string ⟨#[]⟩, .string ⟨#[]⟩, .int .i64 0] 27)
  have hZ := (Bk.new (w.alloc (Obj.cells #[.int .i64 m.kind, .string m.user, .int .u64 (m.el.1 : Int), .int .u64 (m.el.2.1 : Int), .bool m.el.2.2, .int .u64 (m.ot.1 : Int), .int .u64 (m.ot.2.1 : Int), .bool m.ot.2.2, .string m.nonce, .string m.box, .string m.mac, .int .i64 m.code] 27)) 27 #[.int .i64 0, .string ⟨#[]⟩, .int .u64 0, .int .u64 0, .bool false, .int .u64 0, .int .u64 0, .bool false, .string ⟨#[]⟩, .string ⟨#[]⟩, .string ⟨#[]⟩, .int .i64 0]).at (b' := w.heap.size + 1) (by simp)
  have hB := ((Below.refl _ w).alloc (Nat.le_refl _) (Obj.cells #[.int .i64 m.kind, .string m.user, .int .u64 (m.el.1 : Int), .int .u64 (m.el.2.1 : Int), .bool m.el.2.2, .int .u64 (m.ot.1 : Int), .int .u64 (m.ot.2.1 : Int), .bool m.ot.2.2, .string m.nonce, .string m.box, .string m.mac, .int .i64 m.code] 27)).alloc (by simp) (Obj.cells #[.int .i64 0, .string ⟨#[]⟩, .int .u64 0, .int .u64 0, .bool false, .int .u64 0, .int .u64 0, .bool false, .string ⟨#[]⟩, .string ⟨#[]⟩, .string ⟨#[]⟩, .int .i64 0] 27)
  obtain ⟨W, hW⟩ : ∃ W, ((w.alloc (Obj.cells #[.int .i64 m.kind, .string m.user, .int .u64 (m.el.1 : Int), .int .u64 (m.el.2.1 : Int), .bool m.el.2.2, .int .u64 (m.ot.1 : Int), .int .u64 (m.ot.2.1 : Int), .bool m.ot.2.2, .string m.nonce, .string m.box, .string m.mac, .int .i64 m.code] 27)).alloc (Obj.cells #[.int .i64 0, .string ⟨#[]⟩, .int .u64 0, .int .u64 0, .bool false, .int .u64 0, .int .u64 0, .bool false, .string ⟨#[]⟩, .string ⟨#[]⟩, .string ⟨#[]⟩, .int .i64 0] 27)) = W := ⟨_, rfl⟩
  rw [hW] at hR hZ hB
  have c0 : W.cell? ⟨w.heap.size, 0, none⟩ = some (.int .i64 m.kind) := hR.cell (k := 0) rfl
  have c1 : W.cell? ⟨w.heap.size, 1, none⟩ = some (.string m.user) := hR.cell (k := 1) rfl
  have c2 : W.cell? ⟨w.heap.size, 2, none⟩ = some (.int .u64 (m.el.1 : Int)) := hR.cell (k := 2) rfl
  have c3 : W.cell? ⟨w.heap.size, 3, none⟩ = some (.int .u64 (m.el.2.1 : Int)) := hR.cell (k := 3) rfl
  have c4 : W.cell? ⟨w.heap.size, 4, none⟩ = some (.bool m.el.2.2) := hR.cell (k := 4) rfl
  have c5 : W.cell? ⟨w.heap.size, 5, none⟩ = some (.int .u64 (m.ot.1 : Int)) := hR.cell (k := 5) rfl
  have c6 : W.cell? ⟨w.heap.size, 6, none⟩ = some (.int .u64 (m.ot.2.1 : Int)) := hR.cell (k := 6) rfl
  have c7 : W.cell? ⟨w.heap.size, 7, none⟩ = some (.bool m.ot.2.2) := hR.cell (k := 7) rfl
  have c8 : W.cell? ⟨w.heap.size, 8, none⟩ = some (.string m.nonce) := hR.cell (k := 8) rfl
  have c9 : W.cell? ⟨w.heap.size, 9, none⟩ = some (.string m.box) := hR.cell (k := 9) rfl
  have c10 : W.cell? ⟨w.heap.size, 10, none⟩ = some (.string m.mac) := hR.cell (k := 10) rfl
  have c11 : W.cell? ⟨w.heap.size, 11, none⟩ = some (.int .i64 m.code) := hR.cell (k := 11) rfl
  have g8 := hR.frz 8
  have z0 : W.cell? ⟨w.heap.size + 1, 0, none⟩ = some (.int .i64 0) := hZ.cell (k := 0) rfl
  have f0 := hZ.frz 0
  have z1 : W.cell? ⟨w.heap.size + 1, 1, none⟩ = some (.string ⟨#[]⟩) := hZ.cell (k := 1) rfl
  have f1 := hZ.frz 1
  have z2 : W.cell? ⟨w.heap.size + 1, 2, none⟩ = some (.int .u64 0) := hZ.cell (k := 2) rfl
  have f2 := hZ.frz 2
  have z3 : W.cell? ⟨w.heap.size + 1, 3, none⟩ = some (.int .u64 0) := hZ.cell (k := 3) rfl
  have f3 := hZ.frz 3
  have z4 : W.cell? ⟨w.heap.size + 1, 4, none⟩ = some (.bool false) := hZ.cell (k := 4) rfl
  have f4 := hZ.frz 4
  have z5 : W.cell? ⟨w.heap.size + 1, 5, none⟩ = some (.int .u64 0) := hZ.cell (k := 5) rfl
  have f5 := hZ.frz 5
  have z6 : W.cell? ⟨w.heap.size + 1, 6, none⟩ = some (.int .u64 0) := hZ.cell (k := 6) rfl
  have f6 := hZ.frz 6
  have z7 : W.cell? ⟨w.heap.size + 1, 7, none⟩ = some (.bool false) := hZ.cell (k := 7) rfl
  have f7 := hZ.frz 7
  have z8 : W.cell? ⟨w.heap.size + 1, 8, none⟩ = some (.string ⟨#[]⟩) := hZ.cell (k := 8) rfl
  have f8 := hZ.frz 8
  have z9 : W.cell? ⟨w.heap.size + 1, 9, none⟩ = some (.string ⟨#[]⟩) := hZ.cell (k := 9) rfl
  have f9 := hZ.frz 9
  have z10 : W.cell? ⟨w.heap.size + 1, 10, none⟩ = some (.string ⟨#[]⟩) := hZ.cell (k := 10) rfl
  have f10 := hZ.frz 10
  have z11 : W.cell? ⟨w.heap.size + 1, 11, none⟩ = some (.int .i64 0) := hZ.cell (k := 11) rfl
  have f11 := hZ.frz 11
  go_enter Tryz.func25, Tryz.ntmps25
  go_wp2
  have hn := (((((((((((((hZ.other (b' := w.heap.size) (by omega) 8 (.string t)).set 0 (.int .i64 m.kind)).set 1 (.string m.user)).set 2 (.int .u64 (m.el.1 : Int))).set 3 (.int .u64 (m.el.2.1 : Int))).set 4 (.bool m.el.2.2)).set 5 (.int .u64 (m.ot.1 : Int))).set 6 (.int .u64 (m.ot.2.1 : Int))).set 7 (.bool m.ot.2.2)).set 8 (.string t)).set 9 (.string m.box)).set 10 (.string m.mac)).set 11 (.int .i64 m.code))
  have hm := (((((((((((((hB.setCell (p := ⟨w.heap.size, 8, none⟩) (Nat.le_refl _) (.string t)).setCell (p := ⟨w.heap.size + 1, 0, none⟩) (show w.heap.size ≤ w.heap.size + 1 by omega) (.int .i64 m.kind)).setCell (p := ⟨w.heap.size + 1, 1, none⟩) (show w.heap.size ≤ w.heap.size + 1 by omega) (.string m.user)).setCell (p := ⟨w.heap.size + 1, 2, none⟩) (show w.heap.size ≤ w.heap.size + 1 by omega) (.int .u64 (m.el.1 : Int))).setCell (p := ⟨w.heap.size + 1, 3, none⟩) (show w.heap.size ≤ w.heap.size + 1 by omega) (.int .u64 (m.el.2.1 : Int))).setCell (p := ⟨w.heap.size + 1, 4, none⟩) (show w.heap.size ≤ w.heap.size + 1 by omega) (.bool m.el.2.2)).setCell (p := ⟨w.heap.size + 1, 5, none⟩) (show w.heap.size ≤ w.heap.size + 1 by omega) (.int .u64 (m.ot.1 : Int))).setCell (p := ⟨w.heap.size + 1, 6, none⟩) (show w.heap.size ≤ w.heap.size + 1 by omega) (.int .u64 (m.ot.2.1 : Int))).setCell (p := ⟨w.heap.size + 1, 7, none⟩) (show w.heap.size ≤ w.heap.size + 1 by omega) (.bool m.ot.2.2)).setCell (p := ⟨w.heap.size + 1, 8, none⟩) (show w.heap.size ≤ w.heap.size + 1 by omega) (.string t)).setCell (p := ⟨w.heap.size + 1, 9, none⟩) (show w.heap.size ≤ w.heap.size + 1 by omega) (.string m.box)).setCell (p := ⟨w.heap.size + 1, 10, none⟩) (show w.heap.size ≤ w.heap.size + 1 by omega) (.string m.mac)).setCell (p := ⟨w.heap.size + 1, 11, none⟩) (show w.heap.size ≤ w.heap.size + 1 by omega) (.int .i64 m.code))
  simp only [List.setIfInBounds_toArray, List.set_cons_zero, List.set_cons_succ] at hn
  exact bodyPost_ret (v := .agg #[.int .i64 m.kind, .string m.user, .int .u64 (m.el.1 : Int), .int .u64 (m.el.2.1 : Int), .bool m.el.2.2, .int .u64 (m.ot.1 : Int), .int .u64 (m.ot.2.1 : Int), .bool m.ot.2.2, .string t, .string m.box, .string m.mac, .int .i64 m.code]) (bk_res1 (fn := Tryz.f25) (p := 6) Tryz.results25 _ rfl hn Tryz.underlying27 rfl (by kernel_rfl)) rfl ⟨rfl, hm⟩
theorem set_b (m : Msg) (t : ByteArray) (w : World) :
    Calls Tryz.prog 25 #[.agg #[.int .i64 m.kind, .string m.user, .int .u64 (m.el.1 : Int), .int .u64 (m.el.2.1 : Int), .bool m.el.2.2, .int .u64 (m.ot.1 : Int), .int .u64 (m.ot.2.1 : Int), .bool m.ot.2.2, .string m.nonce, .string m.box, .string m.mac, .int .i64 m.code], .int .u8 98, .string t] w fun e w' => e = .returned (.agg (msgL (setS m t .b)).toArray) ∧ Below w.heap.size w w' := by
  have hR := (Bk.new w 27 #[.int .i64 m.kind, .string m.user, .int .u64 (m.el.1 : Int), .int .u64 (m.el.2.1 : Int), .bool m.el.2.2, .int .u64 (m.ot.1 : Int), .int .u64 (m.ot.2.1 : Int), .bool m.ot.2.2, .string m.nonce, .string m.box, .string m.mac, .int .i64 m.code]).alloc (Obj.cells #[.int .i64 0, .string ⟨#[]⟩, .int .u64 0, .int .u64 0, .bool false, .int .u64 0, .int .u64 0, .bool false, .string ⟨#[]⟩, .string ⟨#[]⟩, .string ⟨#[]⟩, .int .i64 0] 27)
  have hZ := (Bk.new (w.alloc (Obj.cells #[.int .i64 m.kind, .string m.user, .int .u64 (m.el.1 : Int), .int .u64 (m.el.2.1 : Int), .bool m.el.2.2, .int .u64 (m.ot.1 : Int), .int .u64 (m.ot.2.1 : Int), .bool m.ot.2.2, .string m.nonce, .string m.box, .string m.mac, .int .i64 m.code] 27)) 27 #[.int .i64 0, .string ⟨#[]⟩, .int .u64 0, .int .u64 0, .bool false, .int .u64 0, .int .u64 0, .bool false, .string ⟨#[]⟩, .string ⟨#[]⟩, .string ⟨#[]⟩, .int .i64 0]).at (b' := w.heap.size + 1) (by simp)
  have hB := ((Below.refl _ w).alloc (Nat.le_refl _) (Obj.cells #[.int .i64 m.kind, .string m.user, .int .u64 (m.el.1 : Int), .int .u64 (m.el.2.1 : Int), .bool m.el.2.2, .int .u64 (m.ot.1 : Int), .int .u64 (m.ot.2.1 : Int), .bool m.ot.2.2, .string m.nonce, .string m.box, .string m.mac, .int .i64 m.code] 27)).alloc (by simp) (Obj.cells #[.int .i64 0, .string ⟨#[]⟩, .int .u64 0, .int .u64 0, .bool false, .int .u64 0, .int .u64 0, .bool false, .string ⟨#[]⟩, .string ⟨#[]⟩, .string ⟨#[]⟩, .int .i64 0] 27)
  obtain ⟨W, hW⟩ : ∃ W, ((w.alloc (Obj.cells #[.int .i64 m.kind, .string m.user, .int .u64 (m.el.1 : Int), .int .u64 (m.el.2.1 : Int), .bool m.el.2.2, .int .u64 (m.ot.1 : Int), .int .u64 (m.ot.2.1 : Int), .bool m.ot.2.2, .string m.nonce, .string m.box, .string m.mac, .int .i64 m.code] 27)).alloc (Obj.cells #[.int .i64 0, .string ⟨#[]⟩, .int .u64 0, .int .u64 0, .bool false, .int .u64 0, .int .u64 0, .bool false, .string ⟨#[]⟩, .string ⟨#[]⟩, .string ⟨#[]⟩, .int .i64 0] 27)) = W := ⟨_, rfl⟩
  rw [hW] at hR hZ hB
  have c0 : W.cell? ⟨w.heap.size, 0, none⟩ = some (.int .i64 m.kind) := hR.cell (k := 0) rfl
  have c1 : W.cell? ⟨w.heap.size, 1, none⟩ = some (.string m.user) := hR.cell (k := 1) rfl
  have c2 : W.cell? ⟨w.heap.size, 2, none⟩ = some (.int .u64 (m.el.1 : Int)) := hR.cell (k := 2) rfl
  have c3 : W.cell? ⟨w.heap.size, 3, none⟩ = some (.int .u64 (m.el.2.1 : Int)) := hR.cell (k := 3) rfl
  have c4 : W.cell? ⟨w.heap.size, 4, none⟩ = some (.bool m.el.2.2) := hR.cell (k := 4) rfl
  have c5 : W.cell? ⟨w.heap.size, 5, none⟩ = some (.int .u64 (m.ot.1 : Int)) := hR.cell (k := 5) rfl
  have c6 : W.cell? ⟨w.heap.size, 6, none⟩ = some (.int .u64 (m.ot.2.1 : Int)) := hR.cell (k := 6) rfl
  have c7 : W.cell? ⟨w.heap.size, 7, none⟩ = some (.bool m.ot.2.2) := hR.cell (k := 7) rfl
  have c8 : W.cell? ⟨w.heap.size, 8, none⟩ = some (.string m.nonce) := hR.cell (k := 8) rfl
  have c9 : W.cell? ⟨w.heap.size, 9, none⟩ = some (.string m.box) := hR.cell (k := 9) rfl
  have c10 : W.cell? ⟨w.heap.size, 10, none⟩ = some (.string m.mac) := hR.cell (k := 10) rfl
  have c11 : W.cell? ⟨w.heap.size, 11, none⟩ = some (.int .i64 m.code) := hR.cell (k := 11) rfl
  have g9 := hR.frz 9
  have z0 : W.cell? ⟨w.heap.size + 1, 0, none⟩ = some (.int .i64 0) := hZ.cell (k := 0) rfl
  have f0 := hZ.frz 0
  have z1 : W.cell? ⟨w.heap.size + 1, 1, none⟩ = some (.string ⟨#[]⟩) := hZ.cell (k := 1) rfl
  have f1 := hZ.frz 1
  have z2 : W.cell? ⟨w.heap.size + 1, 2, none⟩ = some (.int .u64 0) := hZ.cell (k := 2) rfl
  have f2 := hZ.frz 2
  have z3 : W.cell? ⟨w.heap.size + 1, 3, none⟩ = some (.int .u64 0) := hZ.cell (k := 3) rfl
  have f3 := hZ.frz 3
  have z4 : W.cell? ⟨w.heap.size + 1, 4, none⟩ = some (.bool false) := hZ.cell (k := 4) rfl
  have f4 := hZ.frz 4
  have z5 : W.cell? ⟨w.heap.size + 1, 5, none⟩ = some (.int .u64 0) := hZ.cell (k := 5) rfl
  have f5 := hZ.frz 5
  have z6 : W.cell? ⟨w.heap.size + 1, 6, none⟩ = some (.int .u64 0) := hZ.cell (k := 6) rfl
  have f6 := hZ.frz 6
  have z7 : W.cell? ⟨w.heap.size + 1, 7, none⟩ = some (.bool false) := hZ.cell (k := 7) rfl
  have f7 := hZ.frz 7
  have z8 : W.cell? ⟨w.heap.size + 1, 8, none⟩ = some (.string ⟨#[]⟩) := hZ.cell (k := 8) rfl
  have f8 := hZ.frz 8
  have z9 : W.cell? ⟨w.heap.size + 1, 9, none⟩ = some (.string ⟨#[]⟩) := hZ.cell (k := 9) rfl
  have f9 := hZ.frz 9
  have z10 : W.cell? ⟨w.heap.size + 1, 10, none⟩ = some (.string ⟨#[]⟩) := hZ.cell (k := 10) rfl
  have f10 := hZ.frz 10
  have z11 : W.cell? ⟨w.heap.size + 1, 11, none⟩ = some (.int .i64 0) := hZ.cell (k := 11) rfl
  have f11 := hZ.frz 11
  go_enter Tryz.func25, Tryz.ntmps25
  go_wp2
  have hn := (((((((((((((hZ.other (b' := w.heap.size) (by omega) 9 (.string t)).set 0 (.int .i64 m.kind)).set 1 (.string m.user)).set 2 (.int .u64 (m.el.1 : Int))).set 3 (.int .u64 (m.el.2.1 : Int))).set 4 (.bool m.el.2.2)).set 5 (.int .u64 (m.ot.1 : Int))).set 6 (.int .u64 (m.ot.2.1 : Int))).set 7 (.bool m.ot.2.2)).set 8 (.string m.nonce)).set 9 (.string t)).set 10 (.string m.mac)).set 11 (.int .i64 m.code))
  have hm := (((((((((((((hB.setCell (p := ⟨w.heap.size, 9, none⟩) (Nat.le_refl _) (.string t)).setCell (p := ⟨w.heap.size + 1, 0, none⟩) (show w.heap.size ≤ w.heap.size + 1 by omega) (.int .i64 m.kind)).setCell (p := ⟨w.heap.size + 1, 1, none⟩) (show w.heap.size ≤ w.heap.size + 1 by omega) (.string m.user)).setCell (p := ⟨w.heap.size + 1, 2, none⟩) (show w.heap.size ≤ w.heap.size + 1 by omega) (.int .u64 (m.el.1 : Int))).setCell (p := ⟨w.heap.size + 1, 3, none⟩) (show w.heap.size ≤ w.heap.size + 1 by omega) (.int .u64 (m.el.2.1 : Int))).setCell (p := ⟨w.heap.size + 1, 4, none⟩) (show w.heap.size ≤ w.heap.size + 1 by omega) (.bool m.el.2.2)).setCell (p := ⟨w.heap.size + 1, 5, none⟩) (show w.heap.size ≤ w.heap.size + 1 by omega) (.int .u64 (m.ot.1 : Int))).setCell (p := ⟨w.heap.size + 1, 6, none⟩) (show w.heap.size ≤ w.heap.size + 1 by omega) (.int .u64 (m.ot.2.1 : Int))).setCell (p := ⟨w.heap.size + 1, 7, none⟩) (show w.heap.size ≤ w.heap.size + 1 by omega) (.bool m.ot.2.2)).setCell (p := ⟨w.heap.size + 1, 8, none⟩) (show w.heap.size ≤ w.heap.size + 1 by omega) (.string m.nonce)).setCell (p := ⟨w.heap.size + 1, 9, none⟩) (show w.heap.size ≤ w.heap.size + 1 by omega) (.string t)).setCell (p := ⟨w.heap.size + 1, 10, none⟩) (show w.heap.size ≤ w.heap.size + 1 by omega) (.string m.mac)).setCell (p := ⟨w.heap.size + 1, 11, none⟩) (show w.heap.size ≤ w.heap.size + 1 by omega) (.int .i64 m.code))
  simp only [List.setIfInBounds_toArray, List.set_cons_zero, List.set_cons_succ] at hn
  exact bodyPost_ret (v := .agg #[.int .i64 m.kind, .string m.user, .int .u64 (m.el.1 : Int), .int .u64 (m.el.2.1 : Int), .bool m.el.2.2, .int .u64 (m.ot.1 : Int), .int .u64 (m.ot.2.1 : Int), .bool m.ot.2.2, .string m.nonce, .string t, .string m.mac, .int .i64 m.code]) (bk_res1 (fn := Tryz.f25) (p := 6) Tryz.results25 _ rfl hn Tryz.underlying27 rfl (by kernel_rfl)) rfl ⟨rfl, hm⟩
theorem set_m (m : Msg) (t : ByteArray) (w : World) :
    Calls Tryz.prog 25 #[.agg #[.int .i64 m.kind, .string m.user, .int .u64 (m.el.1 : Int), .int .u64 (m.el.2.1 : Int), .bool m.el.2.2, .int .u64 (m.ot.1 : Int), .int .u64 (m.ot.2.1 : Int), .bool m.ot.2.2, .string m.nonce, .string m.box, .string m.mac, .int .i64 m.code], .int .u8 109, .string t] w fun e w' => e = .returned (.agg (msgL (setS m t .m)).toArray) ∧ Below w.heap.size w w' := by
  have hR := (Bk.new w 27 #[.int .i64 m.kind, .string m.user, .int .u64 (m.el.1 : Int), .int .u64 (m.el.2.1 : Int), .bool m.el.2.2, .int .u64 (m.ot.1 : Int), .int .u64 (m.ot.2.1 : Int), .bool m.ot.2.2, .string m.nonce, .string m.box, .string m.mac, .int .i64 m.code]).alloc (Obj.cells #[.int .i64 0, .string ⟨#[]⟩, .int .u64 0, .int .u64 0, .bool false, .int .u64 0, .int .u64 0, .bool false, .string ⟨#[]⟩, .string ⟨#[]⟩, .string ⟨#[]⟩, .int .i64 0] 27)
  have hZ := (Bk.new (w.alloc (Obj.cells #[.int .i64 m.kind, .string m.user, .int .u64 (m.el.1 : Int), .int .u64 (m.el.2.1 : Int), .bool m.el.2.2, .int .u64 (m.ot.1 : Int), .int .u64 (m.ot.2.1 : Int), .bool m.ot.2.2, .string m.nonce, .string m.box, .string m.mac, .int .i64 m.code] 27)) 27 #[.int .i64 0, .string ⟨#[]⟩, .int .u64 0, .int .u64 0, .bool false, .int .u64 0, .int .u64 0, .bool false, .string ⟨#[]⟩, .string ⟨#[]⟩, .string ⟨#[]⟩, .int .i64 0]).at (b' := w.heap.size + 1) (by simp)
  have hB := ((Below.refl _ w).alloc (Nat.le_refl _) (Obj.cells #[.int .i64 m.kind, .string m.user, .int .u64 (m.el.1 : Int), .int .u64 (m.el.2.1 : Int), .bool m.el.2.2, .int .u64 (m.ot.1 : Int), .int .u64 (m.ot.2.1 : Int), .bool m.ot.2.2, .string m.nonce, .string m.box, .string m.mac, .int .i64 m.code] 27)).alloc (by simp) (Obj.cells #[.int .i64 0, .string ⟨#[]⟩, .int .u64 0, .int .u64 0, .bool false, .int .u64 0, .int .u64 0, .bool false, .string ⟨#[]⟩, .string ⟨#[]⟩, .string ⟨#[]⟩, .int .i64 0] 27)
  obtain ⟨W, hW⟩ : ∃ W, ((w.alloc (Obj.cells #[.int .i64 m.kind, .string m.user, .int .u64 (m.el.1 : Int), .int .u64 (m.el.2.1 : Int), .bool m.el.2.2, .int .u64 (m.ot.1 : Int), .int .u64 (m.ot.2.1 : Int), .bool m.ot.2.2, .string m.nonce, .string m.box, .string m.mac, .int .i64 m.code] 27)).alloc (Obj.cells #[.int .i64 0, .string ⟨#[]⟩, .int .u64 0, .int .u64 0, .bool false, .int .u64 0, .int .u64 0, .bool false, .string ⟨#[]⟩, .string ⟨#[]⟩, .string ⟨#[]⟩, .int .i64 0] 27)) = W := ⟨_, rfl⟩
  rw [hW] at hR hZ hB
  have c0 : W.cell? ⟨w.heap.size, 0, none⟩ = some (.int .i64 m.kind) := hR.cell (k := 0) rfl
  have c1 : W.cell? ⟨w.heap.size, 1, none⟩ = some (.string m.user) := hR.cell (k := 1) rfl
  have c2 : W.cell? ⟨w.heap.size, 2, none⟩ = some (.int .u64 (m.el.1 : Int)) := hR.cell (k := 2) rfl
  have c3 : W.cell? ⟨w.heap.size, 3, none⟩ = some (.int .u64 (m.el.2.1 : Int)) := hR.cell (k := 3) rfl
  have c4 : W.cell? ⟨w.heap.size, 4, none⟩ = some (.bool m.el.2.2) := hR.cell (k := 4) rfl
  have c5 : W.cell? ⟨w.heap.size, 5, none⟩ = some (.int .u64 (m.ot.1 : Int)) := hR.cell (k := 5) rfl
  have c6 : W.cell? ⟨w.heap.size, 6, none⟩ = some (.int .u64 (m.ot.2.1 : Int)) := hR.cell (k := 6) rfl
  have c7 : W.cell? ⟨w.heap.size, 7, none⟩ = some (.bool m.ot.2.2) := hR.cell (k := 7) rfl
  have c8 : W.cell? ⟨w.heap.size, 8, none⟩ = some (.string m.nonce) := hR.cell (k := 8) rfl
  have c9 : W.cell? ⟨w.heap.size, 9, none⟩ = some (.string m.box) := hR.cell (k := 9) rfl
  have c10 : W.cell? ⟨w.heap.size, 10, none⟩ = some (.string m.mac) := hR.cell (k := 10) rfl
  have c11 : W.cell? ⟨w.heap.size, 11, none⟩ = some (.int .i64 m.code) := hR.cell (k := 11) rfl
  have g10 := hR.frz 10
  have z0 : W.cell? ⟨w.heap.size + 1, 0, none⟩ = some (.int .i64 0) := hZ.cell (k := 0) rfl
  have f0 := hZ.frz 0
  have z1 : W.cell? ⟨w.heap.size + 1, 1, none⟩ = some (.string ⟨#[]⟩) := hZ.cell (k := 1) rfl
  have f1 := hZ.frz 1
  have z2 : W.cell? ⟨w.heap.size + 1, 2, none⟩ = some (.int .u64 0) := hZ.cell (k := 2) rfl
  have f2 := hZ.frz 2
  have z3 : W.cell? ⟨w.heap.size + 1, 3, none⟩ = some (.int .u64 0) := hZ.cell (k := 3) rfl
  have f3 := hZ.frz 3
  have z4 : W.cell? ⟨w.heap.size + 1, 4, none⟩ = some (.bool false) := hZ.cell (k := 4) rfl
  have f4 := hZ.frz 4
  have z5 : W.cell? ⟨w.heap.size + 1, 5, none⟩ = some (.int .u64 0) := hZ.cell (k := 5) rfl
  have f5 := hZ.frz 5
  have z6 : W.cell? ⟨w.heap.size + 1, 6, none⟩ = some (.int .u64 0) := hZ.cell (k := 6) rfl
  have f6 := hZ.frz 6
  have z7 : W.cell? ⟨w.heap.size + 1, 7, none⟩ = some (.bool false) := hZ.cell (k := 7) rfl
  have f7 := hZ.frz 7
  have z8 : W.cell? ⟨w.heap.size + 1, 8, none⟩ = some (.string ⟨#[]⟩) := hZ.cell (k := 8) rfl
  have f8 := hZ.frz 8
  have z9 : W.cell? ⟨w.heap.size + 1, 9, none⟩ = some (.string ⟨#[]⟩) := hZ.cell (k := 9) rfl
  have f9 := hZ.frz 9
  have z10 : W.cell? ⟨w.heap.size + 1, 10, none⟩ = some (.string ⟨#[]⟩) := hZ.cell (k := 10) rfl
  have f10 := hZ.frz 10
  have z11 : W.cell? ⟨w.heap.size + 1, 11, none⟩ = some (.int .i64 0) := hZ.cell (k := 11) rfl
  have f11 := hZ.frz 11
  go_enter Tryz.func25, Tryz.ntmps25
  go_wp2
  have hn := (((((((((((((hZ.other (b' := w.heap.size) (by omega) 10 (.string t)).set 0 (.int .i64 m.kind)).set 1 (.string m.user)).set 2 (.int .u64 (m.el.1 : Int))).set 3 (.int .u64 (m.el.2.1 : Int))).set 4 (.bool m.el.2.2)).set 5 (.int .u64 (m.ot.1 : Int))).set 6 (.int .u64 (m.ot.2.1 : Int))).set 7 (.bool m.ot.2.2)).set 8 (.string m.nonce)).set 9 (.string m.box)).set 10 (.string t)).set 11 (.int .i64 m.code))
  have hm := (((((((((((((hB.setCell (p := ⟨w.heap.size, 10, none⟩) (Nat.le_refl _) (.string t)).setCell (p := ⟨w.heap.size + 1, 0, none⟩) (show w.heap.size ≤ w.heap.size + 1 by omega) (.int .i64 m.kind)).setCell (p := ⟨w.heap.size + 1, 1, none⟩) (show w.heap.size ≤ w.heap.size + 1 by omega) (.string m.user)).setCell (p := ⟨w.heap.size + 1, 2, none⟩) (show w.heap.size ≤ w.heap.size + 1 by omega) (.int .u64 (m.el.1 : Int))).setCell (p := ⟨w.heap.size + 1, 3, none⟩) (show w.heap.size ≤ w.heap.size + 1 by omega) (.int .u64 (m.el.2.1 : Int))).setCell (p := ⟨w.heap.size + 1, 4, none⟩) (show w.heap.size ≤ w.heap.size + 1 by omega) (.bool m.el.2.2)).setCell (p := ⟨w.heap.size + 1, 5, none⟩) (show w.heap.size ≤ w.heap.size + 1 by omega) (.int .u64 (m.ot.1 : Int))).setCell (p := ⟨w.heap.size + 1, 6, none⟩) (show w.heap.size ≤ w.heap.size + 1 by omega) (.int .u64 (m.ot.2.1 : Int))).setCell (p := ⟨w.heap.size + 1, 7, none⟩) (show w.heap.size ≤ w.heap.size + 1 by omega) (.bool m.ot.2.2)).setCell (p := ⟨w.heap.size + 1, 8, none⟩) (show w.heap.size ≤ w.heap.size + 1 by omega) (.string m.nonce)).setCell (p := ⟨w.heap.size + 1, 9, none⟩) (show w.heap.size ≤ w.heap.size + 1 by omega) (.string m.box)).setCell (p := ⟨w.heap.size + 1, 10, none⟩) (show w.heap.size ≤ w.heap.size + 1 by omega) (.string t)).setCell (p := ⟨w.heap.size + 1, 11, none⟩) (show w.heap.size ≤ w.heap.size + 1 by omega) (.int .i64 m.code))
  simp only [List.setIfInBounds_toArray, List.set_cons_zero, List.set_cons_succ] at hn
  exact bodyPost_ret (v := .agg #[.int .i64 m.kind, .string m.user, .int .u64 (m.el.1 : Int), .int .u64 (m.el.2.1 : Int), .bool m.el.2.2, .int .u64 (m.ot.1 : Int), .int .u64 (m.ot.2.1 : Int), .bool m.ot.2.2, .string m.nonce, .string m.box, .string t, .int .i64 m.code]) (bk_res1 (fn := Tryz.f25) (p := 6) Tryz.results25 _ rfl hn Tryz.underlying27 rfl (by kernel_rfl)) rfl ⟨rfl, hm⟩
theorem set_c (m : Msg) (t : ByteArray) (w : World) (ht : 1 ≤ t.size) :
    Calls Tryz.prog 25 #[.agg #[.int .i64 m.kind, .string m.user, .int .u64 (m.el.1 : Int), .int .u64 (m.el.2.1 : Int), .bool m.el.2.2, .int .u64 (m.ot.1 : Int), .int .u64 (m.ot.2.1 : Int), .bool m.ot.2.2, .string m.nonce, .string m.box, .string m.mac, .int .i64 m.code], .int .u8 99, .string t] w fun e w' => e = .returned (.agg (msgL (setS m t .c)).toArray) ∧ Below w.heap.size w w' := by
  have ht' : (0 : Int) < (t.size : Int) := by omega
  have hk := bt_get t 0 (by omega)
  have hkl := t[0].toNat_lt
  have e : setS m t .c = { m with code := (bt t 0 : Int) } := rfl
  rw [e]
  rw [← hk]
  have e1 : IntKind.i64.wrap (t[0].toNat : Int) = (t[0].toNat : Int) := by rw [IntKind.wrap_i64]; omega
  clear hk e
  generalize hkk : t[0].toNat = k at *
  have hR := (Bk.new w 27 #[.int .i64 m.kind, .string m.user, .int .u64 (m.el.1 : Int), .int .u64 (m.el.2.1 : Int), .bool m.el.2.2, .int .u64 (m.ot.1 : Int), .int .u64 (m.ot.2.1 : Int), .bool m.ot.2.2, .string m.nonce, .string m.box, .string m.mac, .int .i64 m.code]).alloc (Obj.cells #[.int .i64 0, .string ⟨#[]⟩, .int .u64 0, .int .u64 0, .bool false, .int .u64 0, .int .u64 0, .bool false, .string ⟨#[]⟩, .string ⟨#[]⟩, .string ⟨#[]⟩, .int .i64 0] 27)
  have hZ := (Bk.new (w.alloc (Obj.cells #[.int .i64 m.kind, .string m.user, .int .u64 (m.el.1 : Int), .int .u64 (m.el.2.1 : Int), .bool m.el.2.2, .int .u64 (m.ot.1 : Int), .int .u64 (m.ot.2.1 : Int), .bool m.ot.2.2, .string m.nonce, .string m.box, .string m.mac, .int .i64 m.code] 27)) 27 #[.int .i64 0, .string ⟨#[]⟩, .int .u64 0, .int .u64 0, .bool false, .int .u64 0, .int .u64 0, .bool false, .string ⟨#[]⟩, .string ⟨#[]⟩, .string ⟨#[]⟩, .int .i64 0]).at (b' := w.heap.size + 1) (by simp)
  have hB := ((Below.refl _ w).alloc (Nat.le_refl _) (Obj.cells #[.int .i64 m.kind, .string m.user, .int .u64 (m.el.1 : Int), .int .u64 (m.el.2.1 : Int), .bool m.el.2.2, .int .u64 (m.ot.1 : Int), .int .u64 (m.ot.2.1 : Int), .bool m.ot.2.2, .string m.nonce, .string m.box, .string m.mac, .int .i64 m.code] 27)).alloc (by simp) (Obj.cells #[.int .i64 0, .string ⟨#[]⟩, .int .u64 0, .int .u64 0, .bool false, .int .u64 0, .int .u64 0, .bool false, .string ⟨#[]⟩, .string ⟨#[]⟩, .string ⟨#[]⟩, .int .i64 0] 27)
  obtain ⟨W, hW⟩ : ∃ W, ((w.alloc (Obj.cells #[.int .i64 m.kind, .string m.user, .int .u64 (m.el.1 : Int), .int .u64 (m.el.2.1 : Int), .bool m.el.2.2, .int .u64 (m.ot.1 : Int), .int .u64 (m.ot.2.1 : Int), .bool m.ot.2.2, .string m.nonce, .string m.box, .string m.mac, .int .i64 m.code] 27)).alloc (Obj.cells #[.int .i64 0, .string ⟨#[]⟩, .int .u64 0, .int .u64 0, .bool false, .int .u64 0, .int .u64 0, .bool false, .string ⟨#[]⟩, .string ⟨#[]⟩, .string ⟨#[]⟩, .int .i64 0] 27)) = W := ⟨_, rfl⟩
  rw [hW] at hR hZ hB
  have c0 : W.cell? ⟨w.heap.size, 0, none⟩ = some (.int .i64 m.kind) := hR.cell (k := 0) rfl
  have c1 : W.cell? ⟨w.heap.size, 1, none⟩ = some (.string m.user) := hR.cell (k := 1) rfl
  have c2 : W.cell? ⟨w.heap.size, 2, none⟩ = some (.int .u64 (m.el.1 : Int)) := hR.cell (k := 2) rfl
  have c3 : W.cell? ⟨w.heap.size, 3, none⟩ = some (.int .u64 (m.el.2.1 : Int)) := hR.cell (k := 3) rfl
  have c4 : W.cell? ⟨w.heap.size, 4, none⟩ = some (.bool m.el.2.2) := hR.cell (k := 4) rfl
  have c5 : W.cell? ⟨w.heap.size, 5, none⟩ = some (.int .u64 (m.ot.1 : Int)) := hR.cell (k := 5) rfl
  have c6 : W.cell? ⟨w.heap.size, 6, none⟩ = some (.int .u64 (m.ot.2.1 : Int)) := hR.cell (k := 6) rfl
  have c7 : W.cell? ⟨w.heap.size, 7, none⟩ = some (.bool m.ot.2.2) := hR.cell (k := 7) rfl
  have c8 : W.cell? ⟨w.heap.size, 8, none⟩ = some (.string m.nonce) := hR.cell (k := 8) rfl
  have c9 : W.cell? ⟨w.heap.size, 9, none⟩ = some (.string m.box) := hR.cell (k := 9) rfl
  have c10 : W.cell? ⟨w.heap.size, 10, none⟩ = some (.string m.mac) := hR.cell (k := 10) rfl
  have c11 : W.cell? ⟨w.heap.size, 11, none⟩ = some (.int .i64 m.code) := hR.cell (k := 11) rfl
  have g11 := hR.frz 11
  have z0 : W.cell? ⟨w.heap.size + 1, 0, none⟩ = some (.int .i64 0) := hZ.cell (k := 0) rfl
  have f0 := hZ.frz 0
  have z1 : W.cell? ⟨w.heap.size + 1, 1, none⟩ = some (.string ⟨#[]⟩) := hZ.cell (k := 1) rfl
  have f1 := hZ.frz 1
  have z2 : W.cell? ⟨w.heap.size + 1, 2, none⟩ = some (.int .u64 0) := hZ.cell (k := 2) rfl
  have f2 := hZ.frz 2
  have z3 : W.cell? ⟨w.heap.size + 1, 3, none⟩ = some (.int .u64 0) := hZ.cell (k := 3) rfl
  have f3 := hZ.frz 3
  have z4 : W.cell? ⟨w.heap.size + 1, 4, none⟩ = some (.bool false) := hZ.cell (k := 4) rfl
  have f4 := hZ.frz 4
  have z5 : W.cell? ⟨w.heap.size + 1, 5, none⟩ = some (.int .u64 0) := hZ.cell (k := 5) rfl
  have f5 := hZ.frz 5
  have z6 : W.cell? ⟨w.heap.size + 1, 6, none⟩ = some (.int .u64 0) := hZ.cell (k := 6) rfl
  have f6 := hZ.frz 6
  have z7 : W.cell? ⟨w.heap.size + 1, 7, none⟩ = some (.bool false) := hZ.cell (k := 7) rfl
  have f7 := hZ.frz 7
  have z8 : W.cell? ⟨w.heap.size + 1, 8, none⟩ = some (.string ⟨#[]⟩) := hZ.cell (k := 8) rfl
  have f8 := hZ.frz 8
  have z9 : W.cell? ⟨w.heap.size + 1, 9, none⟩ = some (.string ⟨#[]⟩) := hZ.cell (k := 9) rfl
  have f9 := hZ.frz 9
  have z10 : W.cell? ⟨w.heap.size + 1, 10, none⟩ = some (.string ⟨#[]⟩) := hZ.cell (k := 10) rfl
  have f10 := hZ.frz 10
  have z11 : W.cell? ⟨w.heap.size + 1, 11, none⟩ = some (.int .i64 0) := hZ.cell (k := 11) rfl
  have f11 := hZ.frz 11
  go_enter Tryz.func25, Tryz.ntmps25
  go_wp2
  have hn := (((((((((((((hZ.other (b' := w.heap.size) (by omega) 11 (.int .i64 (k : Int))).set 0 (.int .i64 m.kind)).set 1 (.string m.user)).set 2 (.int .u64 (m.el.1 : Int))).set 3 (.int .u64 (m.el.2.1 : Int))).set 4 (.bool m.el.2.2)).set 5 (.int .u64 (m.ot.1 : Int))).set 6 (.int .u64 (m.ot.2.1 : Int))).set 7 (.bool m.ot.2.2)).set 8 (.string m.nonce)).set 9 (.string m.box)).set 10 (.string m.mac)).set 11 (.int .i64 (k : Int)))
  have hm := (((((((((((((hB.setCell (p := ⟨w.heap.size, 11, none⟩) (Nat.le_refl _) (.int .i64 (k : Int))).setCell (p := ⟨w.heap.size + 1, 0, none⟩) (show w.heap.size ≤ w.heap.size + 1 by omega) (.int .i64 m.kind)).setCell (p := ⟨w.heap.size + 1, 1, none⟩) (show w.heap.size ≤ w.heap.size + 1 by omega) (.string m.user)).setCell (p := ⟨w.heap.size + 1, 2, none⟩) (show w.heap.size ≤ w.heap.size + 1 by omega) (.int .u64 (m.el.1 : Int))).setCell (p := ⟨w.heap.size + 1, 3, none⟩) (show w.heap.size ≤ w.heap.size + 1 by omega) (.int .u64 (m.el.2.1 : Int))).setCell (p := ⟨w.heap.size + 1, 4, none⟩) (show w.heap.size ≤ w.heap.size + 1 by omega) (.bool m.el.2.2)).setCell (p := ⟨w.heap.size + 1, 5, none⟩) (show w.heap.size ≤ w.heap.size + 1 by omega) (.int .u64 (m.ot.1 : Int))).setCell (p := ⟨w.heap.size + 1, 6, none⟩) (show w.heap.size ≤ w.heap.size + 1 by omega) (.int .u64 (m.ot.2.1 : Int))).setCell (p := ⟨w.heap.size + 1, 7, none⟩) (show w.heap.size ≤ w.heap.size + 1 by omega) (.bool m.ot.2.2)).setCell (p := ⟨w.heap.size + 1, 8, none⟩) (show w.heap.size ≤ w.heap.size + 1 by omega) (.string m.nonce)).setCell (p := ⟨w.heap.size + 1, 9, none⟩) (show w.heap.size ≤ w.heap.size + 1 by omega) (.string m.box)).setCell (p := ⟨w.heap.size + 1, 10, none⟩) (show w.heap.size ≤ w.heap.size + 1 by omega) (.string m.mac)).setCell (p := ⟨w.heap.size + 1, 11, none⟩) (show w.heap.size ≤ w.heap.size + 1 by omega) (.int .i64 (k : Int)))
  simp only [List.setIfInBounds_toArray, List.set_cons_zero, List.set_cons_succ] at hn
  exact bodyPost_ret (v := .agg #[.int .i64 m.kind, .string m.user, .int .u64 (m.el.1 : Int), .int .u64 (m.el.2.1 : Int), .bool m.el.2.2, .int .u64 (m.ot.1 : Int), .int .u64 (m.ot.2.1 : Int), .bool m.ot.2.2, .string m.nonce, .string m.box, .string m.mac, .int .i64 (k : Int)]) (bk_res1 (fn := Tryz.f25) (p := 6) Tryz.results25 _ rfl hn Tryz.underlying27 rfl (by kernel_rfl)) rfl ⟨rfl, hm⟩
end Go.Proofs.YtdaobioomoajfaaGreat
namespace Go.Proofs.YtdaobioomoajfaaGreat
open Go.RowKit
theorem tl_inj {a b : ByteArray} : a.toList = b.toList ↔ a = b := ⟨fun h => byt_inj (by rw [byt_toList, byt_toList, h]), fun h => by rw [h]⟩
theorem neqM (a b : Msg) (w : World) : (Go.binOp .neq 27 (.agg (msgL a).toArray) (.agg (msgL b).toArray)).run Tryz.prog w = .ok (.bool (!decide (a = b))) w := by
  obtain ⟨k, u, ⟨e1, e2, e3⟩, ⟨o1, o2, o3⟩, n, x, m, c⟩ := a
  obtain ⟨k', u', ⟨e1', e2', e3'⟩, ⟨o1', o2', o3'⟩, n', x', m', c'⟩ := b
  simp only [msgL]
  by_cases h : (⟨k, u, ⟨e1, e2, e3⟩, ⟨o1, o2, o3⟩, n, x, m, c⟩ : Msg) = ⟨k', u', ⟨e1', e2', e3'⟩, ⟨o1', o2', o3'⟩, n', x', m', c'⟩
  · rw [decide_eq_true h]
    injection h with h1 h2 h3 h4 h5 h6 h7 h8
    injection h3 with h31 h32
    injection h32 with h32 h33
    injection h4 with h41 h42
    injection h42 with h42 h43
    subst h1 h2 h31 h32 h33 h41 h42 h43 h5 h6 h7 h8
    simp [go_sem]
  · rw [decide_eq_false h]
    simp only [Msg.mk.injEq, Prod.mk.injEq, not_and, and_imp] at h
    simp only [← Int.ofNat_inj] at h
    simpa [go_sem, tl_inj] using h
end Go.Proofs.YtdaobioomoajfaaGreat
namespace Go.Proofs.YtdaobioomoajfaaGreat
open Go.RowKit
def Fr : Lt → FuncId
  | .u => 101
  | .e => 97
  | .o => 100
  | .n => 99
  | .b => 95
  | .m => 98
  | .c => 96
theorem mtR (q : Lt) (p : Addr) (w : World) : (method 250 57 (.pointer (some p)) (mthS q)).run Tryz.prog w = .ok (Fr q, .pointer (some p)) w := by
  cases q <;> kernel_rfl
theorem cfR (q : Lt) (args : Array Value) (w : World) : (callFunc (Fr q) args).run Tryz.prog w = .ok (.enter (Fr q) args) w := by
  cases q <;> kernel_rfl
theorem cfS (args : Array Value) (w : World) : (callFunc 18 args).run Tryz.prog w = .ok (.enter 18 args) w := by kernel_rfl
theorem rd_any (q : Lt) (s : Rd) (b : Nat) (w : World) (hb : Bk w 59 b (rdL s).toArray) (hz : s.rest.size ≤ maxLen) :
    Calls Tryz.prog (Fr q) #[.pointer (some ⟨b, 0, none⟩)] w fun e w' => e = .returned (.tuple #[]) ∧ w.grownBy w' (some b) ∧ Bk w' 59 b (rdL (s.step q)).toArray := by
  cases q
  · exact rd_u s b w hb hz
  · exact rd_e s b w hb hz
  · exact rd_o s b w hb hz
  · exact rd_n s b w hb hz
  · exact rd_b s b w hb hz
  · exact rd_m s b w hb hz
  · exact rd_c s b w hb hz
theorem step_rest (q : Lt) (s : Rd) : (s.step q).rest.size ≤ s.rest.size := by
  cases q
  · exact Nat.le_trans (cut_rest _ _) (cut_rest _ _)
  · exact cut_rest _ _
  · exact cut_rest _ _
  · exact cut_rest _ _
  · exact cut_rest _ _
  · exact cut_rest _ _
  · exact cut_rest _ _
theorem steps_rest : ∀ (l : List Lt) (s : Rd), (l.foldl Rd.step s).rest.size ≤ s.rest.size
  | [], s => Nat.le_refl _
  | q :: l, s => Nat.le_trans (steps_rest l _) (step_rest q s)
theorem belowG {N : Nat} {w W W' : World} {b : Nat} (h : Below N w W) (hg : W.grownBy W' (some b)) (hN : N ≤ b) (hw : N ≤ W.heap.size) : Below N w W' := ⟨hg.os.trans h.os, hg.tape.trans h.tape, hg.output.trans h.output, Nat.le_trans h.size hg.size, fun k hk => (hg.block k (Nat.lt_of_lt_of_le hk hw) (by simp; omega)).trans (h.block k hk)⟩
theorem SM.mono {v : Value} {base base' : Nat} {w : World} {g : Nat} (h : SM v base w g) (hb : base' ≤ base) : SM v base' w g := by
  obtain ⟨h0, es, clk, h1, h2⟩ := h
  refine ⟨Nat.le_trans hb h0, es, clk, h1, fun k => ?_⟩
  have := h2 k
  split
  · rename_i hk
    rw [if_pos hk] at this
    obtain ⟨j, b, g1, g2, g3⟩ := this
    exact ⟨j, b, Nat.le_trans hb g1, g2, g3⟩
  · rename_i hk
    rwa [if_neg hk] at this
theorem bk_ne {W : World} {t t' : TypeId} {b b' : Nat} {cs cs' : Array Value} (h : Bk W t b cs) (h' : Bk W t' b' cs') (hne : t ≠ t') : b ≠ b' := by
  rintro rfl
  unfold Bk at h h'
  rw [h] at h'
  injection h' with h'
  injection h' with _ h2
  exact hne h2
theorem getI_yes (s : ByteArray) (w : World) (hz : s.size ≤ maxLen) (hkn : kindB (Rd.first s).m.kind = true) :
    Calls Tryz.prog 7 #[.string s] w fun e w' => e = .returned (.tuple #[.agg (msgL ((getM s).getD { kind := 0 })).toArray, .bool (getM s).isSome]) ∧ Below w.heap.size w w' := by
  have C := rd_num ⟨{ kind := 0 }, s, false⟩ 1 (w.heap.size + 1) ((w.alloc (.cells #[.int .i64 0, .string ⟨#[]⟩, .int .u64 0, .int .u64 0, .bool false, .int .u64 0, .int .u64 0, .bool false, .string ⟨#[]⟩, .string ⟨#[]⟩, .string ⟨#[]⟩, .int .i64 0] 27)).alloc (.cells #[.int .i64 0, .string ⟨#[]⟩, .int .u64 0, .int .u64 0, .bool false, .int .u64 0, .int .u64 0, .bool false, .string ⟨#[]⟩, .string ⟨#[]⟩, .string ⟨#[]⟩, .int .i64 0, .string s, .bool false] 59)) ((Bk.new _ _ _).at (by simp)) (by decide) hz
  have hM := (Bk.new w 27 #[.int .i64 0, .string ⟨#[]⟩, .int .u64 0, .int .u64 0, .bool false, .int .u64 0, .int .u64 0, .bool false, .string ⟨#[]⟩, .string ⟨#[]⟩, .string ⟨#[]⟩, .int .i64 0]).alloc (.cells #[.int .i64 0, .string ⟨#[]⟩, .int .u64 0, .int .u64 0, .bool false, .int .u64 0, .int .u64 0, .bool false, .string ⟨#[]⟩, .string ⟨#[]⟩, .string ⟨#[]⟩, .int .i64 0, .string s, .bool false] 59)
  have hB := ((Below.refl _ w).alloc (Nat.le_refl _) (.cells #[.int .i64 0, .string ⟨#[]⟩, .int .u64 0, .int .u64 0, .bool false, .int .u64 0, .int .u64 0, .bool false, .string ⟨#[]⟩, .string ⟨#[]⟩, .string ⟨#[]⟩, .int .i64 0] 27)).alloc (by simp) (.cells #[.int .i64 0, .string ⟨#[]⟩, .int .u64 0, .int .u64 0, .bool false, .int .u64 0, .int .u64 0, .bool false, .string ⟨#[]⟩, .string ⟨#[]⟩, .string ⟨#[]⟩, .int .i64 0, .string s, .bool false] 59)
  have hG : getM s = if !(Rd.last s).bad && decide ((Rd.last s).rest = ⟨#[]⟩) then some (Rd.last s).m else none := by
    unfold getM; rw [hkn, Bool.true_and]
  have hl : Rd.last s = (flds (Rd.first s).m.kind).foldl Rd.step (Rd.first s) := rfl
  have hzf : (Rd.first s).rest.size ≤ maxLen := Nat.le_trans (cut_rest _ _) hz
  rw [hG, hl]
  have e1 : Rd.first s = { ((Rd.mk { kind := 0 } s false).cut 1).2 with m := { kind := (numL (byt ((Rd.mk { kind := 0 } s false).cut 1).1) : Nat) } } := rfl
  have e2 := cut_m (Rd.mk { kind := 0 } s false) 1
  generalize numL (byt ((Rd.mk { kind := 0 } s false).cut 1).1) = kn at *
  generalize ((Rd.mk { kind := 0 } s false).cut 1).2 = r at *
  generalize Rd.first s = st at *
  clear hG hl
  have hst : (rdL st).toArray = (rdL r).toArray.setIfInBounds 0 (.int .i64 (kn : Int)) := by
    rw [e1]
    unfold rdL
    rw [e2]
    rfl
  clear e1 e2
  obtain ⟨k, hke⟩ : ∃ k, k = st.m.kind := ⟨_, rfl⟩
  rw [← hke] at hkn ⊢
  obtain ⟨sn, hsn⟩ : ∃ sn, Hid (sn = (flds k).foldl Rd.step st) := ⟨_, rfl⟩
  rw [← hsn.out]
  go_enter Tryz.func7, Tryz.ntmps7
  go_wp2_with fail
  refine C.mono ?_
  rintro e w1 ⟨rfl, g1, hb1⟩
  clear C
  replace hM := hM.keptBy g1 (by simp)
  replace hB := belowG hB g1 (by omega) (by simp; omega)
  have c0 : w1.cell? ⟨w.heap.size + 1, 0, none⟩ = some (.int .i64 r.m.kind) := hb1.cell (k := 0) rfl
  have f0 := hb1.frz 0
  replace hM := hM.other (b' := w.heap.size + 1) (by omega) 0 (.int .i64 (kn : Int))
  replace hB := hB.setCell (p := ⟨w.heap.size + 1, 0, none⟩) (show w.heap.size ≤ w.heap.size + 1 by omega) (.int .i64 (kn : Int))
  replace hb1 := hb1.set 0 (.int .i64 (kn : Int))
  rw [← hst] at hb1
  clear g1 hst
  go_wp2
  generalize w1.setCell _ _ = W2 at *
  clear c0 f0
  obtain ⟨b, hbe⟩ : ∃ b, b = w.heap.size + 1 := ⟨_, rfl⟩
  rw [← hbe] at hb1 ⊢
  have hbg : w.heap.size < b := by omega
  clear hbe
  have ck : W2.drew.cell? ⟨b, 0, none⟩ = some (.int .i64 k) := hke ▸ hb1.cell (k := 0) rfl
  clear hke
  obtain ⟨v, hv⟩ : ∃ v, v = (.iface 57 (.pointer (some ⟨b, 0, none⟩)) : Value) := ⟨_, rfl⟩
  obtain ⟨n, hn⟩ : ∃ n, (flds k).length = n := ⟨_, rfl⟩
  obtain ⟨cs, hcs⟩ : ∃ cs, ((flds k).map (fnV v)).toArray = cs := ⟨_, rfl⟩
  have HS : ∀ w', G.Sides [] W2.drew w' → Calls Tryz.prog 18 #[.iface 57 (.pointer (some ⟨b, 0, none⟩))] w' fun e w'' => ∃ g, e = .returned (.map (some g)) ∧ RS v 0 g w'' ∧ Below w'.heap.size w' w'' := fun w' _ =>
    (stpI _ _ w').mono fun e w'' ⟨g, h1, h2, h3⟩ => ⟨g, h1, by rw [hv]; exact h3.mono (Nat.zero_le _), h2⟩
  refine G.pool_list (W := W2) [] [.val (.pointer (some ⟨b, 0, none⟩)),
      .val (.iface 57 (.pointer (some ⟨b, 0, none⟩))),
      .got (fun g => .map (some g)) (RS v 0),
      .val (.pointer (some ⟨b, 0, none⟩)),
      .val (.pointer (some ⟨b, 0, none⟩)),
      .val (.pointer (some ⟨b, 0, none⟩)),
      .val (.pointer (some ⟨b, 0, none⟩)),
      .val (.int .i64 k),
      .got (fun x => .tuple #[.slice (some ⟨x, 0, none⟩) n n, .bool true]) (RB cs),
      .got (fun x => .tuple #[.slice (some ⟨x, 0, none⟩) n n, .bool true]) (RB cs),
      .got (fun x => .slice (some ⟨x, 0, none⟩) n n) (RB cs),
      .val (.bool true),
      .got (fun x => .slice (some ⟨x, 0, none⟩) n n) (RB cs),
      .val (.bool true)] [[4], [19], [20], [4], [22], [23], [24], [25], [21, 26], [27], [18], [18], [28], [29]] (fun f => [(some 19, .pointer (some ⟨b, 0, none⟩)), (some 20, .iface 57 (.pointer (some ⟨b, 0, none⟩))), (some 21, (fun g => .map (some g)) (f 2)), (some 22, .pointer (some ⟨b, 0, none⟩)), (some 23, .pointer (some ⟨b, 0, none⟩)), (some 24, .pointer (some ⟨b, 0, none⟩)), (some 25, .pointer (some ⟨b, 0, none⟩)), (some 26, .int .i64 k), (some 27, (fun x => .tuple #[.slice (some ⟨x, 0, none⟩) n n, .bool true]) (f 8)), (some 18, (fun x => .tuple #[.slice (some ⟨x, 0, none⟩) n n, .bool true]) (f 9)), (some 28, (fun x => .slice (some ⟨x, 0, none⟩) n n) (f 10)), (some 29, .bool true), (some 5, (fun x => .slice (some ⟨x, 0, none⟩) n n) (f 12)), (some 6, .bool true)]) (by kernel_rfl) (by kernel_rfl) (by kernel_rfl) (by kernel_rfl) (fun _ => by kernel_rfl) (G.last_of [] (fun F R hm => by simp only [List.mem_cons, List.not_mem_nil, or_false, reduceCtorEq, false_or, G.Knd.got.injEq] at hm; rcases hm with ⟨-, rfl⟩ | ⟨-, rfl⟩ | ⟨-, rfl⟩ | ⟨-, rfl⟩ | ⟨-, rfl⟩ <;> first | exact RS_lasts | exact RB_lasts) (fun ob ob' k hm => by simp at hm) (fun b ob ob' hm => by simp at hm)) (fun b ob ob' hm => by simp at hm) ?_ ?_
  · intro ix hix
    match ix, hix with
    | 0, _ => exact G.ob_val [(4, .pointer (some ⟨b, 0, none⟩))] rfl rfl (fun _ => by kernel_rfl) (fun A w ⟨e0, _⟩ hB => L.move e0)
    | 1, _ => exact G.ob_val [(19, .pointer (some ⟨b, 0, none⟩))] rfl rfl (fun _ => by kernel_rfl) (fun A w ⟨e0, _⟩ hB => L.miR e0)
    | 2, _ => exact G.ob_got (fun f => [(20, .iface 57 (.pointer (some ⟨b, 0, none⟩)))]) rfl rfl (fun _ => by kernel_rfl) (fun f A w ⟨e0, _⟩ hB hh => L.cg1 cfS e0 (HS w hB))
    | 3, _ => exact G.ob_val [(4, .pointer (some ⟨b, 0, none⟩))] rfl rfl (fun _ => by kernel_rfl) (fun A w ⟨e0, _⟩ hB => L.move e0)
    | 4, _ => exact G.ob_val [(22, .pointer (some ⟨b, 0, none⟩))] rfl rfl (fun _ => by kernel_rfl) (fun A w ⟨e0, _⟩ hB => L.nck e0)
    | 5, _ => exact G.ob_val [(23, .pointer (some ⟨b, 0, none⟩))] rfl rfl (fun _ => by kernel_rfl) (fun A w ⟨e0, _⟩ hB => L.fa_r0 e0)
    | 6, _ => exact G.ob_val [(24, .pointer (some ⟨b, 0, none⟩))] rfl rfl (fun _ => by kernel_rfl) (fun A w ⟨e0, _⟩ hB => L.fa_m0 e0)
    | 7, _ => exact G.ob_val [(25, .pointer (some ⟨b, 0, none⟩))] rfl rfl (fun _ => by kernel_rfl) (fun A w ⟨e0, _⟩ hB => L.ldI e0 (hB.cell ck (by simp)))
    | 8, _ => exact G.ob_got (fun f => [(21, .map (some (f 2))), (26, .int .i64 k)]) rfl rfl (fun _ => by kernel_rfl) (fun f A w ⟨e0, e1, _⟩ hB hh => L.lkT hkn hn hcs e0 e1 (hh 21 (by decide) 2 rfl (by decide) _ _ rfl))
    | 9, _ => exact G.ob_got (fun f => [(27, .tuple #[.slice (some ⟨f 8, 0, none⟩) n n, .bool true])]) rfl rfl (fun _ => by kernel_rfl) (fun f A w ⟨e0, _⟩ hB hh => L.gmv e0 (hh 27 (by decide) 8 rfl (by decide) _ _ rfl))
    | 10, _ => exact G.ob_got (fun f => [(18, .tuple #[.slice (some ⟨f 9, 0, none⟩) n n, .bool true])]) rfl rfl (fun _ => by kernel_rfl) (fun f A w ⟨e0, _⟩ hB hh => L.gx0 e0 (hh 18 (by decide) 9 rfl (by decide) _ _ rfl))
    | 11, _ => exact G.ob_had (fun f => [(18, .tuple #[.slice (some ⟨f 9, 0, none⟩) n n, .bool true])]) rfl rfl (fun _ => by kernel_rfl) (fun f A w ⟨e0, _⟩ hB hh => L.xt1 e0)
    | 12, _ => exact G.ob_got (fun f => [(28, .slice (some ⟨f 10, 0, none⟩) n n)]) rfl rfl (fun _ => by kernel_rfl) (fun f A w ⟨e0, _⟩ hB hh => L.gas e0 (hh 28 (by decide) 10 rfl (by decide) _ _ rfl))
    | 13, _ => exact G.ob_val [(29, .bool true)] rfl rfl (fun _ => by kernel_rfl) (fun A w ⟨e0, _⟩ hB => L.assign e0)
    | ix + 14, h => exact absurd h (by simp)
  intro f W3 hS y1 y2 hgot y3
  have hrb := hgot 12 _ _ rfl (by decide)
  have b3 : Below W2.heap.size W2 W3 := (Below.refl _ W2).drew.trans hS.below
  replace hM := hM.keep b3
  replace hb1 := hb1.keep b3
  replace hB := hB.trans (b3.mono hB.size)
  clear hS hgot HS ck b3 y1 y2 y3
  simp only [puts, List.foldl, Act.put, List.setIfInBounds_toArray, List.set_cons_zero, List.set_cons_succ]
  have hL : Hid (∀ j, j < n → ∃ q, (flds k)[j]? = some q ∧ (∀ x, RB cs (f 12) x → x.cell? ⟨f 12, j, none⟩ = some (.func (.method (mthS q)) #[.iface 57 (.pointer (some ⟨b, 0, none⟩))] #[]))) := by
    intro j hj
    have hj' : j < (flds k).length := by omega
    refine ⟨(flds k)[j], List.getElem?_eq_getElem hj', fun x hx => ?_⟩
    unfold RB at hx
    rw [cell_of_row _ _ _ _ _ _ hx, ← hcs, List.getElem?_toArray, List.getElem?_map, List.getElem?_eq_getElem hj', hv]
    rfl
  have hne : b ≠ f 12 := bk_ne hb1 (show Bk W3 1 (f 12) cs from hrb) (by decide)
  obtain ⟨bb, hbb⟩ : ∃ bb, bb = f 12 := ⟨_, rfl⟩
  rw [← hbb] at hL hne hrb ⊢
  have hn8 : n ≤ 8 := by
    rw [← hn]
    rcases kind_cases hkn with rfl | rfl | rfl | rfl | rfl | rfl | rfl | rfl <;> decide
  clear hcs hbb hv hkn
  go_wp2
  go_loopw [32] (fun iv wr => ∃ j : Nat, j ≤ n ∧ iv = .int .i64 (j : Int) ∧ Bk wr 59 b (rdL (((flds k).take j).foldl Rd.step st)).toArray ∧ RB cs bb wr ∧ Bk wr 27 w.heap.size #[.int .i64 0, .string ⟨#[]⟩, .int .u64 0, .int .u64 0, .bool false, .int .u64 0, .int .u64 0, .bool false, .string ⟨#[]⟩, .string ⟨#[]⟩, .string ⟨#[]⟩, .int .i64 0] ∧ Below w.heap.size w wr) (fun i _ => n - (intOf i).toNat)
  case atStart => exact ⟨0, by omega, rfl, hb1, hrb, hM, hB⟩
  case round =>
    clear hb1 hrb hM hB
    obtain ⟨j, hj, rfl, hbj, hrj, hMj, hBj⟩ := hrel
    by_cases hlt : j < n
    · have hli : (j : Int) < (n : Int) := by omega
      obtain ⟨q, hq, hx⟩ := hL.out j hlt
      have hc := hx _ hrj
      have hmt := mtR q
      have hcf := cfR q
      have hzj := Nat.le_trans (steps_rest ((flds k).take j) st) hzf
      have R := fun W h => rd_any q _ b W h hzj
      have htk : ((flds k).take (j + 1)).foldl Rd.step st = (((flds k).take j).foldl Rd.step st).step q := by
        rw [List.take_add_one, hq, List.foldl_append]; rfl
      generalize ((flds k).take j).foldl Rd.step st = sj at *
      clear hx hq
      go_wp2_with fail
      refine (R _ hbj).mono ?_
      rintro e w4 ⟨rfl, g4, hb4⟩
      have hr4 : RB cs bb w4 := Bk.keptBy (t := 1) hrj g4 (by simpa using Ne.symm hne)
      have hM4 := hMj.keptBy g4 (by simp; omega)
      have hB4 := belowG hBj g4 (by omega) hBj.size
      rw [← htk] at hb4
      clear R hmt hcf g4 hrj hMj hBj hbj hc
      go_wp2
      go_round
      case rel => exact ⟨j + 1, by omega, by go_num, hb4, hr4, hM4, hB4⟩
      case measure => simp [intOf]; omega
    · obtain rfl : j = n := by omega
      rw [List.take_of_length_le (by omega)] at hbj
      rw [← hsn.out] at hbj
      clear hL hrj
      have c12 : wr.cell? ⟨b, 12, none⟩ = some (.string sn.rest) := hbj.cell (k := 12) rfl
      have c13 : wr.cell? ⟨b, 13, none⟩ = some (.bool sn.bad) := hbj.cell (k := 13) rfl
      have z0 : wr.cell? ⟨w.heap.size, 0, none⟩ = some (.int .i64 0) := hMj.cell (k := 0) rfl
      have f0 := hMj.frz 0
      have z1 : wr.cell? ⟨w.heap.size, 1, none⟩ = some (.string ⟨#[]⟩) := hMj.cell (k := 1) rfl
      have f1 := hMj.frz 1
      have z2 : wr.cell? ⟨w.heap.size, 2, none⟩ = some (.int .u64 0) := hMj.cell (k := 2) rfl
      have f2 := hMj.frz 2
      have z3 : wr.cell? ⟨w.heap.size, 3, none⟩ = some (.int .u64 0) := hMj.cell (k := 3) rfl
      have f3 := hMj.frz 3
      have z4 : wr.cell? ⟨w.heap.size, 4, none⟩ = some (.bool false) := hMj.cell (k := 4) rfl
      have f4 := hMj.frz 4
      have z5 : wr.cell? ⟨w.heap.size, 5, none⟩ = some (.int .u64 0) := hMj.cell (k := 5) rfl
      have f5 := hMj.frz 5
      have z6 : wr.cell? ⟨w.heap.size, 6, none⟩ = some (.int .u64 0) := hMj.cell (k := 6) rfl
      have f6 := hMj.frz 6
      have z7 : wr.cell? ⟨w.heap.size, 7, none⟩ = some (.bool false) := hMj.cell (k := 7) rfl
      have f7 := hMj.frz 7
      have z8 : wr.cell? ⟨w.heap.size, 8, none⟩ = some (.string ⟨#[]⟩) := hMj.cell (k := 8) rfl
      have f8 := hMj.frz 8
      have z9 : wr.cell? ⟨w.heap.size, 9, none⟩ = some (.string ⟨#[]⟩) := hMj.cell (k := 9) rfl
      have f9 := hMj.frz 9
      have z10 : wr.cell? ⟨w.heap.size, 10, none⟩ = some (.string ⟨#[]⟩) := hMj.cell (k := 10) rfl
      have f10 := hMj.frz 10
      have z11 : wr.cell? ⟨w.heap.size, 11, none⟩ = some (.int .i64 0) := hMj.cell (k := 11) rfl
      have f11 := hMj.frz 11
      cases hbad : sn.bad with
      | true =>
        rw [hbad] at c13
        go_wp2
        all_goals refine bodyPost_ret (v := .tuple #[.agg #[.int .i64 0, .string ⟨#[]⟩, .int .u64 0, .int .u64 0, .bool false, .int .u64 0, .int .u64 0, .bool false, .string ⟨#[]⟩, .string ⟨#[]⟩, .string ⟨#[]⟩, .int .i64 0], .bool false]) (bk_res2 (fn := Tryz.f7) (p := 2) (u := 3) (cs := #[.int .i64 0, .string ⟨#[]⟩, .int .u64 0, .int .u64 0, .bool false, .int .u64 0, .int .u64 0, .bool false, .string ⟨#[]⟩, .string ⟨#[]⟩, .string ⟨#[]⟩, .int .i64 0]) Tryz.results7 _ rfl ((((((((((((hMj.set 0 (.int .i64 0)).set 1 (.string ⟨#[]⟩)).set 2 (.int .u64 0)).set 3 (.int .u64 0)).set 4 (.bool false)).set 5 (.int .u64 0)).set 6 (.int .u64 0)).set 7 (.bool false)).set 8 (.string ⟨#[]⟩)).set 9 (.string ⟨#[]⟩)).set 10 (.string ⟨#[]⟩)).set 11 (.int .i64 0)) Tryz.underlying27 rfl (by kernel_rfl)) rfl ⟨?_, ((((((((((((hBj.setCell (p := ⟨w.heap.size, 0, none⟩) (Nat.le_refl _) (.int .i64 0)).setCell (p := ⟨w.heap.size, 1, none⟩) (Nat.le_refl _) (.string ⟨#[]⟩)).setCell (p := ⟨w.heap.size, 2, none⟩) (Nat.le_refl _) (.int .u64 0)).setCell (p := ⟨w.heap.size, 3, none⟩) (Nat.le_refl _) (.int .u64 0)).setCell (p := ⟨w.heap.size, 4, none⟩) (Nat.le_refl _) (.bool false)).setCell (p := ⟨w.heap.size, 5, none⟩) (Nat.le_refl _) (.int .u64 0)).setCell (p := ⟨w.heap.size, 6, none⟩) (Nat.le_refl _) (.int .u64 0)).setCell (p := ⟨w.heap.size, 7, none⟩) (Nat.le_refl _) (.bool false)).setCell (p := ⟨w.heap.size, 8, none⟩) (Nat.le_refl _) (.string ⟨#[]⟩)).setCell (p := ⟨w.heap.size, 9, none⟩) (Nat.le_refl _) (.string ⟨#[]⟩)).setCell (p := ⟨w.heap.size, 10, none⟩) (Nat.le_refl _) (.string ⟨#[]⟩)).setCell (p := ⟨w.heap.size, 11, none⟩) (Nat.le_refl _) (.int .i64 0))⟩
        all_goals rfl
      | false =>
        rw [hbad] at c13
        by_cases hre : sn.rest = ⟨#[]⟩
        · rw [hre] at c12
          have m0 : wr.cell? ⟨b, 0, none⟩ = some (.int .i64 sn.m.kind) := hbj.cell (k := 0) rfl
          have m1 : wr.cell? ⟨b, 1, none⟩ = some (.string sn.m.user) := hbj.cell (k := 1) rfl
          have m2 : wr.cell? ⟨b, 2, none⟩ = some (.int .u64 (sn.m.el.1 : Int)) := hbj.cell (k := 2) rfl
          have m3 : wr.cell? ⟨b, 3, none⟩ = some (.int .u64 (sn.m.el.2.1 : Int)) := hbj.cell (k := 3) rfl
          have m4 : wr.cell? ⟨b, 4, none⟩ = some (.bool sn.m.el.2.2) := hbj.cell (k := 4) rfl
          have m5 : wr.cell? ⟨b, 5, none⟩ = some (.int .u64 (sn.m.ot.1 : Int)) := hbj.cell (k := 5) rfl
          have m6 : wr.cell? ⟨b, 6, none⟩ = some (.int .u64 (sn.m.ot.2.1 : Int)) := hbj.cell (k := 6) rfl
          have m7 : wr.cell? ⟨b, 7, none⟩ = some (.bool sn.m.ot.2.2) := hbj.cell (k := 7) rfl
          have m8 : wr.cell? ⟨b, 8, none⟩ = some (.string sn.m.nonce) := hbj.cell (k := 8) rfl
          have m9 : wr.cell? ⟨b, 9, none⟩ = some (.string sn.m.box) := hbj.cell (k := 9) rfl
          have m10 : wr.cell? ⟨b, 10, none⟩ = some (.string sn.m.mac) := hbj.cell (k := 10) rfl
          have m11 : wr.cell? ⟨b, 11, none⟩ = some (.int .i64 sn.m.code) := hbj.cell (k := 11) rfl
          go_wp2
          case inl =>
            have hMn := ((((((((((((hMj.set 0 (.int .i64 sn.m.kind)).set 1 (.string sn.m.user)).set 2 (.int .u64 (sn.m.el.1 : Int))).set 3 (.int .u64 (sn.m.el.2.1 : Int))).set 4 (.bool sn.m.el.2.2)).set 5 (.int .u64 (sn.m.ot.1 : Int))).set 6 (.int .u64 (sn.m.ot.2.1 : Int))).set 7 (.bool sn.m.ot.2.2)).set 8 (.string sn.m.nonce)).set 9 (.string sn.m.box)).set 10 (.string sn.m.mac)).set 11 (.int .i64 sn.m.code))
            have hBn := ((((((((((((hBj.setCell (p := ⟨w.heap.size, 0, none⟩) (Nat.le_refl _) (.int .i64 sn.m.kind)).setCell (p := ⟨w.heap.size, 1, none⟩) (Nat.le_refl _) (.string sn.m.user)).setCell (p := ⟨w.heap.size, 2, none⟩) (Nat.le_refl _) (.int .u64 (sn.m.el.1 : Int))).setCell (p := ⟨w.heap.size, 3, none⟩) (Nat.le_refl _) (.int .u64 (sn.m.el.2.1 : Int))).setCell (p := ⟨w.heap.size, 4, none⟩) (Nat.le_refl _) (.bool sn.m.el.2.2)).setCell (p := ⟨w.heap.size, 5, none⟩) (Nat.le_refl _) (.int .u64 (sn.m.ot.1 : Int))).setCell (p := ⟨w.heap.size, 6, none⟩) (Nat.le_refl _) (.int .u64 (sn.m.ot.2.1 : Int))).setCell (p := ⟨w.heap.size, 7, none⟩) (Nat.le_refl _) (.bool sn.m.ot.2.2)).setCell (p := ⟨w.heap.size, 8, none⟩) (Nat.le_refl _) (.string sn.m.nonce)).setCell (p := ⟨w.heap.size, 9, none⟩) (Nat.le_refl _) (.string sn.m.box)).setCell (p := ⟨w.heap.size, 10, none⟩) (Nat.le_refl _) (.string sn.m.mac)).setCell (p := ⟨w.heap.size, 11, none⟩) (Nat.le_refl _) (.int .i64 sn.m.code))
            simp only [List.setIfInBounds_toArray, List.set_cons_zero, List.set_cons_succ] at hMn
            exact bodyPost_ret (v := .tuple #[.agg #[.int .i64 sn.m.kind, .string sn.m.user, .int .u64 (sn.m.el.1 : Int), .int .u64 (sn.m.el.2.1 : Int), .bool sn.m.el.2.2, .int .u64 (sn.m.ot.1 : Int), .int .u64 (sn.m.ot.2.1 : Int), .bool sn.m.ot.2.2, .string sn.m.nonce, .string sn.m.box, .string sn.m.mac, .int .i64 sn.m.code], .bool true]) (bk_res2 (fn := Tryz.f7) (p := 2) (u := 3) Tryz.results7 _ rfl hMn Tryz.underlying27 rfl (by kernel_rfl)) rfl ⟨rfl, hBn⟩
          case inr =>
            have hMn := ((((((((((((hMj.set 0 (.int .i64 sn.m.kind)).set 1 (.string sn.m.user)).set 2 (.int .u64 (sn.m.el.1 : Int))).set 3 (.int .u64 (sn.m.el.2.1 : Int))).set 4 (.bool sn.m.el.2.2)).set 5 (.int .u64 (sn.m.ot.1 : Int))).set 6 (.int .u64 (sn.m.ot.2.1 : Int))).set 7 (.bool sn.m.ot.2.2)).set 8 (.string sn.m.nonce)).set 9 (.string sn.m.box)).set 10 (.string sn.m.mac)).set 11 (.int .i64 sn.m.code))
            have hBn := ((((((((((((hBj.setCell (p := ⟨w.heap.size, 0, none⟩) (Nat.le_refl _) (.int .i64 sn.m.kind)).setCell (p := ⟨w.heap.size, 1, none⟩) (Nat.le_refl _) (.string sn.m.user)).setCell (p := ⟨w.heap.size, 2, none⟩) (Nat.le_refl _) (.int .u64 (sn.m.el.1 : Int))).setCell (p := ⟨w.heap.size, 3, none⟩) (Nat.le_refl _) (.int .u64 (sn.m.el.2.1 : Int))).setCell (p := ⟨w.heap.size, 4, none⟩) (Nat.le_refl _) (.bool sn.m.el.2.2)).setCell (p := ⟨w.heap.size, 5, none⟩) (Nat.le_refl _) (.int .u64 (sn.m.ot.1 : Int))).setCell (p := ⟨w.heap.size, 6, none⟩) (Nat.le_refl _) (.int .u64 (sn.m.ot.2.1 : Int))).setCell (p := ⟨w.heap.size, 7, none⟩) (Nat.le_refl _) (.bool sn.m.ot.2.2)).setCell (p := ⟨w.heap.size, 8, none⟩) (Nat.le_refl _) (.string sn.m.nonce)).setCell (p := ⟨w.heap.size, 9, none⟩) (Nat.le_refl _) (.string sn.m.box)).setCell (p := ⟨w.heap.size, 10, none⟩) (Nat.le_refl _) (.string sn.m.mac)).setCell (p := ⟨w.heap.size, 11, none⟩) (Nat.le_refl _) (.int .i64 sn.m.code))
            simp only [List.setIfInBounds_toArray, List.set_cons_zero, List.set_cons_succ] at hMn
            exact bodyPost_ret (v := .tuple #[.agg #[.int .i64 sn.m.kind, .string sn.m.user, .int .u64 (sn.m.el.1 : Int), .int .u64 (sn.m.el.2.1 : Int), .bool sn.m.el.2.2, .int .u64 (sn.m.ot.1 : Int), .int .u64 (sn.m.ot.2.1 : Int), .bool sn.m.ot.2.2, .string sn.m.nonce, .string sn.m.box, .string sn.m.mac, .int .i64 sn.m.code], .bool true]) (bk_res2 (fn := Tryz.f7) (p := 2) (u := 3) Tryz.results7 _ rfl hMn Tryz.underlying27 rfl (by kernel_rfl)) rfl ⟨rfl, hBn⟩
        · have hre' : (sn.rest.toList == []) = false := by
            have h := str_ne hre
            rwa [show (⟨#[]⟩ : ByteArray).toList = [] by simp [ByteArray.toList_eq]] at h
          go_wp2
          all_goals refine bodyPost_ret (v := .tuple #[.agg #[.int .i64 0, .string ⟨#[]⟩, .int .u64 0, .int .u64 0, .bool false, .int .u64 0, .int .u64 0, .bool false, .string ⟨#[]⟩, .string ⟨#[]⟩, .string ⟨#[]⟩, .int .i64 0], .bool false]) (bk_res2 (fn := Tryz.f7) (p := 2) (u := 3) (cs := #[.int .i64 0, .string ⟨#[]⟩, .int .u64 0, .int .u64 0, .bool false, .int .u64 0, .int .u64 0, .bool false, .string ⟨#[]⟩, .string ⟨#[]⟩, .string ⟨#[]⟩, .int .i64 0]) Tryz.results7 _ rfl ((((((((((((hMj.set 0 (.int .i64 0)).set 1 (.string ⟨#[]⟩)).set 2 (.int .u64 0)).set 3 (.int .u64 0)).set 4 (.bool false)).set 5 (.int .u64 0)).set 6 (.int .u64 0)).set 7 (.bool false)).set 8 (.string ⟨#[]⟩)).set 9 (.string ⟨#[]⟩)).set 10 (.string ⟨#[]⟩)).set 11 (.int .i64 0)) Tryz.underlying27 rfl (by kernel_rfl)) rfl ⟨?_, ((((((((((((hBj.setCell (p := ⟨w.heap.size, 0, none⟩) (Nat.le_refl _) (.int .i64 0)).setCell (p := ⟨w.heap.size, 1, none⟩) (Nat.le_refl _) (.string ⟨#[]⟩)).setCell (p := ⟨w.heap.size, 2, none⟩) (Nat.le_refl _) (.int .u64 0)).setCell (p := ⟨w.heap.size, 3, none⟩) (Nat.le_refl _) (.int .u64 0)).setCell (p := ⟨w.heap.size, 4, none⟩) (Nat.le_refl _) (.bool false)).setCell (p := ⟨w.heap.size, 5, none⟩) (Nat.le_refl _) (.int .u64 0)).setCell (p := ⟨w.heap.size, 6, none⟩) (Nat.le_refl _) (.int .u64 0)).setCell (p := ⟨w.heap.size, 7, none⟩) (Nat.le_refl _) (.bool false)).setCell (p := ⟨w.heap.size, 8, none⟩) (Nat.le_refl _) (.string ⟨#[]⟩)).setCell (p := ⟨w.heap.size, 9, none⟩) (Nat.le_refl _) (.string ⟨#[]⟩)).setCell (p := ⟨w.heap.size, 10, none⟩) (Nat.le_refl _) (.string ⟨#[]⟩)).setCell (p := ⟨w.heap.size, 11, none⟩) (Nat.le_refl _) (.int .i64 0))⟩
          all_goals rfl
theorem getI_no (s : ByteArray) (w : World) (hz : s.size ≤ maxLen) (hkn : kindB (Rd.first s).m.kind = false) :
    Calls Tryz.prog 7 #[.string s] w fun e w' => e = .returned (.tuple #[.agg (msgL { kind := 0 }).toArray, .bool false]) ∧ Below w.heap.size w w' := by
  have C := rd_num ⟨{ kind := 0 }, s, false⟩ 1 (w.heap.size + 1) ((w.alloc (.cells #[.int .i64 0, .string ⟨#[]⟩, .int .u64 0, .int .u64 0, .bool false, .int .u64 0, .int .u64 0, .bool false, .string ⟨#[]⟩, .string ⟨#[]⟩, .string ⟨#[]⟩, .int .i64 0] 27)).alloc (.cells #[.int .i64 0, .string ⟨#[]⟩, .int .u64 0, .int .u64 0, .bool false, .int .u64 0, .int .u64 0, .bool false, .string ⟨#[]⟩, .string ⟨#[]⟩, .string ⟨#[]⟩, .int .i64 0, .string s, .bool false] 59)) ((Bk.new _ _ _).at (by simp)) (by decide) hz
  have hM := (Bk.new w 27 #[.int .i64 0, .string ⟨#[]⟩, .int .u64 0, .int .u64 0, .bool false, .int .u64 0, .int .u64 0, .bool false, .string ⟨#[]⟩, .string ⟨#[]⟩, .string ⟨#[]⟩, .int .i64 0]).alloc (.cells #[.int .i64 0, .string ⟨#[]⟩, .int .u64 0, .int .u64 0, .bool false, .int .u64 0, .int .u64 0, .bool false, .string ⟨#[]⟩, .string ⟨#[]⟩, .string ⟨#[]⟩, .int .i64 0, .string s, .bool false] 59)
  have hB := ((Below.refl _ w).alloc (Nat.le_refl _) (.cells #[.int .i64 0, .string ⟨#[]⟩, .int .u64 0, .int .u64 0, .bool false, .int .u64 0, .int .u64 0, .bool false, .string ⟨#[]⟩, .string ⟨#[]⟩, .string ⟨#[]⟩, .int .i64 0] 27)).alloc (by simp) (.cells #[.int .i64 0, .string ⟨#[]⟩, .int .u64 0, .int .u64 0, .bool false, .int .u64 0, .int .u64 0, .bool false, .string ⟨#[]⟩, .string ⟨#[]⟩, .string ⟨#[]⟩, .int .i64 0, .string s, .bool false] 59)
  have e1 : Rd.first s = { ((Rd.mk { kind := 0 } s false).cut 1).2 with m := { kind := (numL (byt ((Rd.mk { kind := 0 } s false).cut 1).1) : Nat) } } := rfl
  have e2 := cut_m (Rd.mk { kind := 0 } s false) 1
  generalize numL (byt ((Rd.mk { kind := 0 } s false).cut 1).1) = kn at *
  generalize ((Rd.mk { kind := 0 } s false).cut 1).2 = r at *
  generalize Rd.first s = st at *
  have hst : (rdL st).toArray = (rdL r).toArray.setIfInBounds 0 (.int .i64 (kn : Int)) := by
    rw [e1]
    unfold rdL
    rw [e2]
    rfl
  clear e1 e2
  obtain ⟨k, hke⟩ : ∃ k, k = st.m.kind := ⟨_, rfl⟩
  rw [← hke] at hkn
  go_enter Tryz.func7, Tryz.ntmps7
  go_wp2_with fail
  refine C.mono ?_
  rintro e w1 ⟨rfl, g1, hb1⟩
  clear C
  replace hM := hM.keptBy g1 (by simp)
  replace hB := belowG hB g1 (by omega) (by simp; omega)
  have c0 : w1.cell? ⟨w.heap.size + 1, 0, none⟩ = some (.int .i64 r.m.kind) := hb1.cell (k := 0) rfl
  have f0 := hb1.frz 0
  replace hM := hM.other (b' := w.heap.size + 1) (by omega) 0 (.int .i64 (kn : Int))
  replace hB := hB.setCell (p := ⟨w.heap.size + 1, 0, none⟩) (show w.heap.size ≤ w.heap.size + 1 by omega) (.int .i64 (kn : Int))
  replace hb1 := hb1.set 0 (.int .i64 (kn : Int))
  rw [← hst] at hb1
  clear g1 hst
  go_wp2
  generalize w1.setCell _ _ = W2 at *
  clear c0 f0
  obtain ⟨b, hbe⟩ : ∃ b, b = w.heap.size + 1 := ⟨_, rfl⟩
  rw [← hbe] at hb1 ⊢
  have hbg : w.heap.size < b := by omega
  clear hbe
  have ck : W2.drew.cell? ⟨b, 0, none⟩ = some (.int .i64 k) := hke ▸ hb1.cell (k := 0) rfl
  clear hke
  obtain ⟨v, hv⟩ : ∃ v, v = (.iface 57 (.pointer (some ⟨b, 0, none⟩)) : Value) := ⟨_, rfl⟩
  have HS : ∀ w', G.Sides [] W2.drew w' → Calls Tryz.prog 18 #[.iface 57 (.pointer (some ⟨b, 0, none⟩))] w' fun e w'' => ∃ g, e = .returned (.map (some g)) ∧ RS v 0 g w'' ∧ Below w'.heap.size w' w'' := fun w' _ =>
    (stpI _ _ w').mono fun e w'' ⟨g, h1, h2, h3⟩ => ⟨g, h1, by rw [hv]; exact h3.mono (Nat.zero_le _), h2⟩
  refine G.pool_list (W := W2) [] [.val (.pointer (some ⟨b, 0, none⟩)),
      .val (.iface 57 (.pointer (some ⟨b, 0, none⟩))),
      .got (fun g => .map (some g)) (RS v 0),
      .val (.pointer (some ⟨b, 0, none⟩)),
      .val (.pointer (some ⟨b, 0, none⟩)),
      .val (.pointer (some ⟨b, 0, none⟩)),
      .val (.pointer (some ⟨b, 0, none⟩)),
      .val (.int .i64 k),
      .val (.tuple #[.slice none 0 0, .bool false]),
      .val (.tuple #[.slice none 0 0, .bool false]),
      .val (.slice none 0 0),
      .val (.bool false),
      .val (.slice none 0 0),
      .val (.bool false)] [[4], [19], [20], [4], [22], [23], [24], [25], [21, 26], [27], [18], [18], [28], [29]] (fun f => [(some 19, .pointer (some ⟨b, 0, none⟩)), (some 20, .iface 57 (.pointer (some ⟨b, 0, none⟩))), (some 21, (fun g => .map (some g)) (f 2)), (some 22, .pointer (some ⟨b, 0, none⟩)), (some 23, .pointer (some ⟨b, 0, none⟩)), (some 24, .pointer (some ⟨b, 0, none⟩)), (some 25, .pointer (some ⟨b, 0, none⟩)), (some 26, .int .i64 k), (some 27, .tuple #[.slice none 0 0, .bool false]), (some 18, .tuple #[.slice none 0 0, .bool false]), (some 28, .slice none 0 0), (some 29, .bool false), (some 5, .slice none 0 0), (some 6, .bool false)]) (by kernel_rfl) (by kernel_rfl) (by kernel_rfl) (by kernel_rfl) (fun _ => by kernel_rfl) (G.last_of [] (fun F R hm => by simp only [List.mem_cons, List.not_mem_nil, or_false, reduceCtorEq, false_or, G.Knd.got.injEq] at hm; obtain ⟨-, rfl⟩ := hm; exact RS_lasts) (fun ob ob' k hm => by simp at hm) (fun b ob ob' hm => by simp at hm)) (fun b ob ob' hm => by simp at hm) ?_ ?_
  · intro ix hix
    match ix, hix with
    | 0, _ => exact G.ob_val [(4, .pointer (some ⟨b, 0, none⟩))] rfl rfl (fun _ => by kernel_rfl) (fun A w ⟨e0, _⟩ hB => L.move e0)
    | 1, _ => exact G.ob_val [(19, .pointer (some ⟨b, 0, none⟩))] rfl rfl (fun _ => by kernel_rfl) (fun A w ⟨e0, _⟩ hB => L.miR e0)
    | 2, _ => exact G.ob_got (fun f => [(20, .iface 57 (.pointer (some ⟨b, 0, none⟩)))]) rfl rfl (fun _ => by kernel_rfl) (fun f A w ⟨e0, _⟩ hB hh => L.cg1 cfS e0 (HS w hB))
    | 3, _ => exact G.ob_val [(4, .pointer (some ⟨b, 0, none⟩))] rfl rfl (fun _ => by kernel_rfl) (fun A w ⟨e0, _⟩ hB => L.move e0)
    | 4, _ => exact G.ob_val [(22, .pointer (some ⟨b, 0, none⟩))] rfl rfl (fun _ => by kernel_rfl) (fun A w ⟨e0, _⟩ hB => L.nck e0)
    | 5, _ => exact G.ob_val [(23, .pointer (some ⟨b, 0, none⟩))] rfl rfl (fun _ => by kernel_rfl) (fun A w ⟨e0, _⟩ hB => L.fa_r0 e0)
    | 6, _ => exact G.ob_val [(24, .pointer (some ⟨b, 0, none⟩))] rfl rfl (fun _ => by kernel_rfl) (fun A w ⟨e0, _⟩ hB => L.fa_m0 e0)
    | 7, _ => exact G.ob_val [(25, .pointer (some ⟨b, 0, none⟩))] rfl rfl (fun _ => by kernel_rfl) (fun A w ⟨e0, _⟩ hB => L.ldI e0 (hB.cell ck (by simp)))
    | 8, _ => exact G.ob_had (fun f => [(21, .map (some (f 2))), (26, .int .i64 k)]) rfl rfl (fun _ => by kernel_rfl) (fun f A w ⟨e0, e1, _⟩ hB hh => L.lkF hkn e0 e1 (hh 21 (by decide) 2 rfl (by decide) _ _ rfl))
    | 9, _ => exact G.ob_val [(27, .tuple #[.slice none 0 0, .bool false])] rfl rfl (fun _ => by kernel_rfl) (fun A w ⟨e0, _⟩ hB => L.move e0)
    | 10, _ => exact G.ob_val [(18, .tuple #[.slice none 0 0, .bool false])] rfl rfl (fun _ => by kernel_rfl) (fun A w ⟨e0, _⟩ hB => L.xt0 e0)
    | 11, _ => exact G.ob_val [(18, .tuple #[.slice none 0 0, .bool false])] rfl rfl (fun _ => by kernel_rfl) (fun A w ⟨e0, _⟩ hB => L.xt1 e0)
    | 12, _ => exact G.ob_val [(28, .slice none 0 0)] rfl rfl (fun _ => by kernel_rfl) (fun A w ⟨e0, _⟩ hB => L.assign e0)
    | 13, _ => exact G.ob_val [(29, .bool false)] rfl rfl (fun _ => by kernel_rfl) (fun A w ⟨e0, _⟩ hB => L.assign e0)
    | ix + 14, h => exact absurd h (by simp)
  intro f W3 hS y1 y2 hgot y3
  have b3 : Below W2.heap.size W2 W3 := (Below.refl _ W2).drew.trans hS.below
  replace hM := hM.keep b3
  replace hB := hB.trans (b3.mono hB.size)
  clear hS hgot HS ck b3 y1 y2 y3 hb1 hv
  simp only [puts, List.foldl, Act.put, List.setIfInBounds_toArray, List.set_cons_zero, List.set_cons_succ]
  go_wp2
  go_loopw [32] (fun iv wr => iv = .int .i64 0 ∧ Bk wr 27 w.heap.size #[.int .i64 0, .string ⟨#[]⟩, .int .u64 0, .int .u64 0, .bool false, .int .u64 0, .int .u64 0, .bool false, .string ⟨#[]⟩, .string ⟨#[]⟩, .string ⟨#[]⟩, .int .i64 0] ∧ Below w.heap.size w wr) (fun _ _ => 0)
  case atStart => exact ⟨rfl, hM, hB⟩
  case round =>
    clear hM hB
    obtain ⟨rfl, hMj, hBj⟩ := hrel
    have z0 : wr.cell? ⟨w.heap.size, 0, none⟩ = some (.int .i64 0) := hMj.cell (k := 0) rfl
    have f0 := hMj.frz 0
    have z1 : wr.cell? ⟨w.heap.size, 1, none⟩ = some (.string ⟨#[]⟩) := hMj.cell (k := 1) rfl
    have f1 := hMj.frz 1
    have z2 : wr.cell? ⟨w.heap.size, 2, none⟩ = some (.int .u64 0) := hMj.cell (k := 2) rfl
    have f2 := hMj.frz 2
    have z3 : wr.cell? ⟨w.heap.size, 3, none⟩ = some (.int .u64 0) := hMj.cell (k := 3) rfl
    have f3 := hMj.frz 3
    have z4 : wr.cell? ⟨w.heap.size, 4, none⟩ = some (.bool false) := hMj.cell (k := 4) rfl
    have f4 := hMj.frz 4
    have z5 : wr.cell? ⟨w.heap.size, 5, none⟩ = some (.int .u64 0) := hMj.cell (k := 5) rfl
    have f5 := hMj.frz 5
    have z6 : wr.cell? ⟨w.heap.size, 6, none⟩ = some (.int .u64 0) := hMj.cell (k := 6) rfl
    have f6 := hMj.frz 6
    have z7 : wr.cell? ⟨w.heap.size, 7, none⟩ = some (.bool false) := hMj.cell (k := 7) rfl
    have f7 := hMj.frz 7
    have z8 : wr.cell? ⟨w.heap.size, 8, none⟩ = some (.string ⟨#[]⟩) := hMj.cell (k := 8) rfl
    have f8 := hMj.frz 8
    have z9 : wr.cell? ⟨w.heap.size, 9, none⟩ = some (.string ⟨#[]⟩) := hMj.cell (k := 9) rfl
    have f9 := hMj.frz 9
    have z10 : wr.cell? ⟨w.heap.size, 10, none⟩ = some (.string ⟨#[]⟩) := hMj.cell (k := 10) rfl
    have f10 := hMj.frz 10
    have z11 : wr.cell? ⟨w.heap.size, 11, none⟩ = some (.int .i64 0) := hMj.cell (k := 11) rfl
    have f11 := hMj.frz 11
    go_wp2
    all_goals refine bodyPost_ret (v := .tuple #[.agg #[.int .i64 0, .string ⟨#[]⟩, .int .u64 0, .int .u64 0, .bool false, .int .u64 0, .int .u64 0, .bool false, .string ⟨#[]⟩, .string ⟨#[]⟩, .string ⟨#[]⟩, .int .i64 0], .bool false]) (bk_res2 (fn := Tryz.f7) (p := 2) (u := 3) (cs := #[.int .i64 0, .string ⟨#[]⟩, .int .u64 0, .int .u64 0, .bool false, .int .u64 0, .int .u64 0, .bool false, .string ⟨#[]⟩, .string ⟨#[]⟩, .string ⟨#[]⟩, .int .i64 0]) Tryz.results7 _ rfl ((((((((((((hMj.set 0 (.int .i64 0)).set 1 (.string ⟨#[]⟩)).set 2 (.int .u64 0)).set 3 (.int .u64 0)).set 4 (.bool false)).set 5 (.int .u64 0)).set 6 (.int .u64 0)).set 7 (.bool false)).set 8 (.string ⟨#[]⟩)).set 9 (.string ⟨#[]⟩)).set 10 (.string ⟨#[]⟩)).set 11 (.int .i64 0)) Tryz.underlying27 rfl (by kernel_rfl)) rfl ⟨?_, ((((((((((((hBj.setCell (p := ⟨w.heap.size, 0, none⟩) (Nat.le_refl _) (.int .i64 0)).setCell (p := ⟨w.heap.size, 1, none⟩) (Nat.le_refl _) (.string ⟨#[]⟩)).setCell (p := ⟨w.heap.size, 2, none⟩) (Nat.le_refl _) (.int .u64 0)).setCell (p := ⟨w.heap.size, 3, none⟩) (Nat.le_refl _) (.int .u64 0)).setCell (p := ⟨w.heap.size, 4, none⟩) (Nat.le_refl _) (.bool false)).setCell (p := ⟨w.heap.size, 5, none⟩) (Nat.le_refl _) (.int .u64 0)).setCell (p := ⟨w.heap.size, 6, none⟩) (Nat.le_refl _) (.int .u64 0)).setCell (p := ⟨w.heap.size, 7, none⟩) (Nat.le_refl _) (.bool false)).setCell (p := ⟨w.heap.size, 8, none⟩) (Nat.le_refl _) (.string ⟨#[]⟩)).setCell (p := ⟨w.heap.size, 9, none⟩) (Nat.le_refl _) (.string ⟨#[]⟩)).setCell (p := ⟨w.heap.size, 10, none⟩) (Nat.le_refl _) (.string ⟨#[]⟩)).setCell (p := ⟨w.heap.size, 11, none⟩) (Nat.le_refl _) (.int .i64 0))⟩
    all_goals rfl
theorem getI (s : ByteArray) (w : World) (hz : s.size ≤ maxLen) :
    Calls Tryz.prog 7 #[.string s] w fun e w' => e = .returned (.tuple #[.agg (msgL ((getM s).getD { kind := 0 })).toArray, .bool (getM s).isSome]) ∧ Below w.heap.size w w' := by
  by_cases hk : kindB (Rd.first s).m.kind = true
  · exact getI_yes s w hz hk
  · rw [Bool.not_eq_true] at hk
    have e : getM s = none := by unfold getM; rw [hk]; rfl
    rw [e]
    exact getI_no s w hz hk
end Go.Proofs.YtdaobioomoajfaaGreat
