import Derived.Test.YtjmhmajfkdglnaaGreatDoorMrg35
import Derived.Test.YtjmhmajfkdglnaaGreatDoorMrg28
import Derived.Test.YtjmhmajfkdglnaaGreatDoorMrg17
import Derived.Test.YtjmhmajfkdglnaaGreatDoorMrg30
import Derived.Test.YtjmhmajfkdglnaaGreatDoorMrg31
import Derived.Deep.QuietTactic
import Derived.BigQuiet
import Derived.Test.YtjmhmajfkdglnaaGreatDoorMrg20
set_option linter.unusedVariables false
set_option maxRecDepth 100000
set_option maxHeartbeats 16000000
namespace Go.Proofs.YtjmhmajfkdglnaaGreatDoor
open Go.RowKit
section
variable {A : Act} {w : World} {dst : Option Tmp} {ty : TypeId} {ps : String} {af : Array Edge} {gd : Option (Nat × Bool)} {x y : Operand} {b i : Nat}
theorem fa_evd0 (hx : A.eval x = .pointer (some ⟨b, i, none⟩)) :
    Does Tryz.prog { dst := dst, op := .fieldAddr 42 x 0, type := ty, pos := ps, after := af, guard := gd } A w fun v' w' => v' = .pointer (some ⟨b, i, none⟩) ∧ Below w.heap.size w w' := by
  have h : (execOp A.eval { dst := dst, op := .fieldAddr 42 x 0, type := ty, pos := ps, after := af, guard := gd }).run Tryz.prog w = .ok (.value (.pointer (some ⟨b, i, none⟩))) w := by generalize A.eval = ev at *; simp [execOp, hx, go_sem]
  exact does_value h ⟨rfl, Below.refl _ _⟩
theorem fa_evd1 (hx : A.eval x = .pointer (some ⟨b, i, none⟩)) :
    Does Tryz.prog { dst := dst, op := .fieldAddr 42 x 1, type := ty, pos := ps, after := af, guard := gd } A w fun v' w' => v' = .pointer (some ⟨b, i + 1, none⟩) ∧ Below w.heap.size w w' := by
  have h : (execOp A.eval { dst := dst, op := .fieldAddr 42 x 1, type := ty, pos := ps, after := af, guard := gd }).run Tryz.prog w = .ok (.value (.pointer (some ⟨b, i + 1, none⟩))) w := by generalize A.eval = ev at *; simp [execOp, hx, go_sem]
  exact does_value h ⟨rfl, Below.refl _ _⟩
theorem ld_evd {v0 v1 v2 : Value} (hx : A.eval x = .pointer (some ⟨b, i, none⟩)) (h0 : w.cell? ⟨b, i, none⟩ = some v0) (h1 : w.cell? ⟨b, i + 1, none⟩ = some v1) (h2 : w.cell? ⟨b, i + 2, none⟩ = some v2) :
    Does Tryz.prog { dst := dst, op := .load 42 x, type := ty, pos := ps, after := af, guard := gd } A w fun v' w' => v' = .agg #[v0, v1, v2] ∧ Below w.heap.size w w' := by
  have h : (execOp A.eval { dst := dst, op := .load 42 x, type := ty, pos := ps, after := af, guard := gd }).run Tryz.prog w = .ok (.value (.agg #[v0, v1, v2])) w := by generalize A.eval = ev at *; simp [execOp, hx, h0, h1, h2, go_sem]
  exact does_value h ⟨rfl, Below.refl _ _⟩
theorem ld_ptsl {v0 : Value} (hx : A.eval x = .pointer (some ⟨b, i, none⟩)) (h0 : w.cell? ⟨b, i, none⟩ = some v0) :
    Does Tryz.prog { dst := dst, op := .load 38 x, type := ty, pos := ps, after := af, guard := gd } A w fun v' w' => v' = v0 ∧ Below w.heap.size w w' := by
  have h : (execOp A.eval { dst := dst, op := .load 38 x, type := ty, pos := ps, after := af, guard := gd }).run Tryz.prog w = .ok (.value (v0)) w := by generalize A.eval = ev at *; simp [execOp, hx, h0, go_sem]
  exact does_value h ⟨rfl, Below.refl _ _⟩
theorem eq_ptT (hx : A.eval x = .agg #[.int .u64 0, .int .u64 0, .bool true]) (hy : A.eval y = .agg #[.int .u64 0, .int .u64 0, .bool true]) :
    Does Tryz.prog { dst := dst, op := .binOp .eql 28 x y 28, type := ty, pos := ps, after := af, guard := gd } A w fun v' w' => v' = .bool true ∧ Below w.heap.size w w' := by
  have h : (execOp A.eval { dst := dst, op := .binOp .eql 28 x y 28, type := ty, pos := ps, after := af, guard := gd }).run Tryz.prog w = .ok (.value (.bool true)) w := by generalize A.eval = ev at *; simp [execOp, hx, hy, go_sem]
  exact does_value h ⟨rfl, Below.refl _ _⟩
theorem eq_ptF {a c : Int} {d : Bool} (h : ¬ (a = 0 ∧ c = 0 ∧ d = true)) (hx : A.eval x = .agg #[.int .u64 a, .int .u64 c, .bool d]) (hy : A.eval y = .agg #[.int .u64 0, .int .u64 0, .bool true]) :
    Does Tryz.prog { dst := dst, op := .binOp .eql 28 x y 28, type := ty, pos := ps, after := af, guard := gd } A w fun v' w' => v' = .bool false ∧ Below w.heap.size w w' := by
  have h' : (execOp A.eval { dst := dst, op := .binOp .eql 28 x y 28, type := ty, pos := ps, after := af, guard := gd }).run Tryz.prog w = .ok (.value (.bool false)) w := by
    generalize A.eval = ev at *
    by_cases h1 : a = 0
    · by_cases h2 : c = 0
      · have h3 : d = false := by cases d with
          | false => rfl
          | true => exact absurd ⟨h1, h2, rfl⟩ h
        subst h1 h2 h3
        simp [execOp, hx, hy, go_sem]
      · subst h1
        simp [execOp, hx, hy, h2, go_sem]
    · simp [execOp, hx, hy, h1, go_sem]
  exact does_value h' ⟨rfl, Below.refl _ _⟩
theorem eq_intT {a : Int} (hx : A.eval x = .int .i64 a) (hy : A.eval y = .int .i64 a) :
    Does Tryz.prog { dst := dst, op := .binOp .eql 3 x y 3, type := ty, pos := ps, after := af, guard := gd } A w fun v' w' => v' = .bool true ∧ Below w.heap.size w w' := by
  have h : (execOp A.eval { dst := dst, op := .binOp .eql 3 x y 3, type := ty, pos := ps, after := af, guard := gd }).run Tryz.prog w = .ok (.value (.bool true)) w := by generalize A.eval = ev at *; simp [execOp, hx, hy, go_sem]
  exact does_value h ⟨rfl, Below.refl _ _⟩
theorem ix_pts0 {cap : Nat} (hx : A.eval x = .slice (some ⟨b, 0, none⟩) 1 cap) (hy : A.eval y = .int .i64 0) :
    Does Tryz.prog { dst := dst, op := .indexAddr 38 x y, type := ty, pos := ps, after := af, guard := gd } A w fun v' w' => v' = .pointer (some ⟨b, 0, none⟩) ∧ Below w.heap.size w w' := by
  have h : (execOp A.eval { dst := dst, op := .indexAddr 38 x y, type := ty, pos := ps, after := af, guard := gd }).run Tryz.prog w = .ok (.value (.pointer (some ⟨b, 0, none⟩))) w := by generalize A.eval = ev at *; simp [execOp, hx, hy, go_sem]
  exact does_value h ⟨rfl, Below.refl _ _⟩
end
theorem cf_spec_InvMod (args : Array Value) (w : World) : (callFunc 55 args).run Tryz.prog w = .ok (.enter 55 args) w := by kernel_rfl
theorem cf_spec_l6Output (args : Array Value) (w : World) : (callFunc 36 args).run Tryz.prog w = .ok (.enter 36 args) w := by kernel_rfl
theorem cf_spec_l3Zero (args : Array Value) (w : World) : (callFunc 41 args).run Tryz.prog w = .ok (.enter 41 args) w := by kernel_rfl
end Go.Proofs.YtjmhmajfkdglnaaGreatDoor
namespace Go.Proofs.YtjmhmajfkdglnaaGreatDoor
open Go.RowKit M
theorem rdS_of (mode blind pc ps x1 y1 x2 y2 x3 y3 xe ye : Int) (c1 c2 c3 ce k e3 ee e1 e2 R : Bool) (g n cap : Nat) (w : World)
    (hR : Hid (R = (k && e3 && decide (n = 1) && ee && !decide (2305843010818082053 ≤ pc) && !decide (2305843010818082053 ≤ ps) && e1 && (if mode = 2 then e2 else decide (x2 = 0 ∧ y2 = 0 ∧ c2 = true)))))
    (hc : Hid (n = 1 → w.cell? ⟨g, 0, none⟩ = some (.int .u64 xe) ∧ w.cell? ⟨g, 1, none⟩ = some (.int .u64 ye) ∧ w.cell? ⟨g, 2, none⟩ = some (.bool ce)))
    (K : ∀ w, Calls Tryz.prog 33 #[.int .u64 blind] w fun e w' => e = .returned (.bool k) ∧ w = w')
    (E3 : ∀ w, Calls Tryz.prog 40 #[.agg #[.int .u64 x3, .int .u64 y3, .bool c3]] w fun e w' => e = .returned (.bool e3) ∧ Below w.heap.size w w')
    (EE : ∀ w, Calls Tryz.prog 40 #[.agg #[.int .u64 xe, .int .u64 ye, .bool ce]] w fun e w' => e = .returned (.bool ee) ∧ Below w.heap.size w w')
    (E1 : ∀ w, Calls Tryz.prog 40 #[.agg #[.int .u64 x1, .int .u64 y1, .bool c1]] w fun e w' => e = .returned (.bool e1) ∧ Below w.heap.size w w')
    (E2 : ∀ w, Calls Tryz.prog 40 #[.agg #[.int .u64 x2, .int .u64 y2, .bool c2]] w fun e w' => e = .returned (.bool e2) ∧ Below w.heap.size w w') :
    Calls Tryz.prog 53 #[.int .i64 mode, .int .u64 blind, .agg #[.slice (some ⟨g, 0, none⟩) n cap, .int .u64 pc, .int .u64 ps], .agg #[.int .u64 x1, .int .u64 y1, .bool c1, .int .u64 x2, .int .u64 y2, .bool c2], .agg #[.int .u64 x3, .int .u64 y3, .bool c3]] w fun e w' => e = .returned (.bool R) ∧ Below w.heap.size w w' := by
  obtain ⟨X, hX⟩ : ∃ X, X = ((w.alloc (Obj.cells #[.slice (some ⟨g, 0, none⟩) n cap, .int .u64 pc, .int .u64 ps] 42)).alloc (Obj.cells #[.int .u64 x1, .int .u64 y1, .bool c1, .int .u64 x2, .int .u64 y2, .bool c2] 30)).alloc (Obj.cells #[.int .u64 x3, .int .u64 y3, .bool c3] 28) := ⟨_, rfl⟩
  have rE : Bk X 42 w.heap.size #[.slice (some ⟨g, 0, none⟩) n cap, .int .u64 pc, .int .u64 ps] := by rw [hX]; exact ((Bk.new _ _ _).alloc _).alloc _
  have rB : Bk X 30 (w.heap.size + 1) #[.int .u64 x1, .int .u64 y1, .bool c1, .int .u64 x2, .int .u64 y2, .bool c2] := by rw [hX]; exact ((Bk.new _ _ _).at (by simp)).alloc _
  have rP : Bk X 28 (w.heap.size + 1 + 1) #[.int .u64 x3, .int .u64 y3, .bool c3] := by rw [hX]; exact (Bk.new _ _ _).at (by simp)
  have hb : Below w.heap.size w X := by rw [hX]; exact (((Below.refl _ w).alloc (Nat.le_refl _) _).alloc (by simp) _).alloc (by simp; omega) _
  rw [hX] at rE rB rP hb
  clear hX
  go_enter Tryz.func53, Tryz.ntmps53
  go_wp2_with fail
  refine (K _).mono ?_
  rintro e w1 ⟨rfl, rfl⟩
  clear K
  cases k with
  | false =>
    go_wp2
    go_ret
    exact ⟨by rw [hR.out]; rfl, hb⟩
  | true =>
  have p0 := rP.cell (k := 0) rfl
  have p1 := rP.cell (k := 1) rfl
  have p2 := rP.cell (k := 2) rfl
  go_wp2_with fail
  refine (E3 _).mono ?_
  rintro e w2 ⟨rfl, b1⟩
  replace rE := rE.keep b1
  replace rB := rB.keep b1
  replace hb := hb.trans (b1.mono hb.size)
  clear E3 p0 p1 p2 b1 rP
  cases e3 with
  | false =>
    go_wp2
    go_ret
    exact ⟨by rw [hR.out]; rfl, hb⟩
  | true =>
  have p0 := rE.cell (k := 0) rfl
  by_cases hn : n = 1
  case neg =>
    have hn' : ((n : Int) != 1) = true := by simp; omega
    go_wp2
    go_ret
    exact ⟨by rw [hR.out, decide_eq_false hn]; rfl, hb⟩
  subst hn
  obtain ⟨c0, c1', c2'⟩ := hc.out rfl
  have d0 := (hb.cell (p := ⟨g, 0, none⟩) (World.block_lt_of_cell? w _ c0)).trans c0
  have d1 := (hb.cell (p := ⟨g, 1, none⟩) (World.block_lt_of_cell? w _ c1')).trans c1'
  have d2 := (hb.cell (p := ⟨g, 2, none⟩) (World.block_lt_of_cell? w _ c2')).trans c2'
  clear c0 c1' c2' hc
  go_wp2_with fail
  refine (EE _).mono ?_
  rintro e w3 ⟨rfl, b1⟩
  replace rE := rE.keep b1
  replace rB := rB.keep b1
  replace hb := hb.trans (b1.mono hb.size)
  clear EE p0 d0 d1 d2 b1
  cases ee with
  | false =>
    go_wp2
    go_ret
    exact ⟨by rw [hR.out]; rfl, hb⟩
  | true =>
  have p1 := rE.cell (k := 1) rfl
  have p2 := rE.cell (k := 2) rfl
  have q0 := rB.cell (k := 0) rfl
  have q1 := rB.cell (k := 1) rfl
  have q2 := rB.cell (k := 2) rfl
  by_cases hpc : 2305843010818082053 ≤ pc
  · go_wp2
    go_ret
    exact ⟨by rw [hR.out, decide_eq_true hpc]; rfl, hb⟩
  by_cases hps : 2305843010818082053 ≤ ps
  · go_wp2
    go_ret
    exact ⟨by rw [hR.out, decide_eq_true hps]; simp, hb⟩
  go_wp2_with fail
  refine (E1 _).mono ?_
  rintro e w4 ⟨rfl, b1⟩
  replace rB := rB.keep b1
  replace hb := hb.trans (b1.mono hb.size)
  clear E1 p1 p2 q0 q1 q2 b1 rE
  cases e1 with
  | false =>
    go_wp2
    go_ret
    exact ⟨by rw [hR.out]; simp, hb⟩
  | true =>
  rw [decide_eq_false (show ¬ 2305843010818082053 ≤ pc by omega), decide_eq_false (show ¬ 2305843010818082053 ≤ ps by omega)] at hR
  have r0 := rB.cell (k := 3) rfl
  have r1 := rB.cell (k := 4) rfl
  have r2 := rB.cell (k := 5) rfl
  by_cases hm : mode = 2
  · subst hm
    go_wp2_with fail
    refine (E2 _).mono ?_
    rintro e w5 ⟨rfl, b1⟩
    replace hb := hb.trans (b1.mono hb.size)
    clear E2 b1 r0 r1 r2
    go_wp2
    go_ret
    exact ⟨by rw [hR.out]; simp, hb⟩
  have hm' : (mode == 2) = false := by simpa using hm
  go_wp2
  clear r0 r1 r2 hm'
  have k0 : w4.drew.cell? ⟨w.heap.size + 1, 3, none⟩ = _ := rB.cell (k := 3) rfl
  have k1 : w4.drew.cell? ⟨w.heap.size + 1, 4, none⟩ = _ := rB.cell (k := 4) rfl
  have k2 : w4.drew.cell? ⟨w.heap.size + 1, 5, none⟩ = _ := rB.cell (k := 5) rfl
  rw [if_neg hm] at hR
  by_cases ht : x2 = 0 ∧ y2 = 0 ∧ c2 = true
  · obtain ⟨rfl, rfl, rfl⟩ := ht
    refine G.pool_list (W := w4) [] [.val (.pointer (some ⟨w.heap.size + 1, 3, none⟩)),
        .val (.agg #[.int .u64 0, .int .u64 0, .bool true]),
        .val (.agg #[.int .u64 0, .int .u64 0, .bool true]),
        .val (.bool true),
        .val (.bool true)] [[8], [56], [], [57, 58], [59]] (fun f => [(some 56, .pointer (some ⟨w.heap.size + 1, 3, none⟩)), (some 57, .agg #[.int .u64 0, .int .u64 0, .bool true]), (some 58, .agg #[.int .u64 0, .int .u64 0, .bool true]), (some 59, .bool true), (some 10, .bool true)]) (by kernel_rfl) (by kernel_rfl) (by kernel_rfl) (by kernel_rfl) (fun _ => by kernel_rfl) (G.last_of [] (fun F R hm => by simp at hm) (fun ob ob' k hm => by simp at hm) (fun b ob ob' hm => by simp at hm)) (fun b ob ob' hm => by simp at hm) ?_ ?_
    · intro ix hix
      match ix, hix with
      | 0, _ => exact G.ob_val [(8, .pointer (some ⟨w.heap.size + 1, 0, none⟩))] rfl rfl (fun _ => by kernel_rfl) (fun A w ⟨e0, _⟩ hB => fa_bld1 e0)
      | 1, _ => exact G.ob_val [(56, .pointer (some ⟨w.heap.size + 1, 3, none⟩))] rfl rfl (fun _ => by kernel_rfl) (fun A w ⟨e0, _⟩ hB => ld_pt e0 (hB.cell k0 (by simp)) (hB.cell k1 (by simp)) (hB.cell k2 (by simp)))
      | 2, _ => exact G.ob_val [] rfl rfl (fun _ => by kernel_rfl) (fun A w _ hB => cl0 cf_spec_l3Zero  (zroS w))
      | 3, _ => exact G.ob_val [(57, .agg #[.int .u64 0, .int .u64 0, .bool true]), (58, .agg #[.int .u64 0, .int .u64 0, .bool true])] rfl rfl (fun _ => by kernel_rfl) (fun A w ⟨e0, e1, _⟩ hB => eq_ptT e0 e1)
      | 4, _ => exact G.ob_val [(59, .bool true)] rfl rfl (fun _ => by kernel_rfl) (fun A w ⟨e0, _⟩ hB => doV_assign e0)
      | ix + 5, h => exact absurd h (by simp)
    intro f W5 hS _ _ _ _
    replace hb := hb.drew.trans (hS.below.mono hb.size)
    clear hS k0 k1 k2
    simp only [puts, List.foldl, Act.put, List.setIfInBounds_toArray, List.set_cons_zero, List.set_cons_succ]
    go_wp2
    go_ret
    exact ⟨by rw [hR.out]; simp, hb⟩
  refine G.pool_list (W := w4) [] [.val (.pointer (some ⟨w.heap.size + 1, 3, none⟩)),
      .val (.agg #[.int .u64 x2, .int .u64 y2, .bool c2]),
      .val (.agg #[.int .u64 0, .int .u64 0, .bool true]),
      .val (.bool false),
      .val (.bool false)] [[8], [56], [], [57, 58], [59]] (fun f => [(some 56, .pointer (some ⟨w.heap.size + 1, 3, none⟩)), (some 57, .agg #[.int .u64 x2, .int .u64 y2, .bool c2]), (some 58, .agg #[.int .u64 0, .int .u64 0, .bool true]), (some 59, .bool false), (some 10, .bool false)]) (by kernel_rfl) (by kernel_rfl) (by kernel_rfl) (by kernel_rfl) (fun _ => by kernel_rfl) (G.last_of [] (fun F R hm => by simp at hm) (fun ob ob' k hm => by simp at hm) (fun b ob ob' hm => by simp at hm)) (fun b ob ob' hm => by simp at hm) ?_ ?_
  · intro ix hix
    match ix, hix with
    | 0, _ => exact G.ob_val [(8, .pointer (some ⟨w.heap.size + 1, 0, none⟩))] rfl rfl (fun _ => by kernel_rfl) (fun A w ⟨e0, _⟩ hB => fa_bld1 e0)
    | 1, _ => exact G.ob_val [(56, .pointer (some ⟨w.heap.size + 1, 3, none⟩))] rfl rfl (fun _ => by kernel_rfl) (fun A w ⟨e0, _⟩ hB => ld_pt e0 (hB.cell k0 (by simp)) (hB.cell k1 (by simp)) (hB.cell k2 (by simp)))
    | 2, _ => exact G.ob_val [] rfl rfl (fun _ => by kernel_rfl) (fun A w _ hB => cl0 cf_spec_l3Zero  (zroS w))
    | 3, _ => exact G.ob_val [(57, .agg #[.int .u64 x2, .int .u64 y2, .bool c2]), (58, .agg #[.int .u64 0, .int .u64 0, .bool true])] rfl rfl (fun _ => by kernel_rfl) (fun A w ⟨e0, e1, _⟩ hB => eq_ptF ht e0 e1)
    | 4, _ => exact G.ob_val [(59, .bool false)] rfl rfl (fun _ => by kernel_rfl) (fun A w ⟨e0, _⟩ hB => doV_assign e0)
    | ix + 5, h => exact absurd h (by simp)
  intro f W5 hS _ _ _ _
  replace hb := hb.drew.trans (hS.below.mono hb.size)
  clear hS k0 k1 k2
  simp only [puts, List.foldl, Act.put, List.setIfInBounds_toArray, List.set_cons_zero, List.set_cons_succ]
  go_wp2
  go_ret
  exact ⟨by rw [hR.out, decide_eq_false ht]; simp, hb⟩
theorem fnS_a (mode blind pc ps x1 y1 x2 y2 x3 y3 : Int) (c1 c2 c3 : Bool) (input info : ByteArray) (g n cap : Nat) (w : World)
    (T : ∀ w, Calls Tryz.prog 32 #[.int .i64 mode, .string input, .string info] w fun e w' => e = .returned (.bool false) ∧ w = w') :
    Calls Tryz.prog 24 #[.int .i64 mode, .string input, .string info, .int .u64 blind, .agg #[.slice (some ⟨g, 0, none⟩) n cap, .int .u64 pc, .int .u64 ps], .agg #[.int .u64 x1, .int .u64 y1, .bool c1, .int .u64 x2, .int .u64 y2, .bool c2], .agg #[.int .u64 x3, .int .u64 y3, .bool c3]] w fun e w' => e = .returned (.tuple #[.string ⟨#[]⟩, .int .i64 1]) ∧ Below w.heap.size w w' := by
  obtain ⟨X, hX⟩ : ∃ X, X = ((w.alloc (Obj.cells #[.slice (some ⟨g, 0, none⟩) n cap, .int .u64 pc, .int .u64 ps] 42)).alloc (Obj.cells #[.int .u64 x1, .int .u64 y1, .bool c1, .int .u64 x2, .int .u64 y2, .bool c2] 30)).alloc (Obj.cells #[.int .u64 x3, .int .u64 y3, .bool c3] 28) := ⟨_, rfl⟩
  have rE : Bk X 42 w.heap.size #[.slice (some ⟨g, 0, none⟩) n cap, .int .u64 pc, .int .u64 ps] := by rw [hX]; exact ((Bk.new _ _ _).alloc _).alloc _
  have rB : Bk X 30 (w.heap.size + 1) #[.int .u64 x1, .int .u64 y1, .bool c1, .int .u64 x2, .int .u64 y2, .bool c2] := by rw [hX]; exact ((Bk.new _ _ _).at (by simp)).alloc _
  have rP : Bk X 28 (w.heap.size + 1 + 1) #[.int .u64 x3, .int .u64 y3, .bool c3] := by rw [hX]; exact (Bk.new _ _ _).at (by simp)
  have hb : Below w.heap.size w X := by rw [hX]; exact (((Below.refl _ w).alloc (Nat.le_refl _) _).alloc (by simp) _).alloc (by simp; omega) _
  rw [hX] at rE rB rP hb
  clear hX
  go_enter Tryz.func24, Tryz.ntmps24
  go_wp2_with fail
  refine (T _).mono ?_
  rintro e w' ⟨rfl, rfl⟩
  clear T
  go_wp2
  go_ret2
  exact ⟨rfl, hb⟩
theorem fnS_b (mode blind pc ps x1 y1 x2 y2 x3 y3 : Int) (c1 c2 c3 : Bool) (input info : ByteArray) (g n cap : Nat) (w : World)
    (T : ∀ w, Calls Tryz.prog 32 #[.int .i64 mode, .string input, .string info] w fun e w' => e = .returned (.bool true) ∧ w = w')
    (RD : (∀ w', Below w.heap.size w w' → Calls Tryz.prog 53 #[.int .i64 mode, .int .u64 blind, .agg #[.slice (some ⟨g, 0, none⟩) n cap, .int .u64 pc, .int .u64 ps], .agg #[.int .u64 x1, .int .u64 y1, .bool c1, .int .u64 x2, .int .u64 y2, .bool c2], .agg #[.int .u64 x3, .int .u64 y3, .bool c3]] w' fun e w'' => e = .returned (.bool false) ∧ Below w'.heap.size w' w'')) :
    Calls Tryz.prog 24 #[.int .i64 mode, .string input, .string info, .int .u64 blind, .agg #[.slice (some ⟨g, 0, none⟩) n cap, .int .u64 pc, .int .u64 ps], .agg #[.int .u64 x1, .int .u64 y1, .bool c1, .int .u64 x2, .int .u64 y2, .bool c2], .agg #[.int .u64 x3, .int .u64 y3, .bool c3]] w fun e w' => e = .returned (.tuple #[.string ⟨#[]⟩, .int .i64 1]) ∧ Below w.heap.size w w' := by
  obtain ⟨X, hX⟩ : ∃ X, X = ((w.alloc (Obj.cells #[.slice (some ⟨g, 0, none⟩) n cap, .int .u64 pc, .int .u64 ps] 42)).alloc (Obj.cells #[.int .u64 x1, .int .u64 y1, .bool c1, .int .u64 x2, .int .u64 y2, .bool c2] 30)).alloc (Obj.cells #[.int .u64 x3, .int .u64 y3, .bool c3] 28) := ⟨_, rfl⟩
  have rE : Bk X 42 w.heap.size #[.slice (some ⟨g, 0, none⟩) n cap, .int .u64 pc, .int .u64 ps] := by rw [hX]; exact ((Bk.new _ _ _).alloc _).alloc _
  have rB : Bk X 30 (w.heap.size + 1) #[.int .u64 x1, .int .u64 y1, .bool c1, .int .u64 x2, .int .u64 y2, .bool c2] := by rw [hX]; exact ((Bk.new _ _ _).at (by simp)).alloc _
  have rP : Bk X 28 (w.heap.size + 1 + 1) #[.int .u64 x3, .int .u64 y3, .bool c3] := by rw [hX]; exact (Bk.new _ _ _).at (by simp)
  have hb : Below w.heap.size w X := by rw [hX]; exact (((Below.refl _ w).alloc (Nat.le_refl _) _).alloc (by simp) _).alloc (by simp; omega) _
  rw [hX] at rE rB rP hb
  clear hX
  go_enter Tryz.func24, Tryz.ntmps24
  go_wp2_with fail
  refine (T _).mono ?_
  rintro e w' ⟨rfl, rfl⟩
  clear T
  have rEc0 := rE.cell (k := 0) rfl
  have rEc1 := rE.cell (k := 1) rfl
  have rEc2 := rE.cell (k := 2) rfl
  have rBc0 := rB.cell (k := 0) rfl
  have rBc1 := rB.cell (k := 1) rfl
  have rBc2 := rB.cell (k := 2) rfl
  have rBc3 := rB.cell (k := 3) rfl
  have rBc4 := rB.cell (k := 4) rfl
  have rBc5 := rB.cell (k := 5) rfl
  have rPc0 := rP.cell (k := 0) rfl
  have rPc1 := rP.cell (k := 1) rfl
  have rPc2 := rP.cell (k := 2) rfl
  go_wp2_with fail
  refine (RD _ hb).mono ?_
  rintro e w1 ⟨rfl, b1⟩
  replace hb := hb.trans (b1.mono hb.size)
  clear RD b1 rEc0 rEc1 rEc2 rBc0 rBc1 rBc2 rBc3 rBc4 rBc5 rPc0 rPc1 rPc2
  go_wp2
  go_ret2
  exact ⟨rfl, hb⟩
theorem fnS_0 (mode blind pc ps x1 y1 x2 y2 x3 y3 iv xe ye : Int) (c1 c2 c3 ce : Bool) (input info R : ByteArray) (g cap : Nat) (u : Pt) (w : World)
    (hm1 : (mode == 1) = false) (hm2 : (mode == 2) = false)
    (T : ∀ w, Calls Tryz.prog 32 #[.int .i64 mode, .string input, .string info] w fun e w' => e = .returned (.bool true) ∧ w = w')
    (RD : (∀ w', Below w.heap.size w w' → Calls Tryz.prog 53 #[.int .i64 mode, .int .u64 blind, .agg #[.slice (some ⟨g, 0, none⟩) 1 cap, .int .u64 pc, .int .u64 ps], .agg #[.int .u64 x1, .int .u64 y1, .bool c1, .int .u64 x2, .int .u64 y2, .bool c2], .agg #[.int .u64 x3, .int .u64 y3, .bool c3]] w' fun e w'' => e = .returned (.bool true) ∧ Below w'.heap.size w' w''))
    (h0 : w.cell? ⟨g, 0, none⟩ = some (.int .u64 xe)) (h1 : w.cell? ⟨g, 1, none⟩ = some (.int .u64 ye)) (h2 : w.cell? ⟨g, 2, none⟩ = some (.bool ce))
    (IV : (∀ w', Calls Tryz.prog 55 #[.int .u64 blind, .int .u64 2305843010818082053] w' fun e w'' => e = .returned (.int .u64 iv) ∧ Below w'.heap.size w' w''))
    (TM : (∀ w', Calls Tryz.prog 37 #[.int .u64 iv, .agg #[.int .u64 xe, .int .u64 ye, .bool ce]] w' fun e w'' => e = .returned (.agg #[.int .u64 (px u), .int .u64 (py u), .bool (pb u)]) ∧ Below w'.heap.size w' w''))
    (OU : (∀ w', Calls Tryz.prog 36 #[.int .i64 mode, .string input, .string info, .agg #[.int .u64 (px u), .int .u64 (py u), .bool (pb u)]] w' fun e w'' => e = .returned (.string R) ∧ Below w'.heap.size w' w'')) :
    Calls Tryz.prog 24 #[.int .i64 mode, .string input, .string info, .int .u64 blind, .agg #[.slice (some ⟨g, 0, none⟩) 1 cap, .int .u64 pc, .int .u64 ps], .agg #[.int .u64 x1, .int .u64 y1, .bool c1, .int .u64 x2, .int .u64 y2, .bool c2], .agg #[.int .u64 x3, .int .u64 y3, .bool c3]] w fun e w' => e = .returned (.tuple #[.string R, .int .i64 0]) ∧ Below w.heap.size w w' := by
  obtain ⟨X, hX⟩ : ∃ X, X = ((w.alloc (Obj.cells #[.slice (some ⟨g, 0, none⟩) 1 cap, .int .u64 pc, .int .u64 ps] 42)).alloc (Obj.cells #[.int .u64 x1, .int .u64 y1, .bool c1, .int .u64 x2, .int .u64 y2, .bool c2] 30)).alloc (Obj.cells #[.int .u64 x3, .int .u64 y3, .bool c3] 28) := ⟨_, rfl⟩
  have rE : Bk X 42 w.heap.size #[.slice (some ⟨g, 0, none⟩) 1 cap, .int .u64 pc, .int .u64 ps] := by rw [hX]; exact ((Bk.new _ _ _).alloc _).alloc _
  have rB : Bk X 30 (w.heap.size + 1) #[.int .u64 x1, .int .u64 y1, .bool c1, .int .u64 x2, .int .u64 y2, .bool c2] := by rw [hX]; exact ((Bk.new _ _ _).at (by simp)).alloc _
  have rP : Bk X 28 (w.heap.size + 1 + 1) #[.int .u64 x3, .int .u64 y3, .bool c3] := by rw [hX]; exact (Bk.new _ _ _).at (by simp)
  have hb : Below w.heap.size w X := by rw [hX]; exact (((Below.refl _ w).alloc (Nat.le_refl _) _).alloc (by simp) _).alloc (by simp; omega) _
  rw [hX] at rE rB rP hb
  clear hX
  go_enter Tryz.func24, Tryz.ntmps24
  go_wp2_with fail
  refine (T _).mono ?_
  rintro e w' ⟨rfl, rfl⟩
  clear T
  have rEc0 := rE.cell (k := 0) rfl
  have rEc1 := rE.cell (k := 1) rfl
  have rEc2 := rE.cell (k := 2) rfl
  have rBc0 := rB.cell (k := 0) rfl
  have rBc1 := rB.cell (k := 1) rfl
  have rBc2 := rB.cell (k := 2) rfl
  have rBc3 := rB.cell (k := 3) rfl
  have rBc4 := rB.cell (k := 4) rfl
  have rBc5 := rB.cell (k := 5) rfl
  have rPc0 := rP.cell (k := 0) rfl
  have rPc1 := rP.cell (k := 1) rfl
  have rPc2 := rP.cell (k := 2) rfl
  go_wp2_with fail
  refine (RD _ hb).mono ?_
  rintro e w1 ⟨rfl, b1⟩
  have hal := (Below.refl _ w1).alloc (Nat.le_refl _) (Obj.cells #[.int .u64 x1, .int .u64 y1, .bool c1] 28)
  have rO := Bk.new w1 28 #[.int .u64 x1, .int .u64 y1, .bool c1]
  replace rE := rE.keep b1
  replace rB := rB.keep b1
  replace rP := rP.keep b1
  replace hb := hb.trans (b1.mono hb.size)
  clear RD b1 rEc0 rEc1 rEc2 rBc0 rBc1 rBc2 rBc3 rBc4 rBc5 rPc0 rPc1 rPc2
  have rBc0 := rB.cell (k := 0) rfl
  have rBc1 := rB.cell (k := 1) rfl
  have rBc2 := rB.cell (k := 2) rfl
  go_wp2
  clear rBc0 rBc1 rBc2
  replace rE := rE.keep hal
  replace rB := rB.keep hal
  replace rP := rP.keep hal
  replace hb := hb.trans (hal.mono hb.size)
  clear hal
  generalize w1.heap.size = H1 at *
  generalize w1.alloc _ = W1 at *
  go_quiet (fail)
  replace rE : Bk (W1.drewN nq) _ _ _ := rE
  replace rB : Bk (W1.drewN nq) _ _ _ := rB
  replace rP : Bk (W1.drewN nq) _ _ _ := rP
  replace rO : Bk (W1.drewN nq) _ _ _ := rO
  replace hb : Below w.heap.size w (W1.drewN nq) := ⟨hb.os, hb.tape, hb.output, hb.size, hb.block⟩
  generalize W1.drewN nq = W2 at *
  go_wp2
  go_quiet (fail)
  replace rE : Bk (W2.drewN nq) _ _ _ := rE
  replace rB : Bk (W2.drewN nq) _ _ _ := rB
  replace rP : Bk (W2.drewN nq) _ _ _ := rP
  replace rO : Bk (W2.drewN nq) _ _ _ := rO
  replace hb : Below w.heap.size w (W2.drewN nq) := ⟨hb.os, hb.tape, hb.output, hb.size, hb.block⟩
  generalize W2.drewN nq = W3 at *
  go_wp2
  have m0 : W3.drew.cell? ⟨w.heap.size, 0, none⟩ = _ := rE.cell (k := 0) rfl
  have m1 : W3.drew.cell? ⟨w.heap.size, 1, none⟩ = _ := rE.cell (k := 1) rfl
  have m2 : W3.drew.cell? ⟨w.heap.size, 2, none⟩ = _ := rE.cell (k := 2) rfl
  have n0 : W3.drew.cell? ⟨g, 0, none⟩ = _ := (hb.drew.cell (p := ⟨g, 0, none⟩) (World.block_lt_of_cell? w _ h0)).trans h0
  have n1 : W3.drew.cell? ⟨g, 1, none⟩ = _ := (hb.drew.cell (p := ⟨g, 1, none⟩) (World.block_lt_of_cell? w _ h1)).trans h1
  have n2 : W3.drew.cell? ⟨g, 2, none⟩ = _ := (hb.drew.cell (p := ⟨g, 2, none⟩) (World.block_lt_of_cell? w _ h2)).trans h2
  refine G.pool_list (W := W3) [] [.val (.int .i64 mode),
      .val (.string input),
      .val (.string info),
      .val (.int .u64 blind),
      .val (.int .u64 iv),
      .val (.pointer (some ⟨w.heap.size, 0, none⟩)),
      .val (.slice (some ⟨g, 0, none⟩) 1 cap),
      .val (.pointer (some ⟨g, 0, none⟩)),
      .val (.agg #[.int .u64 xe, .int .u64 ye, .bool ce]),
      .val (.agg #[.int .u64 (px u), .int .u64 (py u), .bool (pb u)]),
      .val (.string R),
      .val (.string R),
      .val (.int .i64 0)] [[0], [1], [2], [3], [66], [11], [68], [69], [70], [67, 71], [63, 64, 65, 72], [73], []] (fun f => [(some 63, .int .i64 mode), (some 64, .string input), (some 65, .string info), (some 66, .int .u64 blind), (some 67, .int .u64 iv), (some 68, .pointer (some ⟨w.heap.size, 0, none⟩)), (some 69, .slice (some ⟨g, 0, none⟩) 1 cap), (some 70, .pointer (some ⟨g, 0, none⟩)), (some 71, .agg #[.int .u64 xe, .int .u64 ye, .bool ce]), (some 72, .agg #[.int .u64 (px u), .int .u64 (py u), .bool (pb u)]), (some 73, .string R), (some 14, .string R), (some 15, .int .i64 0)]) (by kernel_rfl) (by kernel_rfl) (by kernel_rfl) (by kernel_rfl) (fun _ => by kernel_rfl) (G.last_of [] (fun F R hm => by simp at hm) (fun ob ob' k hm => by simp at hm) (fun b ob ob' hm => by simp at hm)) (fun b ob ob' hm => by simp at hm) ?_ ?_
  · intro ix hix
    match ix, hix with
    | 0, _ => exact G.ob_val [(0, .int .i64 mode)] rfl rfl (fun _ => by kernel_rfl) (fun A w ⟨e0, _⟩ hB => doV_move e0)
    | 1, _ => exact G.ob_val [(1, .string input)] rfl rfl (fun _ => by kernel_rfl) (fun A w ⟨e0, _⟩ hB => doV_move e0)
    | 2, _ => exact G.ob_val [(2, .string info)] rfl rfl (fun _ => by kernel_rfl) (fun A w ⟨e0, _⟩ hB => doV_move e0)
    | 3, _ => exact G.ob_val [(3, .int .u64 blind)] rfl rfl (fun _ => by kernel_rfl) (fun A w ⟨e0, _⟩ hB => doV_move e0)
    | 4, _ => exact G.ob_val [(66, .int .u64 blind)] rfl rfl (fun _ => by kernel_rfl) (fun A w ⟨e0, _⟩ hB => cl2 cf_spec_InvMod e0 rfl (IV w))
    | 5, _ => exact G.ob_val [(11, .pointer (some ⟨w.heap.size, 0, none⟩))] rfl rfl (fun _ => by kernel_rfl) (fun A w ⟨e0, _⟩ hB => fa_evd0 e0)
    | 6, _ => exact G.ob_val [(68, .pointer (some ⟨w.heap.size, 0, none⟩))] rfl rfl (fun _ => by kernel_rfl) (fun A w ⟨e0, _⟩ hB => ld_ptsl e0 (hB.cell m0 (by simp)))
    | 7, _ => exact G.ob_val [(69, .slice (some ⟨g, 0, none⟩) 1 cap)] rfl rfl (fun _ => by kernel_rfl) (fun A w ⟨e0, _⟩ hB => ix_pts0 e0 rfl)
    | 8, _ => exact G.ob_val [(70, .pointer (some ⟨g, 0, none⟩))] rfl rfl (fun _ => by kernel_rfl) (fun A w ⟨e0, _⟩ hB => ld_pt e0 (hB.cell n0 (by simp)) (hB.cell n1 (by simp)) (hB.cell n2 (by simp)))
    | 9, _ => exact G.ob_val [(67, .int .u64 iv), (71, .agg #[.int .u64 xe, .int .u64 ye, .bool ce])] rfl rfl (fun _ => by kernel_rfl) (fun A w ⟨e0, e1, _⟩ hB => cl2 cf_spec_Times e0 e1 (TM w))
    | 10, _ => exact G.ob_val [(63, .int .i64 mode), (64, .string input), (65, .string info), (72, .agg #[.int .u64 (px u), .int .u64 (py u), .bool (pb u)])] rfl rfl (fun _ => by kernel_rfl) (fun A w ⟨e0, e1, e2, e3, _⟩ hB => cl4 cf_spec_l6Output e0 e1 e2 e3 (OU w))
    | 11, _ => exact G.ob_val [(73, .string R)] rfl rfl (fun _ => by kernel_rfl) (fun A w ⟨e0, _⟩ hB => doV_assign e0)
    | 12, _ => exact G.ob_val [] rfl rfl (fun _ => by kernel_rfl) (fun A w _ hB => doV_assign rfl)
    | ix + 13, h => exact absurd h (by simp)
  intro f W4 hS _ _ _ _
  replace hb := hb.drew.trans (hS.below.mono hb.size)
  clear hS m0 m1 m2 n0 n1 n2
  simp only [puts, List.foldl, Act.put, List.setIfInBounds_toArray, List.set_cons_zero, List.set_cons_succ]
  go_wp2
  go_ret2
  exact ⟨rfl, hb⟩
theorem fnS_1 (blind pc ps x1 y1 x2 y2 x3 y3 iv xe ye : Int) (c1 c2 c3 ce ok : Bool) (input info R : ByteArray) (g cap : Nat) (u : Pt) (w : World)
    (T : ∀ w, Calls Tryz.prog 32 #[.int .i64 1, .string input, .string info] w fun e w' => e = .returned (.bool true) ∧ w = w')
    (RD : (∀ w', Below w.heap.size w w' → Calls Tryz.prog 53 #[.int .i64 1, .int .u64 blind, .agg #[.slice (some ⟨g, 0, none⟩) 1 cap, .int .u64 pc, .int .u64 ps], .agg #[.int .u64 x1, .int .u64 y1, .bool c1, .int .u64 x2, .int .u64 y2, .bool c2], .agg #[.int .u64 x3, .int .u64 y3, .bool c3]] w' fun e w'' => e = .returned (.bool true) ∧ Below w'.heap.size w' w''))
    (h0 : w.cell? ⟨g, 0, none⟩ = some (.int .u64 xe)) (h1 : w.cell? ⟨g, 1, none⟩ = some (.int .u64 ye)) (h2 : w.cell? ⟨g, 2, none⟩ = some (.bool ce))
    (IV : (∀ w', Calls Tryz.prog 55 #[.int .u64 blind, .int .u64 2305843010818082053] w' fun e w'' => e = .returned (.int .u64 iv) ∧ Below w'.heap.size w' w''))
    (TM : (∀ w', Calls Tryz.prog 37 #[.int .u64 iv, .agg #[.int .u64 xe, .int .u64 ye, .bool ce]] w' fun e w'' => e = .returned (.agg #[.int .u64 (px u), .int .u64 (py u), .bool (pb u)]) ∧ Below w'.heap.size w' w''))
    (OU : (∀ w', Calls Tryz.prog 36 #[.int .i64 1, .string input, .string info, .agg #[.int .u64 (px u), .int .u64 (py u), .bool (pb u)]] w' fun e w'' => e = .returned (.string R) ∧ Below w'.heap.size w' w''))
    (CK : (∀ w' h, Below w.heap.size w w' → Bk w' 28 h #[.int .u64 x1, .int .u64 y1, .bool c1] → Calls Tryz.prog 54 #[.int .i64 1, .agg #[.int .u64 (px gG), .int .u64 (py gG), .bool (pb gG)], .agg #[.int .u64 x3, .int .u64 y3, .bool c3], .slice (some ⟨h, 0, none⟩) 1 1, .slice (some ⟨g, 0, none⟩) 1 cap, .agg #[.int .u64 pc, .int .u64 ps]] w' fun e w'' => e = .returned (.bool ok) ∧ Below w'.heap.size w' w'')) :
    Calls Tryz.prog 24 #[.int .i64 1, .string input, .string info, .int .u64 blind, .agg #[.slice (some ⟨g, 0, none⟩) 1 cap, .int .u64 pc, .int .u64 ps], .agg #[.int .u64 x1, .int .u64 y1, .bool c1, .int .u64 x2, .int .u64 y2, .bool c2], .agg #[.int .u64 x3, .int .u64 y3, .bool c3]] w fun e w' => e = .returned (if ok = true then .tuple #[.string R, .int .i64 0] else .tuple #[.string ⟨#[]⟩, .int .i64 4]) ∧ Below w.heap.size w w' := by
  obtain ⟨X, hX⟩ : ∃ X, X = ((w.alloc (Obj.cells #[.slice (some ⟨g, 0, none⟩) 1 cap, .int .u64 pc, .int .u64 ps] 42)).alloc (Obj.cells #[.int .u64 x1, .int .u64 y1, .bool c1, .int .u64 x2, .int .u64 y2, .bool c2] 30)).alloc (Obj.cells #[.int .u64 x3, .int .u64 y3, .bool c3] 28) := ⟨_, rfl⟩
  have rE : Bk X 42 w.heap.size #[.slice (some ⟨g, 0, none⟩) 1 cap, .int .u64 pc, .int .u64 ps] := by rw [hX]; exact ((Bk.new _ _ _).alloc _).alloc _
  have rB : Bk X 30 (w.heap.size + 1) #[.int .u64 x1, .int .u64 y1, .bool c1, .int .u64 x2, .int .u64 y2, .bool c2] := by rw [hX]; exact ((Bk.new _ _ _).at (by simp)).alloc _
  have rP : Bk X 28 (w.heap.size + 1 + 1) #[.int .u64 x3, .int .u64 y3, .bool c3] := by rw [hX]; exact (Bk.new _ _ _).at (by simp)
  have hb : Below w.heap.size w X := by rw [hX]; exact (((Below.refl _ w).alloc (Nat.le_refl _) _).alloc (by simp) _).alloc (by simp; omega) _
  rw [hX] at rE rB rP hb
  clear hX
  go_enter Tryz.func24, Tryz.ntmps24
  go_wp2_with fail
  refine (T _).mono ?_
  rintro e w' ⟨rfl, rfl⟩
  clear T
  have rEc0 := rE.cell (k := 0) rfl
  have rEc1 := rE.cell (k := 1) rfl
  have rEc2 := rE.cell (k := 2) rfl
  have rBc0 := rB.cell (k := 0) rfl
  have rBc1 := rB.cell (k := 1) rfl
  have rBc2 := rB.cell (k := 2) rfl
  have rBc3 := rB.cell (k := 3) rfl
  have rBc4 := rB.cell (k := 4) rfl
  have rBc5 := rB.cell (k := 5) rfl
  have rPc0 := rP.cell (k := 0) rfl
  have rPc1 := rP.cell (k := 1) rfl
  have rPc2 := rP.cell (k := 2) rfl
  go_wp2_with fail
  refine (RD _ hb).mono ?_
  rintro e w1 ⟨rfl, b1⟩
  have hal := (Below.refl _ w1).alloc (Nat.le_refl _) (Obj.cells #[.int .u64 x1, .int .u64 y1, .bool c1] 28)
  have rO := Bk.new w1 28 #[.int .u64 x1, .int .u64 y1, .bool c1]
  replace rE := rE.keep b1
  replace rB := rB.keep b1
  replace rP := rP.keep b1
  replace hb := hb.trans (b1.mono hb.size)
  clear RD b1 rEc0 rEc1 rEc2 rBc0 rBc1 rBc2 rBc3 rBc4 rBc5 rPc0 rPc1 rPc2
  have rBc0 := rB.cell (k := 0) rfl
  have rBc1 := rB.cell (k := 1) rfl
  have rBc2 := rB.cell (k := 2) rfl
  go_wp2
  clear rBc0 rBc1 rBc2
  replace rE := rE.keep hal
  replace rB := rB.keep hal
  replace rP := rP.keep hal
  replace hb := hb.trans (hal.mono hb.size)
  clear hal
  generalize w1.heap.size = H1 at *
  generalize w1.alloc _ = W1 at *
  have q0 : W1.drew.cell? ⟨w.heap.size + 1 + 1, 0, none⟩ = _ := rP.cell (k := 0) rfl
  have q1 : W1.drew.cell? ⟨w.heap.size + 1 + 1, 1, none⟩ = _ := rP.cell (k := 1) rfl
  have q2 : W1.drew.cell? ⟨w.heap.size + 1 + 1, 2, none⟩ = _ := rP.cell (k := 2) rfl
  have m0 : W1.drew.cell? ⟨w.heap.size, 0, none⟩ = _ := rE.cell (k := 0) rfl
  have m1 : W1.drew.cell? ⟨w.heap.size, 1, none⟩ = _ := rE.cell (k := 1) rfl
  have m2 : W1.drew.cell? ⟨w.heap.size, 2, none⟩ = _ := rE.cell (k := 2) rfl
  have CK' : ∀ w', G.Sides [] W1.drew w' → _ := fun w' h => CK w' H1 (hb.drew.trans (h.below.mono hb.size)) (rO.drew.keep h.below)
  refine G.pool_list (W := W1) [] [.val (.int .i64 1),
      .val (.bool true),
      .val (.bool true),
      .val (.int .i64 1),
      .val (.agg #[.int .u64 (px gG), .int .u64 (py gG), .bool (pb gG)]),
      .val (.agg #[.int .u64 x3, .int .u64 y3, .bool c3]),
      .val (.slice (some ⟨H1, 0, none⟩) 1 1),
      .val (.pointer (some ⟨w.heap.size, 0, none⟩)),
      .val (.slice (some ⟨g, 0, none⟩) 1 cap),
      .val (.pointer (some ⟨w.heap.size, 1, none⟩)),
      .val (.agg #[.int .u64 pc, .int .u64 ps]),
      .val (.bool ok),
      .val (.bool (!ok)),
      .val (.bool (!ok))] [[0], [34], [35], [0], [], [13], [16], [11], [41], [11], [43], [37, 38, 39, 40, 42, 44], [45], [36, 46]] (fun f => [(some 34, .int .i64 1), (some 35, .bool true), (some 36, .bool true), (some 37, .int .i64 1), (some 38, .agg #[.int .u64 (px gG), .int .u64 (py gG), .bool (pb gG)]), (some 39, .agg #[.int .u64 x3, .int .u64 y3, .bool c3]), (some 40, .slice (some ⟨H1, 0, none⟩) 1 1), (some 41, .pointer (some ⟨w.heap.size, 0, none⟩)), (some 42, .slice (some ⟨g, 0, none⟩) 1 cap), (some 43, .pointer (some ⟨w.heap.size, 1, none⟩)), (some 44, .agg #[.int .u64 pc, .int .u64 ps]), (some 45, .bool ok), (some 46, .bool (!ok)), (some 47, .bool (!ok))]) (by kernel_rfl) (by kernel_rfl) (by kernel_rfl) (by kernel_rfl) (fun _ => by kernel_rfl) (G.last_of [] (fun F R hm => by simp at hm) (fun ob ob' k hm => by simp at hm) (fun b ob ob' hm => by simp at hm)) (fun b ob ob' hm => by simp at hm) ?_ ?_
  · intro ix hix
    match ix, hix with
    | 0, _ => exact G.ob_val [(0, .int .i64 1)] rfl rfl (fun _ => by kernel_rfl) (fun A w ⟨e0, _⟩ hB => doV_move e0)
    | 1, _ => exact G.ob_val [(34, .int .i64 1)] rfl rfl (fun _ => by kernel_rfl) (fun A w ⟨e0, _⟩ hB => eq_intT e0 rfl)
    | 2, _ => exact G.ob_val [(35, .bool true)] rfl rfl (fun _ => by kernel_rfl) (fun A w ⟨e0, _⟩ hB => doV_move e0)
    | 3, _ => exact G.ob_val [(0, .int .i64 1)] rfl rfl (fun _ => by kernel_rfl) (fun A w ⟨e0, _⟩ hB => doV_move e0)
    | 4, _ => exact G.ob_val [] rfl rfl (fun _ => by kernel_rfl) (fun A w _ hB => cl0 cf_spec_Base  (bsG w))
    | 5, _ => exact G.ob_val [(13, .pointer (some ⟨w.heap.size + 1 + 1, 0, none⟩))] rfl rfl (fun _ => by kernel_rfl) (fun A w ⟨e0, _⟩ hB => ld_pt e0 (hB.cell q0 (by simp)) (hB.cell q1 (by simp)) (hB.cell q2 (by simp)))
    | 6, _ => exact G.ob_val [(16, .slice (some ⟨H1, 0, none⟩) 1 1)] rfl rfl (fun _ => by kernel_rfl) (fun A w ⟨e0, _⟩ hB => doV_move e0)
    | 7, _ => exact G.ob_val [(11, .pointer (some ⟨w.heap.size, 0, none⟩))] rfl rfl (fun _ => by kernel_rfl) (fun A w ⟨e0, _⟩ hB => fa_evd0 e0)
    | 8, _ => exact G.ob_val [(41, .pointer (some ⟨w.heap.size, 0, none⟩))] rfl rfl (fun _ => by kernel_rfl) (fun A w ⟨e0, _⟩ hB => ld_ptsl e0 (hB.cell m0 (by simp)))
    | 9, _ => exact G.ob_val [(11, .pointer (some ⟨w.heap.size, 0, none⟩))] rfl rfl (fun _ => by kernel_rfl) (fun A w ⟨e0, _⟩ hB => fa_evd1 e0)
    | 10, _ => exact G.ob_val [(43, .pointer (some ⟨w.heap.size, 1, none⟩))] rfl rfl (fun _ => by kernel_rfl) (fun A w ⟨e0, _⟩ hB => ld_prf e0 (hB.cell m1 (by simp)) (hB.cell m2 (by simp)))
    | 11, _ => exact G.ob_val [(37, .int .i64 1), (38, .agg #[.int .u64 (px gG), .int .u64 (py gG), .bool (pb gG)]), (39, .agg #[.int .u64 x3, .int .u64 y3, .bool c3]), (40, .slice (some ⟨H1, 0, none⟩) 1 1), (42, .slice (some ⟨g, 0, none⟩) 1 cap), (44, .agg #[.int .u64 pc, .int .u64 ps])] rfl rfl (fun _ => by kernel_rfl) (fun A w ⟨e0, e1, e2, e3, e4, e5, _⟩ hB => cl6 cf_spec_Check e0 e1 e2 e3 e4 e5 (CK' w hB))
    | 12, _ => exact G.ob_val [(45, .bool ok)] rfl rfl (fun _ => by kernel_rfl) (fun A w ⟨e0, _⟩ hB => not_b e0)
    | 13, _ => exact G.ob_val [(36, .bool true), (46, .bool (!ok))] rfl rfl (fun _ => by kernel_rfl) (fun A w ⟨e0, e1, _⟩ hB => Z.pkT e0 e1)
    | ix + 14, h => exact absurd h (by simp)
  intro f W2 hS _ _ _ _
  have hb3 : Below W1.heap.size W1 W2 := (Below.refl _ W1).drew.trans hS.below
  replace rE := rE.keep hb3
  replace rB := rB.keep hb3
  replace rP := rP.keep hb3
  replace rO := rO.keep hb3
  replace hb := hb.trans (hb3.mono hb.size)
  clear hS hb3 CK CK' q0 q1 q2 m0 m1 m2
  simp only [puts, List.foldl, Act.put, List.setIfInBounds_toArray, List.set_cons_zero, List.set_cons_succ]
  cases ok with
  | false =>
    go_wp2
    go_ret2
    exact ⟨rfl, hb⟩
  | true =>
  go_wp2
  go_quiet (fail)
  replace rE : Bk (W2.drewN nq) _ _ _ := rE
  replace rB : Bk (W2.drewN nq) _ _ _ := rB
  replace rP : Bk (W2.drewN nq) _ _ _ := rP
  replace rO : Bk (W2.drewN nq) _ _ _ := rO
  replace hb : Below w.heap.size w (W2.drewN nq) := ⟨hb.os, hb.tape, hb.output, hb.size, hb.block⟩
  generalize W2.drewN nq = W3 at *
  go_wp2
  have m0 : W3.drew.cell? ⟨w.heap.size, 0, none⟩ = _ := rE.cell (k := 0) rfl
  have m1 : W3.drew.cell? ⟨w.heap.size, 1, none⟩ = _ := rE.cell (k := 1) rfl
  have m2 : W3.drew.cell? ⟨w.heap.size, 2, none⟩ = _ := rE.cell (k := 2) rfl
  have n0 : W3.drew.cell? ⟨g, 0, none⟩ = _ := (hb.drew.cell (p := ⟨g, 0, none⟩) (World.block_lt_of_cell? w _ h0)).trans h0
  have n1 : W3.drew.cell? ⟨g, 1, none⟩ = _ := (hb.drew.cell (p := ⟨g, 1, none⟩) (World.block_lt_of_cell? w _ h1)).trans h1
  have n2 : W3.drew.cell? ⟨g, 2, none⟩ = _ := (hb.drew.cell (p := ⟨g, 2, none⟩) (World.block_lt_of_cell? w _ h2)).trans h2
  refine G.pool_list (W := W3) [] [.val (.int .i64 1),
      .val (.string input),
      .val (.string info),
      .val (.int .u64 blind),
      .val (.int .u64 iv),
      .val (.pointer (some ⟨w.heap.size, 0, none⟩)),
      .val (.slice (some ⟨g, 0, none⟩) 1 cap),
      .val (.pointer (some ⟨g, 0, none⟩)),
      .val (.agg #[.int .u64 xe, .int .u64 ye, .bool ce]),
      .val (.agg #[.int .u64 (px u), .int .u64 (py u), .bool (pb u)]),
      .val (.string R),
      .val (.string R),
      .val (.int .i64 0)] [[0], [1], [2], [3], [66], [11], [68], [69], [70], [67, 71], [63, 64, 65, 72], [73], []] (fun f => [(some 63, .int .i64 1), (some 64, .string input), (some 65, .string info), (some 66, .int .u64 blind), (some 67, .int .u64 iv), (some 68, .pointer (some ⟨w.heap.size, 0, none⟩)), (some 69, .slice (some ⟨g, 0, none⟩) 1 cap), (some 70, .pointer (some ⟨g, 0, none⟩)), (some 71, .agg #[.int .u64 xe, .int .u64 ye, .bool ce]), (some 72, .agg #[.int .u64 (px u), .int .u64 (py u), .bool (pb u)]), (some 73, .string R), (some 14, .string R), (some 15, .int .i64 0)]) (by kernel_rfl) (by kernel_rfl) (by kernel_rfl) (by kernel_rfl) (fun _ => by kernel_rfl) (G.last_of [] (fun F R hm => by simp at hm) (fun ob ob' k hm => by simp at hm) (fun b ob ob' hm => by simp at hm)) (fun b ob ob' hm => by simp at hm) ?_ ?_
  · intro ix hix
    match ix, hix with
    | 0, _ => exact G.ob_val [(0, .int .i64 1)] rfl rfl (fun _ => by kernel_rfl) (fun A w ⟨e0, _⟩ hB => doV_move e0)
    | 1, _ => exact G.ob_val [(1, .string input)] rfl rfl (fun _ => by kernel_rfl) (fun A w ⟨e0, _⟩ hB => doV_move e0)
    | 2, _ => exact G.ob_val [(2, .string info)] rfl rfl (fun _ => by kernel_rfl) (fun A w ⟨e0, _⟩ hB => doV_move e0)
    | 3, _ => exact G.ob_val [(3, .int .u64 blind)] rfl rfl (fun _ => by kernel_rfl) (fun A w ⟨e0, _⟩ hB => doV_move e0)
    | 4, _ => exact G.ob_val [(66, .int .u64 blind)] rfl rfl (fun _ => by kernel_rfl) (fun A w ⟨e0, _⟩ hB => cl2 cf_spec_InvMod e0 rfl (IV w))
    | 5, _ => exact G.ob_val [(11, .pointer (some ⟨w.heap.size, 0, none⟩))] rfl rfl (fun _ => by kernel_rfl) (fun A w ⟨e0, _⟩ hB => fa_evd0 e0)
    | 6, _ => exact G.ob_val [(68, .pointer (some ⟨w.heap.size, 0, none⟩))] rfl rfl (fun _ => by kernel_rfl) (fun A w ⟨e0, _⟩ hB => ld_ptsl e0 (hB.cell m0 (by simp)))
    | 7, _ => exact G.ob_val [(69, .slice (some ⟨g, 0, none⟩) 1 cap)] rfl rfl (fun _ => by kernel_rfl) (fun A w ⟨e0, _⟩ hB => ix_pts0 e0 rfl)
    | 8, _ => exact G.ob_val [(70, .pointer (some ⟨g, 0, none⟩))] rfl rfl (fun _ => by kernel_rfl) (fun A w ⟨e0, _⟩ hB => ld_pt e0 (hB.cell n0 (by simp)) (hB.cell n1 (by simp)) (hB.cell n2 (by simp)))
    | 9, _ => exact G.ob_val [(67, .int .u64 iv), (71, .agg #[.int .u64 xe, .int .u64 ye, .bool ce])] rfl rfl (fun _ => by kernel_rfl) (fun A w ⟨e0, e1, _⟩ hB => cl2 cf_spec_Times e0 e1 (TM w))
    | 10, _ => exact G.ob_val [(63, .int .i64 1), (64, .string input), (65, .string info), (72, .agg #[.int .u64 (px u), .int .u64 (py u), .bool (pb u)])] rfl rfl (fun _ => by kernel_rfl) (fun A w ⟨e0, e1, e2, e3, _⟩ hB => cl4 cf_spec_l6Output e0 e1 e2 e3 (OU w))
    | 11, _ => exact G.ob_val [(73, .string R)] rfl rfl (fun _ => by kernel_rfl) (fun A w ⟨e0, _⟩ hB => doV_assign e0)
    | 12, _ => exact G.ob_val [] rfl rfl (fun _ => by kernel_rfl) (fun A w _ hB => doV_assign rfl)
    | ix + 13, h => exact absurd h (by simp)
  intro f W4 hS _ _ _ _
  replace hb := hb.drew.trans (hS.below.mono hb.size)
  clear hS m0 m1 m2 n0 n1 n2
  simp only [puts, List.foldl, Act.put, List.setIfInBounds_toArray, List.set_cons_zero, List.set_cons_succ]
  go_wp2
  go_ret2
  exact ⟨rfl, hb⟩
theorem fnS_2 (blind pc ps x1 y1 x2 y2 x3 y3 iv xe ye : Int) (c1 c2 c3 ce ok : Bool) (input info R : ByteArray) (g cap : Nat) (u : Pt) (w : World)
    (T : ∀ w, Calls Tryz.prog 32 #[.int .i64 2, .string input, .string info] w fun e w' => e = .returned (.bool true) ∧ w = w')
    (RD : (∀ w', Below w.heap.size w w' → Calls Tryz.prog 53 #[.int .i64 2, .int .u64 blind, .agg #[.slice (some ⟨g, 0, none⟩) 1 cap, .int .u64 pc, .int .u64 ps], .agg #[.int .u64 x1, .int .u64 y1, .bool c1, .int .u64 x2, .int .u64 y2, .bool c2], .agg #[.int .u64 x3, .int .u64 y3, .bool c3]] w' fun e w'' => e = .returned (.bool true) ∧ Below w'.heap.size w' w''))
    (h0 : w.cell? ⟨g, 0, none⟩ = some (.int .u64 xe)) (h1 : w.cell? ⟨g, 1, none⟩ = some (.int .u64 ye)) (h2 : w.cell? ⟨g, 2, none⟩ = some (.bool ce))
    (IV : (∀ w', Calls Tryz.prog 55 #[.int .u64 blind, .int .u64 2305843010818082053] w' fun e w'' => e = .returned (.int .u64 iv) ∧ Below w'.heap.size w' w''))
    (TM : (∀ w', Calls Tryz.prog 37 #[.int .u64 iv, .agg #[.int .u64 xe, .int .u64 ye, .bool ce]] w' fun e w'' => e = .returned (.agg #[.int .u64 (px u), .int .u64 (py u), .bool (pb u)]) ∧ Below w'.heap.size w' w''))
    (OU : (∀ w', Calls Tryz.prog 36 #[.int .i64 2, .string input, .string info, .agg #[.int .u64 (px u), .int .u64 (py u), .bool (pb u)]] w' fun e w'' => e = .returned (.string R) ∧ Below w'.heap.size w' w''))
    (CK : (∀ w' h, Below w.heap.size w w' → Bk w' 28 h #[.int .u64 x1, .int .u64 y1, .bool c1] → Calls Tryz.prog 54 #[.int .i64 2, .agg #[.int .u64 (px gG), .int .u64 (py gG), .bool (pb gG)], .agg #[.int .u64 x2, .int .u64 y2, .bool c2], .slice (some ⟨g, 0, none⟩) 1 cap, .slice (some ⟨h, 0, none⟩) 1 1, .agg #[.int .u64 pc, .int .u64 ps]] w' fun e w'' => e = .returned (.bool ok) ∧ Below w'.heap.size w' w'')) :
    Calls Tryz.prog 24 #[.int .i64 2, .string input, .string info, .int .u64 blind, .agg #[.slice (some ⟨g, 0, none⟩) 1 cap, .int .u64 pc, .int .u64 ps], .agg #[.int .u64 x1, .int .u64 y1, .bool c1, .int .u64 x2, .int .u64 y2, .bool c2], .agg #[.int .u64 x3, .int .u64 y3, .bool c3]] w fun e w' => e = .returned (if ok = true then .tuple #[.string R, .int .i64 0] else .tuple #[.string ⟨#[]⟩, .int .i64 4]) ∧ Below w.heap.size w w' := by
  obtain ⟨X, hX⟩ : ∃ X, X = ((w.alloc (Obj.cells #[.slice (some ⟨g, 0, none⟩) 1 cap, .int .u64 pc, .int .u64 ps] 42)).alloc (Obj.cells #[.int .u64 x1, .int .u64 y1, .bool c1, .int .u64 x2, .int .u64 y2, .bool c2] 30)).alloc (Obj.cells #[.int .u64 x3, .int .u64 y3, .bool c3] 28) := ⟨_, rfl⟩
  have rE : Bk X 42 w.heap.size #[.slice (some ⟨g, 0, none⟩) 1 cap, .int .u64 pc, .int .u64 ps] := by rw [hX]; exact ((Bk.new _ _ _).alloc _).alloc _
  have rB : Bk X 30 (w.heap.size + 1) #[.int .u64 x1, .int .u64 y1, .bool c1, .int .u64 x2, .int .u64 y2, .bool c2] := by rw [hX]; exact ((Bk.new _ _ _).at (by simp)).alloc _
  have rP : Bk X 28 (w.heap.size + 1 + 1) #[.int .u64 x3, .int .u64 y3, .bool c3] := by rw [hX]; exact (Bk.new _ _ _).at (by simp)
  have hb : Below w.heap.size w X := by rw [hX]; exact (((Below.refl _ w).alloc (Nat.le_refl _) _).alloc (by simp) _).alloc (by simp; omega) _
  rw [hX] at rE rB rP hb
  clear hX
  go_enter Tryz.func24, Tryz.ntmps24
  go_wp2_with fail
  refine (T _).mono ?_
  rintro e w' ⟨rfl, rfl⟩
  clear T
  have rEc0 := rE.cell (k := 0) rfl
  have rEc1 := rE.cell (k := 1) rfl
  have rEc2 := rE.cell (k := 2) rfl
  have rBc0 := rB.cell (k := 0) rfl
  have rBc1 := rB.cell (k := 1) rfl
  have rBc2 := rB.cell (k := 2) rfl
  have rBc3 := rB.cell (k := 3) rfl
  have rBc4 := rB.cell (k := 4) rfl
  have rBc5 := rB.cell (k := 5) rfl
  have rPc0 := rP.cell (k := 0) rfl
  have rPc1 := rP.cell (k := 1) rfl
  have rPc2 := rP.cell (k := 2) rfl
  go_wp2_with fail
  refine (RD _ hb).mono ?_
  rintro e w1 ⟨rfl, b1⟩
  have hal := (Below.refl _ w1).alloc (Nat.le_refl _) (Obj.cells #[.int .u64 x1, .int .u64 y1, .bool c1] 28)
  have rO := Bk.new w1 28 #[.int .u64 x1, .int .u64 y1, .bool c1]
  replace rE := rE.keep b1
  replace rB := rB.keep b1
  replace rP := rP.keep b1
  replace hb := hb.trans (b1.mono hb.size)
  clear RD b1 rEc0 rEc1 rEc2 rBc0 rBc1 rBc2 rBc3 rBc4 rBc5 rPc0 rPc1 rPc2
  have rBc0 := rB.cell (k := 0) rfl
  have rBc1 := rB.cell (k := 1) rfl
  have rBc2 := rB.cell (k := 2) rfl
  go_wp2
  clear rBc0 rBc1 rBc2
  replace rE := rE.keep hal
  replace rB := rB.keep hal
  replace rP := rP.keep hal
  replace hb := hb.trans (hal.mono hb.size)
  clear hal
  generalize w1.heap.size = H1 at *
  generalize w1.alloc _ = W1 at *
  go_quiet (fail)
  replace rE : Bk (W1.drewN nq) _ _ _ := rE
  replace rB : Bk (W1.drewN nq) _ _ _ := rB
  replace rP : Bk (W1.drewN nq) _ _ _ := rP
  replace rO : Bk (W1.drewN nq) _ _ _ := rO
  replace hb : Below w.heap.size w (W1.drewN nq) := ⟨hb.os, hb.tape, hb.output, hb.size, hb.block⟩
  generalize W1.drewN nq = W2 at *
  go_wp2
  have q0 : W2.drew.cell? ⟨w.heap.size + 1, 3, none⟩ = _ := rB.cell (k := 3) rfl
  have q1 : W2.drew.cell? ⟨w.heap.size + 1, 4, none⟩ = _ := rB.cell (k := 4) rfl
  have q2 : W2.drew.cell? ⟨w.heap.size + 1, 5, none⟩ = _ := rB.cell (k := 5) rfl
  have m0 : W2.drew.cell? ⟨w.heap.size, 0, none⟩ = _ := rE.cell (k := 0) rfl
  have m1 : W2.drew.cell? ⟨w.heap.size, 1, none⟩ = _ := rE.cell (k := 1) rfl
  have m2 : W2.drew.cell? ⟨w.heap.size, 2, none⟩ = _ := rE.cell (k := 2) rfl
  have CK' : ∀ w', G.Sides [] W2.drew w' → _ := fun w' h => CK w' H1 (hb.drew.trans (h.below.mono hb.size)) (rO.drew.keep h.below)
  refine G.pool_list (W := W2) [] [.val (.int .i64 2),
      .val (.bool true),
      .val (.bool true),
      .val (.int .i64 2),
      .val (.agg #[.int .u64 (px gG), .int .u64 (py gG), .bool (pb gG)]),
      .val (.pointer (some ⟨w.heap.size + 1, 3, none⟩)),
      .val (.agg #[.int .u64 x2, .int .u64 y2, .bool c2]),
      .val (.pointer (some ⟨w.heap.size, 0, none⟩)),
      .val (.slice (some ⟨g, 0, none⟩) 1 cap),
      .val (.slice (some ⟨H1, 0, none⟩) 1 1),
      .val (.pointer (some ⟨w.heap.size, 1, none⟩)),
      .val (.agg #[.int .u64 pc, .int .u64 ps]),
      .val (.bool ok),
      .val (.bool (!ok)),
      .val (.bool (!ok))] [[0], [48], [49], [0], [], [12], [53], [11], [55], [16], [11], [58], [51, 52, 54, 56, 57, 59], [60], [50, 61]] (fun f => [(some 48, .int .i64 2), (some 49, .bool true), (some 50, .bool true), (some 51, .int .i64 2), (some 52, .agg #[.int .u64 (px gG), .int .u64 (py gG), .bool (pb gG)]), (some 53, .pointer (some ⟨w.heap.size + 1, 3, none⟩)), (some 54, .agg #[.int .u64 x2, .int .u64 y2, .bool c2]), (some 55, .pointer (some ⟨w.heap.size, 0, none⟩)), (some 56, .slice (some ⟨g, 0, none⟩) 1 cap), (some 57, .slice (some ⟨H1, 0, none⟩) 1 1), (some 58, .pointer (some ⟨w.heap.size, 1, none⟩)), (some 59, .agg #[.int .u64 pc, .int .u64 ps]), (some 60, .bool ok), (some 61, .bool (!ok)), (some 62, .bool (!ok))]) (by kernel_rfl) (by kernel_rfl) (by kernel_rfl) (by kernel_rfl) (fun _ => by kernel_rfl) (G.last_of [] (fun F R hm => by simp at hm) (fun ob ob' k hm => by simp at hm) (fun b ob ob' hm => by simp at hm)) (fun b ob ob' hm => by simp at hm) ?_ ?_
  · intro ix hix
    match ix, hix with
    | 0, _ => exact G.ob_val [(0, .int .i64 2)] rfl rfl (fun _ => by kernel_rfl) (fun A w ⟨e0, _⟩ hB => doV_move e0)
    | 1, _ => exact G.ob_val [(48, .int .i64 2)] rfl rfl (fun _ => by kernel_rfl) (fun A w ⟨e0, _⟩ hB => eq_intT e0 rfl)
    | 2, _ => exact G.ob_val [(49, .bool true)] rfl rfl (fun _ => by kernel_rfl) (fun A w ⟨e0, _⟩ hB => doV_move e0)
    | 3, _ => exact G.ob_val [(0, .int .i64 2)] rfl rfl (fun _ => by kernel_rfl) (fun A w ⟨e0, _⟩ hB => doV_move e0)
    | 4, _ => exact G.ob_val [] rfl rfl (fun _ => by kernel_rfl) (fun A w _ hB => cl0 cf_spec_Base  (bsG w))
    | 5, _ => exact G.ob_val [(12, .pointer (some ⟨w.heap.size + 1, 0, none⟩))] rfl rfl (fun _ => by kernel_rfl) (fun A w ⟨e0, _⟩ hB => fa_bld1 e0)
    | 6, _ => exact G.ob_val [(53, .pointer (some ⟨w.heap.size + 1, 3, none⟩))] rfl rfl (fun _ => by kernel_rfl) (fun A w ⟨e0, _⟩ hB => ld_pt e0 (hB.cell q0 (by simp)) (hB.cell q1 (by simp)) (hB.cell q2 (by simp)))
    | 7, _ => exact G.ob_val [(11, .pointer (some ⟨w.heap.size, 0, none⟩))] rfl rfl (fun _ => by kernel_rfl) (fun A w ⟨e0, _⟩ hB => fa_evd0 e0)
    | 8, _ => exact G.ob_val [(55, .pointer (some ⟨w.heap.size, 0, none⟩))] rfl rfl (fun _ => by kernel_rfl) (fun A w ⟨e0, _⟩ hB => ld_ptsl e0 (hB.cell m0 (by simp)))
    | 9, _ => exact G.ob_val [(16, .slice (some ⟨H1, 0, none⟩) 1 1)] rfl rfl (fun _ => by kernel_rfl) (fun A w ⟨e0, _⟩ hB => doV_move e0)
    | 10, _ => exact G.ob_val [(11, .pointer (some ⟨w.heap.size, 0, none⟩))] rfl rfl (fun _ => by kernel_rfl) (fun A w ⟨e0, _⟩ hB => fa_evd1 e0)
    | 11, _ => exact G.ob_val [(58, .pointer (some ⟨w.heap.size, 1, none⟩))] rfl rfl (fun _ => by kernel_rfl) (fun A w ⟨e0, _⟩ hB => ld_prf e0 (hB.cell m1 (by simp)) (hB.cell m2 (by simp)))
    | 12, _ => exact G.ob_val [(51, .int .i64 2), (52, .agg #[.int .u64 (px gG), .int .u64 (py gG), .bool (pb gG)]), (54, .agg #[.int .u64 x2, .int .u64 y2, .bool c2]), (56, .slice (some ⟨g, 0, none⟩) 1 cap), (57, .slice (some ⟨H1, 0, none⟩) 1 1), (59, .agg #[.int .u64 pc, .int .u64 ps])] rfl rfl (fun _ => by kernel_rfl) (fun A w ⟨e0, e1, e2, e3, e4, e5, _⟩ hB => cl6 cf_spec_Check e0 e1 e2 e3 e4 e5 (CK' w hB))
    | 13, _ => exact G.ob_val [(60, .bool ok)] rfl rfl (fun _ => by kernel_rfl) (fun A w ⟨e0, _⟩ hB => not_b e0)
    | 14, _ => exact G.ob_val [(50, .bool true), (61, .bool (!ok))] rfl rfl (fun _ => by kernel_rfl) (fun A w ⟨e0, e1, _⟩ hB => Z.pkT e0 e1)
    | ix + 15, h => exact absurd h (by simp)
  intro f W3 hS _ _ _ _
  have hb3 : Below W2.heap.size W2 W3 := (Below.refl _ W2).drew.trans hS.below
  replace rE := rE.keep hb3
  replace rB := rB.keep hb3
  replace rP := rP.keep hb3
  replace rO := rO.keep hb3
  replace hb := hb.trans (hb3.mono hb.size)
  clear hS hb3 CK CK' q0 q1 q2 m0 m1 m2
  simp only [puts, List.foldl, Act.put, List.setIfInBounds_toArray, List.set_cons_zero, List.set_cons_succ]
  cases ok with
  | false =>
    go_wp2
    go_ret2
    exact ⟨rfl, hb⟩
  | true =>
  go_wp2
  have m0 : W3.drew.cell? ⟨w.heap.size, 0, none⟩ = _ := rE.cell (k := 0) rfl
  have m1 : W3.drew.cell? ⟨w.heap.size, 1, none⟩ = _ := rE.cell (k := 1) rfl
  have m2 : W3.drew.cell? ⟨w.heap.size, 2, none⟩ = _ := rE.cell (k := 2) rfl
  have n0 : W3.drew.cell? ⟨g, 0, none⟩ = _ := (hb.drew.cell (p := ⟨g, 0, none⟩) (World.block_lt_of_cell? w _ h0)).trans h0
  have n1 : W3.drew.cell? ⟨g, 1, none⟩ = _ := (hb.drew.cell (p := ⟨g, 1, none⟩) (World.block_lt_of_cell? w _ h1)).trans h1
  have n2 : W3.drew.cell? ⟨g, 2, none⟩ = _ := (hb.drew.cell (p := ⟨g, 2, none⟩) (World.block_lt_of_cell? w _ h2)).trans h2
  refine G.pool_list (W := W3) [] [.val (.int .i64 2),
      .val (.string input),
      .val (.string info),
      .val (.int .u64 blind),
      .val (.int .u64 iv),
      .val (.pointer (some ⟨w.heap.size, 0, none⟩)),
      .val (.slice (some ⟨g, 0, none⟩) 1 cap),
      .val (.pointer (some ⟨g, 0, none⟩)),
      .val (.agg #[.int .u64 xe, .int .u64 ye, .bool ce]),
      .val (.agg #[.int .u64 (px u), .int .u64 (py u), .bool (pb u)]),
      .val (.string R),
      .val (.string R),
      .val (.int .i64 0)] [[0], [1], [2], [3], [66], [11], [68], [69], [70], [67, 71], [63, 64, 65, 72], [73], []] (fun f => [(some 63, .int .i64 2), (some 64, .string input), (some 65, .string info), (some 66, .int .u64 blind), (some 67, .int .u64 iv), (some 68, .pointer (some ⟨w.heap.size, 0, none⟩)), (some 69, .slice (some ⟨g, 0, none⟩) 1 cap), (some 70, .pointer (some ⟨g, 0, none⟩)), (some 71, .agg #[.int .u64 xe, .int .u64 ye, .bool ce]), (some 72, .agg #[.int .u64 (px u), .int .u64 (py u), .bool (pb u)]), (some 73, .string R), (some 14, .string R), (some 15, .int .i64 0)]) (by kernel_rfl) (by kernel_rfl) (by kernel_rfl) (by kernel_rfl) (fun _ => by kernel_rfl) (G.last_of [] (fun F R hm => by simp at hm) (fun ob ob' k hm => by simp at hm) (fun b ob ob' hm => by simp at hm)) (fun b ob ob' hm => by simp at hm) ?_ ?_
  · intro ix hix
    match ix, hix with
    | 0, _ => exact G.ob_val [(0, .int .i64 2)] rfl rfl (fun _ => by kernel_rfl) (fun A w ⟨e0, _⟩ hB => doV_move e0)
    | 1, _ => exact G.ob_val [(1, .string input)] rfl rfl (fun _ => by kernel_rfl) (fun A w ⟨e0, _⟩ hB => doV_move e0)
    | 2, _ => exact G.ob_val [(2, .string info)] rfl rfl (fun _ => by kernel_rfl) (fun A w ⟨e0, _⟩ hB => doV_move e0)
    | 3, _ => exact G.ob_val [(3, .int .u64 blind)] rfl rfl (fun _ => by kernel_rfl) (fun A w ⟨e0, _⟩ hB => doV_move e0)
    | 4, _ => exact G.ob_val [(66, .int .u64 blind)] rfl rfl (fun _ => by kernel_rfl) (fun A w ⟨e0, _⟩ hB => cl2 cf_spec_InvMod e0 rfl (IV w))
    | 5, _ => exact G.ob_val [(11, .pointer (some ⟨w.heap.size, 0, none⟩))] rfl rfl (fun _ => by kernel_rfl) (fun A w ⟨e0, _⟩ hB => fa_evd0 e0)
    | 6, _ => exact G.ob_val [(68, .pointer (some ⟨w.heap.size, 0, none⟩))] rfl rfl (fun _ => by kernel_rfl) (fun A w ⟨e0, _⟩ hB => ld_ptsl e0 (hB.cell m0 (by simp)))
    | 7, _ => exact G.ob_val [(69, .slice (some ⟨g, 0, none⟩) 1 cap)] rfl rfl (fun _ => by kernel_rfl) (fun A w ⟨e0, _⟩ hB => ix_pts0 e0 rfl)
    | 8, _ => exact G.ob_val [(70, .pointer (some ⟨g, 0, none⟩))] rfl rfl (fun _ => by kernel_rfl) (fun A w ⟨e0, _⟩ hB => ld_pt e0 (hB.cell n0 (by simp)) (hB.cell n1 (by simp)) (hB.cell n2 (by simp)))
    | 9, _ => exact G.ob_val [(67, .int .u64 iv), (71, .agg #[.int .u64 xe, .int .u64 ye, .bool ce])] rfl rfl (fun _ => by kernel_rfl) (fun A w ⟨e0, e1, _⟩ hB => cl2 cf_spec_Times e0 e1 (TM w))
    | 10, _ => exact G.ob_val [(63, .int .i64 2), (64, .string input), (65, .string info), (72, .agg #[.int .u64 (px u), .int .u64 (py u), .bool (pb u)])] rfl rfl (fun _ => by kernel_rfl) (fun A w ⟨e0, e1, e2, e3, _⟩ hB => cl4 cf_spec_l6Output e0 e1 e2 e3 (OU w))
    | 11, _ => exact G.ob_val [(73, .string R)] rfl rfl (fun _ => by kernel_rfl) (fun A w ⟨e0, _⟩ hB => doV_assign e0)
    | 12, _ => exact G.ob_val [] rfl rfl (fun _ => by kernel_rfl) (fun A w _ hB => doV_assign rfl)
    | ix + 13, h => exact absurd h (by simp)
  intro f W4 hS _ _ _ _
  replace hb := hb.drew.trans (hS.below.mono hb.size)
  clear hS m0 m1 m2 n0 n1 n2
  simp only [puts, List.foldl, Act.put, List.setIfInBounds_toArray, List.set_cons_zero, List.set_cons_succ]
  go_wp2
  go_ret2
  exact ⟨rfl, hb⟩
section
variable (mode ax ay bx by' : Int) (ac bc oa ob : Bool) (gc oc nc cc gd od nd cd : Nat) (w : World)
theorem batS_no (M : ∀ w, Calls Tryz.prog 69 #[.int .i64 mode] w fun e w' => e = .returned (.bool (decide (0 ≤ mode ∧ mode ≤ 2))) ∧ w = w')
    (OA : ∀ w, Calls Tryz.prog 76 #[.agg #[.int .u64 ax, .int .u64 ay, .bool ac]] w fun e w' => e = .returned (.bool oa) ∧ Below w.heap.size w w')
    (OB : ∀ w, Calls Tryz.prog 76 #[.agg #[.int .u64 bx, .int .u64 by', .bool bc]] w fun e w' => e = .returned (.bool ob) ∧ Below w.heap.size w w')
    (h : ¬ ((0 ≤ mode ∧ mode ≤ 2) ∧ oa = true ∧ ob = true ∧ (1 ≤ nc ∧ nc ≤ 200) ∧ nc = nd)) :
    Calls Tryz.prog 86 #[.int .i64 mode, .agg #[.int .u64 ax, .int .u64 ay, .bool ac], .agg #[.int .u64 bx, .int .u64 by', .bool bc], .slice (some ⟨gc, oc, none⟩) nc cc, .slice (some ⟨gd, od, none⟩) nd cd] w fun e w' => e = .returned (.bool false) ∧ Below w.heap.size w w' := by
  have hb0 : Below w.heap.size w ((w.alloc (Obj.cells #[.int .u64 ax, .int .u64 ay, .bool ac] 28)).alloc (Obj.cells #[.int .u64 bx, .int .u64 by', .bool bc] 28)) := ((Below.refl _ w).alloc (Nat.le_refl _) _).alloc (by simp) _
  have rb : R3 ((w.alloc (Obj.cells #[.int .u64 ax, .int .u64 ay, .bool ac] 28)).alloc (Obj.cells #[.int .u64 bx, .int .u64 by', .bool bc] 28)) (w.heap.size + 1) bx by' bc := (R3.new _ bx by' bc).at (by simp)
  by_cases hm : 0 ≤ mode ∧ mode ≤ 2
  · rw [decide_eq_true hm] at M
    cases oa with
    | false =>
      clear OB h
      go_enter Tryz.func86, Tryz.ntmps86
      go_wp2_with fail
      refine (M _).mono ?_
      rintro e w1 ⟨rfl, rfl⟩
      go_wp2_with fail
      refine (OA _).mono ?_
      rintro e w2 ⟨rfl, b2⟩
      replace hb0 := hb0.trans (b2.mono hb0.size)
      go_wp2
      go_ret
      exact ⟨rfl, hb0⟩
    | true =>
      go_enter Tryz.func86, Tryz.ntmps86
      go_wp2_with fail
      refine (M _).mono ?_
      rintro e w1 ⟨rfl, rfl⟩
      go_wp2_with fail
      refine (OA _).mono ?_
      rintro e w2 ⟨rfl, b2⟩
      replace rb := rb.below b2 rb.lt
      replace hb0 := hb0.trans (b2.mono hb0.size)
      have c0 := rb.c0
      have c1 := rb.c1
      have c2 := rb.c2
      clear rb M OA b2
      go_wp2_with fail
      refine (OB _).mono ?_
      rintro e w3 ⟨rfl, b3⟩
      replace hb0 := hb0.trans (b3.mono hb0.size)
      clear OB c0 c1 c2 b3
      cases ob with
      | false =>
        go_wp2
        go_ret
        exact ⟨rfl, hb0⟩
      | true =>
        by_cases h1 : nc < 1
        · have g1 : (nc : Int) < 1 := by omega
          go_wp2
          go_ret
          exact ⟨rfl, hb0⟩
        · have g1 : ¬ (nc : Int) < 1 := by omega
          by_cases h2 : 200 < nc
          · have g2 : (200 : Int) < (nc : Int) := by omega
            go_wp2
            go_ret
            exact ⟨rfl, hb0⟩
          · have g2 : ¬ (200 : Int) < (nc : Int) := by omega
            have g3 : ((nc : Int) != (nd : Int)) = true := by
              simp only [bne_iff_ne, ne_eq]
              intro e
              exact h ⟨hm, by trivial, by trivial, ⟨by omega, by omega⟩, by omega⟩
            go_wp2
            go_ret
            exact ⟨rfl, hb0⟩
  · rw [decide_eq_false hm] at M
    clear OA OB h
    go_enter Tryz.func86, Tryz.ntmps86
    go_wp2_with fail
    refine (M _).mono ?_
    rintro e w1 ⟨rfl, rfl⟩
    go_wp2
    go_ret
    exact ⟨rfl, hb0⟩
theorem batS_pts (cs ds : List Tri) (hlc : cs.length = nc) (hld : ds.length = nc) (h1 : 1 ≤ nc) (h2 : nc ≤ 200) (hc : Pts w gc oc cs) (hd : Pts w gd od ds)
    (M : ∀ w, Calls Tryz.prog 69 #[.int .i64 mode] w fun e w' => e = .returned (.bool true) ∧ w = w')
    (OA : ∀ w, Calls Tryz.prog 76 #[.agg #[.int .u64 ax, .int .u64 ay, .bool ac]] w fun e w' => e = .returned (.bool true) ∧ Below w.heap.size w w')
    (OB : ∀ w, Calls Tryz.prog 76 #[.agg #[.int .u64 bx, .int .u64 by', .bool bc]] w fun e w' => e = .returned (.bool true) ∧ Below w.heap.size w w') :
    Calls Tryz.prog 86 #[.int .i64 mode, .agg #[.int .u64 ax, .int .u64 ay, .bool ac], .agg #[.int .u64 bx, .int .u64 by', .bool bc], .slice (some ⟨gc, oc, none⟩) nc cc, .slice (some ⟨gd, od, none⟩) nc cd] w fun e w' => e = .returned (.bool (cs.all onT && ds.all onT)) ∧ Below w.heap.size w w' := by
  obtain ⟨R, hR⟩ : ∃ R, Hid (R = (cs.all onT && ds.all onT)) := ⟨_, rfl⟩
  rw [← hR.out]
  have hb0 : Below w.heap.size w ((w.alloc (Obj.cells #[.int .u64 ax, .int .u64 ay, .bool ac] 28)).alloc (Obj.cells #[.int .u64 bx, .int .u64 by', .bool bc] 28)) := ((Below.refl _ w).alloc (Nat.le_refl _) _).alloc (by simp) _
  have rb : R3 ((w.alloc (Obj.cells #[.int .u64 ax, .int .u64 ay, .bool ac] 28)).alloc (Obj.cells #[.int .u64 bx, .int .u64 by', .bool bc] 28)) (w.heap.size + 1) bx by' bc := (R3.new _ bx by' bc).at (by simp)
  have g1 : ¬ (nc : Int) < 1 := by omega
  have g2 : ¬ (200 : Int) < (nc : Int) := by omega
  go_enter Tryz.func86, Tryz.ntmps86
  go_wp2_with fail
  refine (M _).mono ?_
  rintro e w1 ⟨rfl, rfl⟩
  go_wp2_with fail
  refine (OA _).mono ?_
  rintro e w2 ⟨rfl, b2⟩
  replace rb := rb.below b2 rb.lt
  replace hb0 := hb0.trans (b2.mono hb0.size)
  have c0 := rb.c0
  have c1 := rb.c1
  have c2 := rb.c2
  clear rb M OA b2
  go_wp2_with fail
  refine (OB _).mono ?_
  rintro e w3 ⟨rfl, b3⟩
  replace hb0 := hb0.trans (b3.mono hb0.size)
  clear OB c0 c1 c2 b3
  go_wp2
  go_loopw [11] (fun iv wr => ∃ k : Nat, k ≤ nc ∧ iv = .int .i64 (k : Int) ∧ Hid (∀ i, i < k → (∃ t, cs[i]? = some t ∧ onT t = true) ∧ (∃ t, ds[i]? = some t ∧ onT t = true)) ∧ Below w.heap.size w wr) (fun i _ => nc - (intOf i).toNat)
  case atStart => exact ⟨0, by omega, rfl, fun i hi => by omega, hb0⟩
  case round =>
    clear hb0
    obtain ⟨k, hk, rfl, hall, hbl⟩ := hrel
    by_cases hlt : k < nc
    · have hli : (k : Int) < (nc : Int) := by omega
      obtain ⟨t, ht⟩ : ∃ t, cs[k]? = some t := ⟨_, List.getElem?_eq_getElem (by omega)⟩
      obtain ⟨u, hu⟩ : ∃ u, ds[k]? = some u := ⟨_, List.getElem?_eq_getElem (by omega)⟩
      have pc := hc.below hbl hc.lt
      have pd := hd.below hbl hd.lt
      have c0 := pc.c0 k t ht
      have c1 := pc.c1 k t ht
      have c2 := pc.c2 k t ht
      have OT := onS_tri t
      have OU := onS_tri u
      have hmt : t ∈ cs := List.mem_of_getElem? ht
      have hmu : u ∈ ds := List.mem_of_getElem? hu
      have hRt : Hid (onT t = false → R = false) := fun h => by
        rw [hR.out]
        have : cs.all onT = false := List.all_eq_false.2 ⟨t, hmt, by rw [h]; decide⟩
        rw [this]; rfl
      have hRu : Hid (onT u = false → R = false) := fun h => by
        rw [hR.out]
        have : ds.all onT = false := List.all_eq_false.2 ⟨u, hmu, by rw [h]; decide⟩
        rw [this, Bool.and_false]
      have hnx : Hid (onT t = true → onT u = true → ∀ i, i < k + 1 → (∃ t, cs[i]? = some t ∧ onT t = true) ∧ (∃ t, ds[i]? = some t ∧ onT t = true)) := fun h h' i hi => by
        by_cases hik : i = k
        · subst hik; exact ⟨⟨t, ht, h⟩, ⟨u, hu, h'⟩⟩
        · exact hall.out i (by omega)
      obtain ⟨tx, ty, tc⟩ := t
      obtain ⟨ux, uy, uc⟩ := u
      dsimp only at c0 c1 c2 OT OU
      clear ht hmt hmu hall
      generalize onT (tx, ty, tc) = ot at *
      generalize onT (ux, uy, uc) = ou at *
      have hu0 := hu
      clear hu
      have d0 : Hid (∀ W', Below wr.heap.size wr W' → W'.cell? ⟨gd, od + k * 3, none⟩ = some (.int .u64 (ux : Int)) ∧ W'.cell? ⟨gd, od + k * 3 + 1, none⟩ = some (.int .u64 (uy : Int)) ∧ W'.cell? ⟨gd, od + k * 3 + 2, none⟩ = some (.bool uc)) := fun W' hb => by
        have hu' := hu0
        have q := pd.keep hb
        exact ⟨q.c0 k _ hu', q.c1 k _ hu', q.c2 k _ hu'⟩
      clear pc pd hu0
      go_wp2_with fail
      refine (OT _).mono ?_
      rintro e w4 ⟨rfl, b4⟩
      obtain ⟨e0, e1, e2⟩ := d0.out w4 b4
      have hb4 := hbl.trans (b4.mono hbl.size)
      clear OT d0 c0 c1 c2 b4
      cases ot with
      | false =>
        have hr := hRt.out (by trivial)
        subst hr
        go_wp2
        go_ret
        exact ⟨rfl, hb4⟩
      | true =>
        go_wp2_with fail
        refine (OU _).mono ?_
        rintro e w5 ⟨rfl, b5⟩
        have hb5 := hb4.trans (b5.mono hb4.size)
        clear OU e0 e1 e2 b5
        cases ou with
        | false =>
          have hr := hRu.out (by trivial)
          subst hr
          go_wp2
          go_ret
          exact ⟨rfl, hb5⟩
        | true =>
          have hn2 : Hid (∀ i, i < k + 1 → (∃ t, cs[i]? = some t ∧ onT t = true) ∧ (∃ t, ds[i]? = some t ∧ onT t = true)) := hnx.out (by trivial) (by trivial)
          clear hnx hRt hRu
          go_wp2
          go_roundw
          case rel =>
            first
              | exact ⟨k + 1, by omega, by go_num, hn2, hb5⟩
              | ((repeat apply Exists.intro); exact ⟨⟨k + 1, by omega, by go_num, hn2, hb5⟩, rfl⟩)
          case measure => simp [intOf]; omega
    · obtain rfl : k = nc := by omega
      have hr : R = true := by
        rw [hR.out, Bool.and_eq_true, List.all_eq_true, List.all_eq_true]
        constructor
        · intro t ht
          obtain ⟨i, hi⟩ := List.getElem?_of_mem ht
          obtain ⟨t', h', h''⟩ := (hall.out i (by have := (List.getElem?_eq_some_iff.1 hi).1; omega)).1
          rw [hi] at h'; cases h'; exact h''
        · intro t ht
          obtain ⟨i, hi⟩ := List.getElem?_of_mem ht
          obtain ⟨t', h', h''⟩ := (hall.out i (by have := (List.getElem?_eq_some_iff.1 hi).1; omega)).2
          rw [hi] at h'; cases h'; exact h''
      subst hr
      clear hall hR
      go_wp2
      go_ret
      exact ⟨rfl, hbl⟩
end
theorem batS_any (mode : Int) (a b : Tri) (cs ds : List Tri) (gc oc cc gd od cd : Nat) (w : World) (hc : Pts w gc oc cs) (hd : Pts w gd od ds) :
    Calls Tryz.prog 86 #[.int .i64 mode, triW a, triW b, .slice (some ⟨gc, oc, none⟩) cs.length cc, .slice (some ⟨gd, od, none⟩) ds.length cd] w fun e w' => e = .returned (.bool (batB mode a b cs ds)) ∧ Below w.heap.size w w' := by
  by_cases h : (0 ≤ mode ∧ mode ≤ 2) ∧ onT a = true ∧ onT b = true ∧ (1 ≤ cs.length ∧ cs.length ≤ 200) ∧ cs.length = ds.length
  · have e : batB mode a b cs ds = (cs.all onT && ds.all onT) := by
      unfold batB
      obtain ⟨h1, h2, h3, h4, h5⟩ := h
      rw [decide_eq_true h1, h2, h3, decide_eq_true h4, decide_eq_true h5]; rfl
    obtain ⟨h1, h2, h3, h4, h5⟩ := h
    rw [e, ← h5]
    exact batS_pts mode _ _ _ _ _ _ gc oc cs.length cc gd od cd w cs ds rfl h5.symm h4.1 h4.2 hc hd (fun w => modS_yes mode w h1.1 h1.2) (fun w => h2 ▸ onS_tri a w) (fun w => h3 ▸ onS_tri b w)
  · have e : batB mode a b cs ds = false := by
      cases hh : batB mode a b cs ds with
      | false => rfl
      | true =>
        rw [batB_iff] at hh
        obtain ⟨h1, h2, h3, h4, h5, -, -⟩ := hh
        exact absurd ⟨h1, h2, h3, h4, h5⟩ h
    rw [e]
    refine batS_no mode _ _ _ _ _ _ (onT a) (onT b) gc oc cs.length cc gd od ds.length cd w (fun w => ?_) (fun w => onS_tri a w) (fun w => onS_tri b w) h
    by_cases hm : 0 ≤ mode ∧ mode ≤ 2
    · rw [decide_eq_true hm]; exact modS_yes mode w hm.1 hm.2
    · rw [decide_eq_false hm]; exact modS_no mode w hm
end Go.Proofs.YtjmhmajfkdglnaaGreatDoor
