import Derived.Test.YtjmhmajfkdglnaaGreatDoorMrg32
import Derived.Test.YtjmhmajfkdglnaaGreatDoorMrg6
import Derived.Test.YtjmhmajfkdglnaaGreatDoorMrg24
import Derived.Test.YtjmhmajfkdglnaaGreatDoorMrg23
import Derived.Test.YtjmhmajfkdglnaaGreatDoorMrg22
import Derived.Test.YtjmhmajfkdglnaaGreatDoorMrg8
import Derived.Deep.RegionHeld3
namespace Go.Proofs.YtjmhmajfkdglnaaGreatDoor
open Go.RowKit
set_option linter.unusedVariables false

theorem exN_any (k : Nat) (w : World) :
    Calls Tryz.prog 65 #[.int .u64 k, .agg #[]] w fun e w' => e = .returned (.tuple #[.agg #[.int .u64 (if k < 2305843010818082053 then (k : Int) else 0)], .bool (decide (k < 2305843010818082053))]) ∧ Below w.heap.size w w' := by
  by_cases h : k < 2305843010818082053
  · rw [if_pos h, decide_eq_true h]
    exact exN_less k w (by omega)
  · rw [if_neg h, decide_eq_false h]
    exact exN_more k w (by omega)
theorem G.Sides.under {S : List Nat} {W0 w w' : World} {B : Nat} (h : G.Sides S W0 w') (hb : Below B w W0) (hS : ∀ b ∈ S, B ≤ b) (hB : B ≤ W0.heap.size) : Below B w w' :=
  hb.trans ⟨h.os, h.tape, h.output, h.size, fun k hk => h.block k (Nat.lt_of_lt_of_le hk hB) (fun hm => by have := hS k hm; omega)⟩
end Go.Proofs.YtjmhmajfkdglnaaGreatDoor

namespace Go.Proofs.YtjmhmajfkdglnaaGreatDoor
open Go.RowKit M
set_option linter.unusedVariables false

set_option maxRecDepth 100000 in
set_option maxHeartbeats 2000000 in
theorem csqP (x : Fp) (w : World) :
    Calls Tryz.prog 105 #[.agg #[.int .u64 (fv x)]] w fun e w' => e = .returned (.agg #[.int .u64 (fv ((x * x - 3) * x + 111))]) ∧ Below w.heap.size w w' := by
  obtain ⟨X, hX⟩ : ∃ X, X = ((w.alloc (Obj.cells #[.int .u64 (fv x)] 179)).alloc (Obj.cells #[.int .u64 0] 179)).alloc (Obj.cells #[] 177) := ⟨_, rfl⟩
  have hx : R1 X w.heap.size (fv x) := by rw [hX]; exact ((R1.new w _).alloc _).alloc _
  have hr : R1 X (w.heap.size + 1) 0 := by rw [hX]; exact ((R1.new _ 0).at (by simp)).alloc _
  have hb : Below w.heap.size w X := by rw [hX]; exact (((Below.refl _ w).alloc (Nat.le_refl _) _).alloc (by simp) _).alloc (by simp; omega) _
  rw [hX] at hx hr hb
  clear hX
  go_enter Tryz.func105, Tryz.ntmps105
  go_wp2
  refine pool_tail [.val (.agg #[.int .u64 (fv x)]),
    .val (.agg #[.int .u64 (fv x)]),
    .val (.agg #[.int .u64 (fv (x * x))]),
    .val (.agg #[]),
    .val (.agg #[.int .u64 (fv 3)]),
    .val (.agg #[.int .u64 (fv (x * x - 3))]),
    .val (.agg #[.int .u64 (fv x)]),
    .val (.agg #[.int .u64 (fv ((x * x - 3) * x))]),
    .val (.agg #[]),
    .val (.agg #[.int .u64 (fv 111)]),
    .val (.agg #[.int .u64 (fv ((x * x - 3) * x + 111))]),
    .val undef] [[1], [1], [5, 6], [3], [8], [7, 9], [1], [10, 11], [3], [13], [12, 14], [2, 15]] (fun f => [(some 5, .agg #[.int .u64 (fv x)]), (some 6, .agg #[.int .u64 (fv x)]), (some 7, .agg #[.int .u64 (fv (x * x))]), (some 8, .agg #[]), (some 9, .agg #[.int .u64 (fv 3)]), (some 10, .agg #[.int .u64 (fv (x * x - 3))]), (some 11, .agg #[.int .u64 (fv x)]), (some 12, .agg #[.int .u64 (fv ((x * x - 3) * x))]), (some 13, .agg #[]), (some 14, .agg #[.int .u64 (fv 111)]), (some 15, .agg #[.int .u64 (fv ((x * x - 3) * x + 111))])]) (fun f => [(2, .pointer (some ⟨w.heap.size + 1, 0, none⟩)), (15, .agg #[.int .u64 (fv ((x * x - 3) * x + 111))])]) (by kernel_rfl) (by kernel_rfl) (by kernel_rfl) (by kernel_rfl) (by kernel_rfl) (fun _ => by kernel_rfl) ?_ rfl (fun _ => by kernel_rfl) ?_
  · intro ix hix
    match ix, hix with
    | 0, _ => exact ob_val [(1, .pointer (some ⟨w.heap.size, 0, none⟩))] rfl rfl (fun _ => by kernel_rfl) (fun A w ⟨e0, _⟩ hB => do_loadN e0 hx.drew hB)
    | 1, _ => exact ob_val [(1, .pointer (some ⟨w.heap.size, 0, none⟩))] rfl rfl (fun _ => by kernel_rfl) (fun A w ⟨e0, _⟩ hB => do_loadN e0 hx.drew hB)
    | 2, _ => exact ob_val [(5, .agg #[.int .u64 (fv x)]), (6, .agg #[.int .u64 (fv x)])] rfl rfl (fun _ => by kernel_rfl) (fun A w ⟨e0, e1, _⟩ hB => do_call2 cf_times e0 e1 (tmV x x w))
    | 3, _ => exact ob_val [(3, .pointer (some ⟨w.heap.size + 1 + 1, 0, none⟩))] rfl rfl (fun _ => by kernel_rfl) (fun A w ⟨e0, _⟩ hB => do_load0 e0)
    | 4, _ => exact ob_val [(8, .agg #[])] rfl rfl (fun _ => by kernel_rfl) (fun A w ⟨e0, _⟩ hB => do_call2 cf_reduced rfl e0 (rd3 w))
    | 5, _ => exact ob_val [(7, .agg #[.int .u64 (fv (x * x))]), (9, .agg #[.int .u64 (fv 3)])] rfl rfl (fun _ => by kernel_rfl) (fun A w ⟨e0, e1, _⟩ hB => do_call2 cf_minus e0 e1 (mnV (x * x) 3 w))
    | 6, _ => exact ob_val [(1, .pointer (some ⟨w.heap.size, 0, none⟩))] rfl rfl (fun _ => by kernel_rfl) (fun A w ⟨e0, _⟩ hB => do_loadN e0 hx.drew hB)
    | 7, _ => exact ob_val [(10, .agg #[.int .u64 (fv (x * x - 3))]), (11, .agg #[.int .u64 (fv x)])] rfl rfl (fun _ => by kernel_rfl) (fun A w ⟨e0, e1, _⟩ hB => do_call2 cf_times e0 e1 (tmV (x * x - 3) x w))
    | 8, _ => exact ob_val [(3, .pointer (some ⟨w.heap.size + 1 + 1, 0, none⟩))] rfl rfl (fun _ => by kernel_rfl) (fun A w ⟨e0, _⟩ hB => do_load0 e0)
    | 9, _ => exact ob_val [(13, .agg #[])] rfl rfl (fun _ => by kernel_rfl) (fun A w ⟨e0, _⟩ hB => do_call2 cf_reduced rfl e0 (rd111 w))
    | 10, _ => exact ob_val [(12, .agg #[.int .u64 (fv ((x * x - 3) * x))]), (14, .agg #[.int .u64 (fv 111)])] rfl rfl (fun _ => by kernel_rfl) (fun A w ⟨e0, e1, _⟩ hB => do_call2 cf_plus e0 e1 (plV ((x * x - 3) * x) 111 w))
    | ix + 11, h => exact absurd h (by simp)
  rintro f A w9 ⟨e0, e1, _⟩ hB _
  replace hr := (hr.drew).keep hB
  replace hb := keepB hb.drew hb.size hB
  refine does_skip (exec_store e0 e1 hr) ?_
  simp only [puts, List.foldl, Act.put, List.setIfInBounds_toArray, List.set_cons_zero, List.set_cons_succ]
  go_wp2
  exact bodyPost_ret (v := .agg #[.int .u64 (fv ((x * x - 3) * x + 111))]) (num_res (fn := Tryz.f105) (p := 2) Tryz.results105 _ rfl (hr.set _)) rfl ⟨rfl, hb.setCell (p := ⟨w.heap.size + 1, 0, none⟩) (by simp) _⟩
theorem csqV (x : Fp) (w : World) :
    Calls Tryz.prog 105 #[.agg #[.int .u64 (fv x)]] w fun e w' => e = .returned (.agg #[.int .u64 (fv (crv x))]) ∧ Below w.heap.size w w' := by
  have := csqP x w
  rwa [show (x * x - 3) * x + 111 = crv x by unfold crv; grobner] at this
end Go.Proofs.YtjmhmajfkdglnaaGreatDoor

namespace Go.Proofs.YtjmhmajfkdglnaaGreatDoor
open Go.RowKit
set_option linter.unusedVariables false

set_option maxRecDepth 100000 in
theorem sqS_big (x : Int) (w : World) (h1 : 2305843009213693951 ≤ x) :
    Calls Tryz.prog 145 #[.int .u64 x] w fun e w' => e = .returned (.tuple #[.int .u64 0, .bool false]) ∧ w = w' := by
  go_enter Tryz.func145, Tryz.ntmps145
  go_wp2
  go_ret2
  exact ⟨rfl, rfl⟩
set_option maxRecDepth 100000 in
theorem sqS_no (x r z : Int) (w : World) (h1 : x < 2305843009213693951) (hz : (z == x) = false)
    (L : ∀ w, Calls Tryz.prog 94 #[.int .u64 x, .int .u64 576460752303423488, .int .u64 2305843009213693951] w fun e w' => e = .returned (.int .u64 r) ∧ w = w')
    (M : ∀ w, Calls Tryz.prog 83 #[.int .u64 r, .int .u64 r] w fun e w' => e = .returned (.int .u64 z) ∧ w = w') :
    Calls Tryz.prog 145 #[.int .u64 x] w fun e w' => e = .returned (.tuple #[.int .u64 0, .bool false]) ∧ w = w' := by
  go_enter Tryz.func145, Tryz.ntmps145
  go_wp2_with (first | (go_at_call 94; refine (L _).mono ?_; rintro e w' ⟨rfl, rfl⟩) | (go_at_call 83; refine (M _).mono ?_; rintro e w' ⟨rfl, rfl⟩))
  go_ret2
  exact ⟨rfl, rfl⟩
set_option maxRecDepth 100000 in
theorem sqS_odd (x r : Int) (w : World) (h1 : x < 2305843009213693951) (ho : (r % 2 == 1) = true) (hr0 : 0 ≤ r) (hr : r ≤ 2305843009213693951)
    (L : ∀ w, Calls Tryz.prog 94 #[.int .u64 x, .int .u64 576460752303423488, .int .u64 2305843009213693951] w fun e w' => e = .returned (.int .u64 r) ∧ w = w')
    (M : ∀ w, Calls Tryz.prog 83 #[.int .u64 r, .int .u64 r] w fun e w' => e = .returned (.int .u64 x) ∧ w = w') :
    Calls Tryz.prog 145 #[.int .u64 x] w fun e w' => e = .returned (.tuple #[.int .u64 (2305843009213693951 - r), .bool true]) ∧ w = w' := by
  go_enter Tryz.func145, Tryz.ntmps145
  go_wp2_with (first | (go_at_call 94; refine (L _).mono ?_; rintro e w' ⟨rfl, rfl⟩) | (go_at_call 83; refine (M _).mono ?_; rintro e w' ⟨rfl, rfl⟩))
  go_ret2
  exact ⟨rfl, rfl⟩
set_option maxRecDepth 100000 in
theorem sqS_even (x r : Int) (w : World) (h1 : x < 2305843009213693951) (ho : (r % 2 == 1) = false) (hr0 : 0 ≤ r)
    (L : ∀ w, Calls Tryz.prog 94 #[.int .u64 x, .int .u64 576460752303423488, .int .u64 2305843009213693951] w fun e w' => e = .returned (.int .u64 r) ∧ w = w')
    (M : ∀ w, Calls Tryz.prog 83 #[.int .u64 r, .int .u64 r] w fun e w' => e = .returned (.int .u64 x) ∧ w = w') :
    Calls Tryz.prog 145 #[.int .u64 x] w fun e w' => e = .returned (.tuple #[.int .u64 r, .bool true]) ∧ w = w' := by
  go_enter Tryz.func145, Tryz.ntmps145
  go_wp2_with (first | (go_at_call 94; refine (L _).mono ?_; rintro e w' ⟨rfl, rfl⟩) | (go_at_call 83; refine (M _).mono ?_; rintro e w' ⟨rfl, rfl⟩))
  go_ret2
  exact ⟨rfl, rfl⟩

theorem results_ct {P : Program} {fn : Func} {p u : Tmp} {ty : TypeId} (h : fn.results = #[.cell p ty, .tmp u]) (tmps : Array Value) (w : World) (g y : Nat) (d : TypeDesc)
    (hp : tmps.getD p undef = .pointer (some ⟨g, 0, none⟩)) (hc : Rp w ty g y)
    (hu : P.underlying ty = some d) (hd : d.isRow = true) (hi : (P.info? ty).map (·.size) = some 1) :
    (results fn tmps).run P w = .ok (.tuple #[.agg #[.int .u64 y], tmps.getD u undef]) w := by
  have hp' : tmps[p]?.getD undef = .pointer (some ⟨g, 0, none⟩) := by simpa using hp
  simp [results, h, hp', asAddr, run_loadVar_mid w g 0 ty [.int .u64 y] d hc.range hu hd hi]

set_option maxRecDepth 100000 in
set_option maxHeartbeats 2000000 in
theorem evenP_no (x r z : Nat) (w : World) (hz : ((z : Int) == (x : Int)) = false)
    (L : ∀ w, Calls Tryz.prog 182 #[.agg #[.int .u64 x], .int .u64 576460752303423488] w fun e w' => e = .returned (.agg #[.int .u64 r]) ∧ Below w.heap.size w w')
    (M : ∀ w, Calls Tryz.prog 104 #[.agg #[.int .u64 r], .agg #[.int .u64 r]] w fun e w' => e = .returned (.agg #[.int .u64 z]) ∧ Below w.heap.size w w') :
    Calls Tryz.prog 188 #[.agg #[.int .u64 x]] w fun e w' => e = .returned (.tuple #[.agg #[.int .u64 0], .bool false]) ∧ Below w.heap.size w w' := by
  go_enter Tryz.func188, Tryz.ntmps188
  go_wp2_with fail
  refine (L _).mono ?_
  rintro e w1 ⟨rfl, b1⟩
  have hx0 : Rp ((w.alloc (Obj.cells #[.int .u64 (x : Int)] 179)).alloc (Obj.cells #[.int .u64 0] 179)) 179 w.heap.size x := (Rp.new w _ x).alloc _
  have hr0' : Rp ((w.alloc (Obj.cells #[.int .u64 (x : Int)] 179)).alloc (Obj.cells #[.int .u64 0] 179)) 179 (w.heap.size + 1) 0 := (Rp.new _ _ 0).at (by simp)
  have hx1 := hx0.below b1 hx0.lt
  have hr1 := hr0'.below b1 hr0'.lt
  have hw1 : Below w.heap.size w w1 := (((Below.refl _ w).alloc (Nat.le_refl _) _).alloc (by simp) _).trans (b1.mono (by simp; omega))
  have hl1 : w.heap.size + 2 ≤ w1.heap.size := by have := b1.size; simp at this; omega
  clear b1 hx0 hr0'
  have rR := (Rp.new w1 179 r).drew
  have rX := (hx1.alloc (Obj.cells #[.int .u64 (r : Int)] 179)).drew
  have rO := (hr1.alloc (Obj.cells #[.int .u64 (r : Int)] 179)).drew
  have hw2 := (hw1.alloc hw1.size (Obj.cells #[.int .u64 (r : Int)] 179)).drew
  have cR := rR.cell
  have cX := rX.cell
  go_wp2
  go_region_held3 (fun w' => w'.cell? ⟨w1.heap.size, 0, none⟩ = some (.int .u64 (r : Int)) ∧ w'.cell? ⟨w.heap.size, 0, none⟩ = some (.int .u64 (x : Int))) (first | exact ⟨cR, cX⟩ | exact ⟨qR, qX⟩ | go_keep) ((go_at_call 104; refine (M _).mono ?_; rintro e w3 ⟨rfl, b3⟩; have sR := rR.below b3 rR.lt; have sX := rX.below b3 rX.lt; have sO := rO.below b3 rO.lt; have qR := sR.cell; have qX := sX.cell))
  have hw3 := hw2.trans (b3.mono hw2.size)
  have qO := sO.cell
  have fO := sO.frz
  have fR := sR.frz
  have hne : w1.heap.size ≠ w.heap.size + 1 := by omega
  clear b3 hw2 rX rO rR cR cX hx1 hr1 hw1 L M sX qX
  go_wp2
  have rF := sO.set 0
  refine bodyPost_ret (v := .tuple #[.agg #[.int .u64 0], .bool false]) (results_ct (fn := Tryz.f188) (p := 2) (u := 3) (ty := 179) Tryz.results188 _ _ (w.heap.size + 1) _ _ rfl rF Tryz.underlying179 rfl (by kernel_rfl)) rfl ⟨rfl, ?_⟩
  exact hw3.setCell (p := ⟨w.heap.size + 1, 0, none⟩) (by simp) _
set_option maxRecDepth 100000 in
set_option maxHeartbeats 2000000 in
theorem evenP_even (x r : Nat) (w : World) (ho : (((r : Nat) : Int) % 2 == 1) = false)
    (L : ∀ w, Calls Tryz.prog 182 #[.agg #[.int .u64 x], .int .u64 576460752303423488] w fun e w' => e = .returned (.agg #[.int .u64 r]) ∧ Below w.heap.size w w')
    (M : ∀ w, Calls Tryz.prog 104 #[.agg #[.int .u64 r], .agg #[.int .u64 r]] w fun e w' => e = .returned (.agg #[.int .u64 x]) ∧ Below w.heap.size w w') :
    Calls Tryz.prog 188 #[.agg #[.int .u64 x]] w fun e w' => e = .returned (.tuple #[.agg #[.int .u64 r], .bool true]) ∧ Below w.heap.size w w' := by
  go_enter Tryz.func188, Tryz.ntmps188
  go_wp2_with fail
  refine (L _).mono ?_
  rintro e w1 ⟨rfl, b1⟩
  have hx0 : Rp ((w.alloc (Obj.cells #[.int .u64 (x : Int)] 179)).alloc (Obj.cells #[.int .u64 0] 179)) 179 w.heap.size x := (Rp.new w _ x).alloc _
  have hr0' : Rp ((w.alloc (Obj.cells #[.int .u64 (x : Int)] 179)).alloc (Obj.cells #[.int .u64 0] 179)) 179 (w.heap.size + 1) 0 := (Rp.new _ _ 0).at (by simp)
  have hx1 := hx0.below b1 hx0.lt
  have hr1 := hr0'.below b1 hr0'.lt
  have hw1 : Below w.heap.size w w1 := (((Below.refl _ w).alloc (Nat.le_refl _) _).alloc (by simp) _).trans (b1.mono (by simp; omega))
  have hl1 : w.heap.size + 2 ≤ w1.heap.size := by have := b1.size; simp at this; omega
  clear b1 hx0 hr0'
  have rR := (Rp.new w1 179 r).drew
  have rX := (hx1.alloc (Obj.cells #[.int .u64 (r : Int)] 179)).drew
  have rO := (hr1.alloc (Obj.cells #[.int .u64 (r : Int)] 179)).drew
  have hw2 := (hw1.alloc hw1.size (Obj.cells #[.int .u64 (r : Int)] 179)).drew
  have cR := rR.cell
  have cX := rX.cell
  go_wp2
  go_region_held3 (fun w' => w'.cell? ⟨w1.heap.size, 0, none⟩ = some (.int .u64 (r : Int)) ∧ w'.cell? ⟨w.heap.size, 0, none⟩ = some (.int .u64 (x : Int))) (first | exact ⟨cR, cX⟩ | exact ⟨qR, qX⟩ | go_keep) ((go_at_call 104; refine (M _).mono ?_; rintro e w3 ⟨rfl, b3⟩; have sR := rR.below b3 rR.lt; have sX := rX.below b3 rX.lt; have sO := rO.below b3 rO.lt; have qR := sR.cell; have qX := sX.cell))
  have hw3 := hw2.trans (b3.mono hw2.size)
  have qO := sO.cell
  have fO := sO.frz
  have fR := sR.frz
  have hne : w1.heap.size ≠ w.heap.size + 1 := by omega
  clear b3 hw2 rX rO rR cR cX hx1 hr1 hw1 L M sX qX
  go_wp2
  have rF := sO.set r
  refine bodyPost_ret (v := .tuple #[.agg #[.int .u64 r], .bool true]) (results_ct (fn := Tryz.f188) (p := 2) (u := 3) (ty := 179) Tryz.results188 _ _ (w.heap.size + 1) _ _ rfl rF Tryz.underlying179 rfl (by kernel_rfl)) rfl ⟨rfl, ?_⟩
  exact hw3.setCell (p := ⟨w.heap.size + 1, 0, none⟩) (by simp) _
set_option maxRecDepth 100000 in
set_option maxHeartbeats 2000000 in
theorem evenP_odd (x r : Nat) (w : World) (ho : (((r : Nat) : Int) % 2 == 1) = true) (r' : Nat)
    (N : ∀ w, Calls Tryz.prog 177 #[.agg #[.int .u64 r]] w fun e w' => e = .returned (.agg #[.int .u64 r']) ∧ Below w.heap.size w w')
    (L : ∀ w, Calls Tryz.prog 182 #[.agg #[.int .u64 x], .int .u64 576460752303423488] w fun e w' => e = .returned (.agg #[.int .u64 r]) ∧ Below w.heap.size w w')
    (M : ∀ w, Calls Tryz.prog 104 #[.agg #[.int .u64 r], .agg #[.int .u64 r]] w fun e w' => e = .returned (.agg #[.int .u64 x]) ∧ Below w.heap.size w w') :
    Calls Tryz.prog 188 #[.agg #[.int .u64 x]] w fun e w' => e = .returned (.tuple #[.agg #[.int .u64 r'], .bool true]) ∧ Below w.heap.size w w' := by
  go_enter Tryz.func188, Tryz.ntmps188
  go_wp2_with fail
  refine (L _).mono ?_
  rintro e w1 ⟨rfl, b1⟩
  have hx0 : Rp ((w.alloc (Obj.cells #[.int .u64 (x : Int)] 179)).alloc (Obj.cells #[.int .u64 0] 179)) 179 w.heap.size x := (Rp.new w _ x).alloc _
  have hr0' : Rp ((w.alloc (Obj.cells #[.int .u64 (x : Int)] 179)).alloc (Obj.cells #[.int .u64 0] 179)) 179 (w.heap.size + 1) 0 := (Rp.new _ _ 0).at (by simp)
  have hx1 := hx0.below b1 hx0.lt
  have hr1 := hr0'.below b1 hr0'.lt
  have hw1 : Below w.heap.size w w1 := (((Below.refl _ w).alloc (Nat.le_refl _) _).alloc (by simp) _).trans (b1.mono (by simp; omega))
  have hl1 : w.heap.size + 2 ≤ w1.heap.size := by have := b1.size; simp at this; omega
  clear b1 hx0 hr0'
  have rR := (Rp.new w1 179 r).drew
  have rX := (hx1.alloc (Obj.cells #[.int .u64 (r : Int)] 179)).drew
  have rO := (hr1.alloc (Obj.cells #[.int .u64 (r : Int)] 179)).drew
  have hw2 := (hw1.alloc hw1.size (Obj.cells #[.int .u64 (r : Int)] 179)).drew
  have cR := rR.cell
  have cX := rX.cell
  go_wp2
  go_region_held3 (fun w' => w'.cell? ⟨w1.heap.size, 0, none⟩ = some (.int .u64 (r : Int)) ∧ w'.cell? ⟨w.heap.size, 0, none⟩ = some (.int .u64 (x : Int))) (first | exact ⟨cR, cX⟩ | exact ⟨qR, qX⟩ | go_keep) ((go_at_call 104; refine (M _).mono ?_; rintro e w3 ⟨rfl, b3⟩; have sR := rR.below b3 rR.lt; have sX := rX.below b3 rX.lt; have sO := rO.below b3 rO.lt; have qR := sR.cell; have qX := sX.cell))
  have hw3 := hw2.trans (b3.mono hw2.size)
  have qO := sO.cell
  have fO := sO.frz
  have fR := sR.frz
  have hne : w1.heap.size ≠ w.heap.size + 1 := by omega
  clear b3 hw2 rX rO rR cR cX hx1 hr1 hw1 L M sX qX
  go_wp2_with fail
  refine (N _).mono ?_
  rintro e w4 ⟨rfl, b4⟩
  replace sR := sR.below b4 sR.lt
  replace sO := sO.below b4 sO.lt
  replace hw3 := hw3.trans (b4.mono hw3.size)
  clear b4 qR qO fO fR N
  have qR := sR.cell
  have qO := sO.cell
  have fO := sO.frz
  have fR := sR.frz
  have tR := sR.set r'
  have tO : Rp (w4.setCell ⟨w1.heap.size, 0, none⟩ (.int .u64 (r' : Int))) _ _ _ := sO.other (Ne.symm hne) _
  have hw4 := hw3.setCell (p := ⟨w1.heap.size, 0, none⟩) (by simp; omega) (.int .u64 (r' : Int))
  have uR := tR.cell
  have uO := tO.cell
  have gO := tO.frz
  go_wp2
  have rF := tO.set r'
  refine bodyPost_ret (v := .tuple #[.agg #[.int .u64 r'], .bool true]) (results_ct (fn := Tryz.f188) (p := 2) (u := 3) (ty := 179) Tryz.results188 _ _ (w.heap.size + 1) _ _ rfl rF Tryz.underlying179 rfl (by kernel_rfl)) rfl ⟨rfl, ?_⟩
  exact hw4.setCell (p := ⟨w.heap.size + 1, 0, none⟩) (by simp) _
end Go.Proofs.YtjmhmajfkdglnaaGreatDoor
