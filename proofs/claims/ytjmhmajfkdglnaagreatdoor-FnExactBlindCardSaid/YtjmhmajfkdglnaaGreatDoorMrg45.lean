import Derived.Test.YtjmhmajfkdglnaaGreatDoorMrg40
import Derived.Test.YtjmhmajfkdglnaaGreatDoorMrg44
import Derived.Test.YtjmhmajfkdglnaaGreatDoorMrg20
import Derived.Test.YtjmhmajfkdglnaaGreatDoorMrg43
import Derived.Test.YtjmhmajfkdglnaaGreatDoorMrg42
import Derived.Test.YtjmhmajfkdglnaaGreatDoorMrg32
import Derived.Test.YtjmhmajfkdglnaaGreatDoorMrg33
/-
  The program's tweaked keys.
-/
namespace Go.Proofs.YtjmhmajfkdglnaaGreatDoor
open Go.RowKit M
set_option linter.unusedVariables false

set_option maxRecDepth 100000 in
theorem bspI (w : World) : Calls Tryz.prog 67 #[] w fun e w' => e = .returned (.agg #[.int .u64 (px gG), .int .u64 (py gG), .bool (pb gG)]) ∧ Below w.heap.size w w' := by
  have h : Calls Tryz.prog 67 #[] w fun e w' => e = .returned (.agg #[.int .u64 1, .int .u64 509478702933351334, .bool false]) ∧ Below w.heap.size w w' := by
    go_enter Tryz.func67, Tryz.ntmps67
    go_wp2
    refine bodyPost_ret (v := .agg #[.int .u64 1, .int .u64 509478702933351334, .bool false]) (by simp [results, Tryz.results67, go_sem]) rfl ⟨rfl, (Below.refl _ w).alloc (Nat.le_refl _) _⟩
  exact h
set_option maxRecDepth 100000 in
set_option maxHeartbeats 1000000 in
theorem ntwI (cx info : ByteArray) (x y : Int) (c : Bool) (w : World) :
    Calls Tryz.prog 153 #[.agg #[.string cx, .string info], .agg #[.int .u64 x, .int .u64 y, .bool c]] w fun e w' => e = .returned (.tuple #[.agg #[.int .u64 0, .int .u64 0, .bool true], .nilIface]) ∧ Below w.heap.size w w' := by
  obtain ⟨X, hX⟩ : ∃ X, X = ((w.alloc (Obj.cells #[.string cx, .string info] 133)).alloc (Obj.cells #[.int .u64 x, .int .u64 y, .bool c] 106)).alloc (Obj.cells #[.int .u64 0, .int .u64 0, .bool false] 106) := ⟨_, rfl⟩
  have hr : K3 X 106 (w.heap.size + 1 + 1) 0 0 false := by rw [hX]; exact (K3.new _ _ _ _ _).at (by simp)
  have hb : Below w.heap.size w X := by rw [hX]; exact (((Below.refl _ w).alloc (Nat.le_refl _) _).alloc (by simp) _).alloc (by simp; omega) _
  rw [hX] at hr hb
  clear hX
  go_enter Tryz.func153, Tryz.ntmps153
  go_wp2_with fail
  refine (zpP _).mono ?_
  rintro e w1 ⟨rfl, b1⟩
  replace hr := hr.keep b1
  replace hb := hb.trans (b1.mono hb.size)
  clear b1
  have c0 := hr.c0
  have c1 := hr.c1
  have c2 := hr.c2
  have cf := hr.frz
  go_wp2
  exact bodyPost_ret (v := .tuple #[.agg #[.int .u64 0, .int .u64 0, .bool true], .nilIface]) (cpt_res (fn := Tryz.f153) (p := 4) (u := 5) Tryz.results153 _ rfl (hr.set 0 0 true)) rfl ⟨rfl, set3_below hb (by omega)⟩
set_option maxRecDepth 100000 in
set_option maxHeartbeats 4000000 in
theorem patI_of (cx info : ByteArray) (k : Int) (q u s : Pt) (a0 a1 a2 a3 : Addr) (w : World) (hs : Sn w a0 a1 a2 a3)
    (TW : ∀ w', Below w.heap.size w w' → Calls Tryz.prog 185 #[.agg #[.string cx, .string info]] w' fun e w'' => e = .returned (.agg #[.int .u64 k]) ∧ Below w'.heap.size w' w'')
    (TM : ∀ w, Calls Tryz.prog 68 #[.agg #[.int .u64 (px gG), .int .u64 (py gG), .bool (pb gG)], .int .u64 k] w fun e w' => e = .returned (.agg #[.int .u64 (px u), .int .u64 (py u), .bool (pb u)]) ∧ Below w.heap.size w w')
    (PL : ∀ w, Calls Tryz.prog 107 #[.agg #[.int .u64 (px u), .int .u64 (py u), .bool (pb u)], .agg #[.int .u64 (px q), .int .u64 (py q), .bool (pb q)]] w fun e w' => e = .returned (.agg #[.int .u64 (px s), .int .u64 (py s), .bool (pb s)]) ∧ Below w.heap.size w w') :
    Calls Tryz.prog 161 #[.agg #[.string cx, .string info], .agg #[.int .u64 (px q), .int .u64 (py q), .bool (pb q)]] w fun e w' => e = .returned (.tuple #[.agg #[.int .u64 (px s), .int .u64 (py s), .bool (pb s)], if pb s = true then sen a2 else .nilIface]) ∧ Below w.heap.size w w' := by
  obtain ⟨V, hV⟩ : ∃ V, Hid (V = (if pb s = true then sen a2 else Value.nilIface)) := ⟨_, rfl⟩
  rw [← hV.out]
  have hg0 : 2 < w.heap.size := World.block_lt_of_cell? w _ hs.c2
  obtain ⟨X, hX⟩ : ∃ X, X = ((w.alloc (Obj.cells #[.string cx, .string info] 133)).alloc (Obj.cells #[.int .u64 (px q), .int .u64 (py q), .bool (pb q)] 106)).alloc (Obj.cells #[.int .u64 0, .int .u64 0, .bool false] 106) := ⟨_, rfl⟩
  have r0 : Bk X 133 w.heap.size #[.string cx, .string info] := by rw [hX]; exact ((Bk.new _ _ _).alloc _).alloc _
  have r1 : K3 X 106 (w.heap.size + 1) (px q) (py q) (pb q) := by rw [hX]; exact ((K3.new _ _ _ _ _).at (by simp)).alloc _
  have hr : K3 X 106 (w.heap.size + 1 + 1) 0 0 false := by rw [hX]; exact (K3.new _ _ _ _ _).at (by simp)
  have hb : Below w.heap.size w X := by rw [hX]; exact (((Below.refl _ w).alloc (Nat.le_refl _) _).alloc (by simp) _).alloc (by simp; omega) _
  go_enter Tryz.func161, Tryz.ntmps161
  go_wp2
  rw [← hX]
  clear hX
  have s0 : X.drew.cell? ⟨w.heap.size, 0, none⟩ = _ := r0.cell (k := 0) rfl
  have s1 : X.drew.cell? ⟨w.heap.size, 1, none⟩ = _ := r0.cell (k := 1) rfl
  have k0 : X.drew.cell? ⟨w.heap.size + 1, 0, none⟩ = _ := r1.c0
  have k1 : X.drew.cell? ⟨w.heap.size + 1, 1, none⟩ = _ := r1.c1
  have k2 : X.drew.cell? ⟨w.heap.size + 1, 2, none⟩ = _ := r1.c2
  have TW' : ∀ w', Below X.drew.heap.size X.drew w' → _ := fun w' h => TW w' (hb.drew.trans (h.mono hb.size))
  refine G.pool_list (W := X) [] [.val (.agg #[.int .u64 (px gG), .int .u64 (py gG), .bool (pb gG)]),
      .val (.agg #[.string cx, .string info]),
      .val (.agg #[.int .u64 k]),
      .val (.int .u64 k),
      .val (.agg #[.int .u64 (px u), .int .u64 (py u), .bool (pb u)]),
      .val (.agg #[.int .u64 (px q), .int .u64 (py q), .bool (pb q)]),
      .val (.agg #[.int .u64 (px s), .int .u64 (py s), .bool (pb s)]),
      .new (.cells #[.int .u64 0, .int .u64 0, .bool false] 106) (.cells #[.int .u64 (px s), .int .u64 (py s), .bool (pb s)] 106) 8,
      .put 7] [[], [2], [8], [9], [7, 10], [3], [11, 12], [], [6, 13]] (fun f => [(some 7, .agg #[.int .u64 (px gG), .int .u64 (py gG), .bool (pb gG)]), (some 8, .agg #[.string cx, .string info]), (some 9, .agg #[.int .u64 k]), (some 10, .int .u64 k), (some 11, .agg #[.int .u64 (px u), .int .u64 (py u), .bool (pb u)]), (some 12, .agg #[.int .u64 (px q), .int .u64 (py q), .bool (pb q)]), (some 13, .agg #[.int .u64 (px s), .int .u64 (py s), .bool (pb s)]), (some 6, .pointer (some ⟨f 7, 0, none⟩)), (none, undef)]) (by kernel_rfl) (by kernel_rfl) (by kernel_rfl) (by kernel_rfl) (fun _ => by kernel_rfl) (G.last_of [.cells #[.int .u64 0, .int .u64 0, .bool false] 106] (fun F R hm => by simp at hm) (fun ob ob' k hm => by simp at hm; simp [hm]) (fun b ob ob' hm => by simp at hm)) (fun b ob ob' hm => by simp at hm) ?_ ?_
  · intro ix hix
    match ix, hix with
    | 0, _ => exact G.ob_val [] rfl rfl (fun _ => by kernel_rfl) (fun A w _ hB => cl0 cf_impl_basePoint  (bspI w))
    | 1, _ => exact G.ob_val [(2, .pointer (some ⟨w.heap.size, 0, none⟩))] rfl rfl (fun _ => by kernel_rfl) (fun A w ⟨e0, _⟩ hB => ld_set e0 (hB.cell s0 (by simp)) (hB.cell s1 (by simp)))
    | 2, _ => exact G.ob_val [(8, .agg #[.string cx, .string info])] rfl rfl (fun _ => by kernel_rfl) (fun A w ⟨e0, _⟩ hB => cl1 cf_impl_setting_tweak e0 (TW' w hB.below))
    | 3, _ => exact G.ob_val [(9, .agg #[.int .u64 k])] rfl rfl (fun _ => by kernel_rfl) (fun A w ⟨e0, _⟩ hB => fl_nN1 e0)
    | 4, _ => exact G.ob_val [(7, .agg #[.int .u64 (px gG), .int .u64 (py gG), .bool (pb gG)]), (10, .int .u64 k)] rfl rfl (fun _ => by kernel_rfl) (fun A w ⟨e0, e1, _⟩ hB => cl2 cf_impl_curvePoint_times e0 e1 (TM w))
    | 5, _ => exact G.ob_val [(3, .pointer (some ⟨w.heap.size + 1, 0, none⟩))] rfl rfl (fun _ => by kernel_rfl) (fun A w ⟨e0, _⟩ hB => ld_cp e0 (hB.cell k0 (by simp)) (hB.cell k1 (by simp)) (hB.cell k2 (by simp)))
    | 6, _ => exact G.ob_val [(11, .agg #[.int .u64 (px u), .int .u64 (py u), .bool (pb u)]), (12, .agg #[.int .u64 (px q), .int .u64 (py q), .bool (pb q)])] rfl rfl (fun _ => by kernel_rfl) (fun A w ⟨e0, e1, _⟩ hB => cl2 cf_impl_curvePoint_plus e0 e1 (PL w))
    | 7, _ => exact G.ob_new rfl rfl (fun A w => al_cp)
    | 8, _ => exact G.ob_put 6 (fun f => [(6, .pointer (some ⟨f 7, 0, none⟩)), (13, .agg #[.int .u64 (px s), .int .u64 (py s), .bool (pb s)])]) rfl rfl rfl (by decide) (by kernel_rfl) rfl (fun _ => by kernel_rfl) (fun f A w ⟨e0, e1, _⟩ hr => pu_cp e0 e1 hr)
    | ix + 9, h => exact absurd h (by simp)
  intro f W3 hS hnew _ _ _
  have b3 : Below X.heap.size X W3 := (Below.refl _ X).drew.trans hS.below
  have r6 : K3 W3 106 (f 7) (px s) (py s) (pb s) := (hnew 7 _ _ _ rfl (by decide)).2
  generalize f 7 = B6 at *
  replace hr := hr.keep b3
  replace hb := hb.trans (b3.mono hb.size)
  replace hs := hs.keep hb
  clear hS hnew b3 s0 s1 k0 k1 k2 r0 r1 TW TW' TM PL
  simp only [puts, List.foldl, Act.put, List.setIfInBounds_toArray, List.set_cons_zero, List.set_cons_succ]
  go_wp2
  have m0 : W3.drew.cell? ⟨B6, 0, none⟩ = _ := r6.c0
  have m1 : W3.drew.cell? ⟨B6, 1, none⟩ = _ := r6.c1
  have m2 : W3.drew.cell? ⟨B6, 2, none⟩ = _ := r6.c2
  refine G.pool_list (W := W3) [] [.val (.agg #[.int .u64 (px s), .int .u64 (py s), .bool (pb s)]),
      .val (.agg #[.int .u64 0, .int .u64 0, .bool true]),
      .val (.bool (pb s))] [[6], [], [14, 15]] (fun f => [(some 14, .agg #[.int .u64 (px s), .int .u64 (py s), .bool (pb s)]), (some 15, .agg #[.int .u64 0, .int .u64 0, .bool true]), (some 16, .bool (pb s))]) (by kernel_rfl) (by kernel_rfl) (by kernel_rfl) (by kernel_rfl) (fun _ => by kernel_rfl) (G.last_of [] (fun F R hm => by simp at hm) (fun ob ob' k hm => by simp at hm) (fun b ob ob' hm => by simp at hm)) (fun b ob ob' hm => by simp at hm) ?_ ?_
  · intro ix hix
    match ix, hix with
    | 0, _ => exact G.ob_val [(6, .pointer (some ⟨B6, 0, none⟩))] rfl rfl (fun _ => by kernel_rfl) (fun A w ⟨e0, _⟩ hB => ld_cp e0 (hB.cell m0 (by simp)) (hB.cell m1 (by simp)) (hB.cell m2 (by simp)))
    | 1, _ => exact G.ob_val [] rfl rfl (fun _ => by kernel_rfl) (fun A w _ hB => cl0 cf_impl_zeroPoint  (zpP w))
    | 2, _ => exact G.ob_val [(14, .agg #[.int .u64 (px s), .int .u64 (py s), .bool (pb s)]), (15, .agg #[.int .u64 0, .int .u64 0, .bool true])] rfl rfl (fun _ => by kernel_rfl) (fun A w ⟨e0, e1, _⟩ hB => eq_cpz e0 e1)
    | ix + 3, h => exact absurd h (by simp)
  intro f W4 hS _ _ _ _
  have b3 : Below W3.heap.size W3 W4 := (Below.refl _ W3).drew.trans hS.below
  replace hr := hr.keep b3
  replace r6 := r6.keep b3
  replace hs := hs.keep b3
  replace hb := hb.trans (b3.mono hb.size)
  clear hS b3 m0 m1 m2
  simp only [puts, List.foldl, Act.put, List.setIfInBounds_toArray, List.set_cons_zero, List.set_cons_succ]
  cases hz : pb s with
  | true =>
    have hp0 : px s = 0 ∧ py s = 0 := by
      have := (pb_none s).1 hz
      subst this; exact ⟨rfl, rfl⟩
    go_wp2
    have g2 : W4.drew.cell? ⟨2, 0, none⟩ = _ := hs.c2
    have n0 : 2 ∉ [w.heap.size + 1 + 1] := fun h => absurd (List.mem_singleton.1 h) (by omega)
    have l1 : w.heap.size + 1 + 1 < W4.drew.heap.size := hr.lt
    refine G.pool_list (W := W4) [w.heap.size + 1 + 1] [.val (.agg #[.int .u64 0, .int .u64 0, .bool true]),
        .val (sen a2),
        .set (w.heap.size + 1 + 1) (.cells #[.int .u64 0, .int .u64 0, .bool false] 106) (.cells #[.int .u64 0, .int .u64 0, .bool true] 106),
        .val (sen a2)] [[], [], [4, 17], [18]] (fun f => [(some 17, .agg #[.int .u64 0, .int .u64 0, .bool true]), (some 18, sen a2), (none, undef), (some 5, sen a2)]) (by kernel_rfl) (by kernel_rfl) (by kernel_rfl) (by kernel_rfl) (fun _ => by kernel_rfl) (G.last_of [.cells #[.int .u64 0, .int .u64 0, .bool false] 106] (fun F R hm => by simp at hm) (fun ob ob' k hm => by simp at hm) (fun b ob ob' hm => by simp at hm; simp [hm])) (fun b ob ob' hm => by simp at hm; obtain ⟨rfl, rfl, -⟩ := hm; exact hr) ?_ ?_
    · intro ix hix
      match ix, hix with
      | 0, _ => exact G.ob_val [] rfl rfl (fun _ => by kernel_rfl) (fun A w _ hB => cl0 cf_impl_zeroPoint  (zpP w))
      | 1, _ => exact G.ob_val [] rfl rfl (fun _ => by kernel_rfl) (fun A w _ hB => ld_err rfl (hB.cell g2 n0))
      | 2, _ => exact G.ob_set (fun f => [(4, .pointer (some ⟨w.heap.size + 1 + 1, 0, none⟩)), (17, .agg #[.int .u64 0, .int .u64 0, .bool true])]) rfl rfl rfl (by simp) l1 (fun j ob1 ob2 h => by (rcases j with _ | _ | _ | _ | j) <;> simp [G.kindOf] at h ⊢ <;> omega) (fun _ => by kernel_rfl) (fun f A w ⟨e0, e1, _⟩ hh hr => pu_cp e0 e1 hr)
      | 3, _ => exact G.ob_val [(18, sen a2)] rfl rfl (fun _ => by kernel_rfl) (fun A w ⟨e0, _⟩ hB => doV_assign e0)
      | ix + 4, h => exact absurd h (by simp)
    intro f W5 hS _ _ _ hset
    have q1 : K3 W5 106 (w.heap.size + 1 + 1) 0 0 true := hset 2 _ _ _ rfl (by decide)
    have hb3 : Below w.heap.size w W5 := hS.under hb.drew (by intro b h; rw [List.mem_singleton.1 h]; omega) hb.size
    clear hset hS g2
    simp only [puts, List.foldl, Act.put, List.setIfInBounds_toArray, List.set_cons_zero, List.set_cons_succ]
    go_wp2
    exact bodyPost_ret (v := .tuple #[.agg #[.int .u64 0, .int .u64 0, .bool true], sen a2]) (cpt_res (fn := Tryz.f161) (p := 4) (u := 5) Tryz.results161 _ rfl q1) rfl ⟨by rw [hV.out, hz, hp0.1, hp0.2, if_pos rfl], hb3⟩
  | false =>
    rw [hz] at r6
    have c0 := hr.c0
    have c1 := hr.c1
    have c2 := hr.c2
    have cf := hr.frz
    have k0 := r6.c0
    have k1 := r6.c1
    have k2 := r6.c2
    go_wp2
    exact bodyPost_ret (v := .tuple #[.agg #[.int .u64 (px s), .int .u64 (py s), .bool false], .nilIface]) (cpt_res (fn := Tryz.f161) (p := 4) (u := 5) Tryz.results161 _ rfl (hr.set (px s) (py s) false)) rfl ⟨by rw [hV.out, hz, if_neg (by decide)], set3_below hb (by omega)⟩
end Go.Proofs.YtjmhmajfkdglnaaGreatDoor

namespace Go.Proofs.YtjmhmajfkdglnaaGreatDoor
open Go.RowKit M
set_option linter.unusedVariables false

set_option maxRecDepth 100000 in
theorem baseS (w : World) : Calls Tryz.prog 44 #[] w fun e w' => e = .returned (ptW gG) ∧ Below w.heap.size w w' := by
  go_enter Tryz.func44, Tryz.ntmps44
  go_wp2
  refine bodyPost_ret (v := .agg #[.int .u64 1, .int .u64 509478702933351334, .bool false]) (by simp [results, Tryz.results44, go_sem]) rfl ⟨rfl, (Below.refl _ w).alloc (Nat.le_refl _) _⟩
end Go.Proofs.YtjmhmajfkdglnaaGreatDoor

/-
  The model's Blind.
-/
namespace Go.Proofs.YtjmhmajfkdglnaaGreatDoor
open Go.RowKit M
set_option linter.unusedVariables false

def zBld : Array Value := #[.int .u64 0, .int .u64 0, .bool false, .int .u64 0, .int .u64 0, .bool false]
theorem sizeBld : (Tryz.prog.info? 30).map (·.size) = some 6 := by kernel_rfl
theorem Bk.sets {W : World} {t : TypeId} {b : Nat} {cs : Array Value} (h : Bk W t b cs) (ds : List Value) (hl : ds.length = cs.size) : Bk (W.setCells b 0 ds) t b ds.toArray := by
  have := setCells_full b t ds 0 W cs.toList (by unfold Bk at h; simpa using h) (by simp; omega)
  unfold Bk
  rw [this]
  simp [hl, List.drop_eq_nil_of_le]
theorem sizePt3 : (Tryz.prog.info? 28).map (·.size) = some 3 := by kernel_rfl
theorem Bk.there3 {W : World} {t : TypeId} {b : Nat} {v0 v1 v2 v3 v4 v5 : Value} (h : Bk W t b #[v0, v1, v2, v3, v4, v5]) : W.there b 3 3 := fun j hj => by
  rcases (show j = 0 ∨ j = 1 ∨ j = 2 by omega) with rfl | rfl | rfl
  · exact ⟨by rw [h.cell (k := 3) (v := v3) rfl]; rfl, h.frz _⟩
  · exact ⟨by rw [h.cell (k := 4) (v := v4) rfl]; rfl, h.frz _⟩
  · exact ⟨by rw [h.cell (k := 5) (v := v5) rfl]; rfl, h.frz _⟩
theorem Bk.set3 {W : World} {t : TypeId} {b : Nat} {v0 v1 v2 v3 v4 v5 : Value} (h : Bk W t b #[v0, v1, v2, v3, v4, v5]) (u3 u4 u5 : Value) : Bk (W.setCells b 3 [u3, u4, u5]) t b #[v0, v1, v2, u3, u4, u5] := by
  have := setCells_full b t [u3, u4, u5] 3 W [v0, v1, v2, v3, v4, v5] h (by simp)
  exact this
theorem Bk.setsO {W : World} {t : TypeId} {b b' : Nat} {cs : Array Value} (h : Bk W t b cs) (hne : b ≠ b') (o : Nat) (ds : List Value) : Bk (W.setCells b' o ds) t b cs :=
  (World.heap_setCells_other W b' o ds h.lt hne).trans h
theorem pu_f3 {A : Act} {w : World} {dst : Option Tmp} {ty : TypeId} {ps : String} {af : Array Edge} {gd : Option (Nat × Bool)} {x y : Operand} {b : Nat} {v0 v1 v2 v3 v4 v5 u3 u4 u5 : Value} {T' : TypeId} (hx : A.eval x = .pointer (some ⟨b, 3, none⟩)) (hy : A.eval y = .agg #[u3, u4, u5]) (hr : w.heap[b]? = some (.cells #[v0, v1, v2, v3, v4, v5] T')) (h1 : (#[u3, u4, u5] : Array Value).all (·.oneCell') = true) :
    Does Tryz.prog { dst := dst, op := .store 28 x y, type := ty, pos := ps, after := af, guard := gd } A w fun _ w' => Turned b (.cells #[v0, v1, v2, u3, u4, u5] T') w w' := by
  have hB : Bk w T' b #[v0, v1, v2, v3, v4, v5] := hr
  have h : (execOp A.eval { dst := dst, op := .store 28 x y, type := ty, pos := ps, after := af, guard := gd }).run Tryz.prog w = .ok .skip (w.setCells b 3 [u3, u4, u5]) := by
    unfold execOp
    simp only [hx, hy, Instr.storeAt, Instr.sureAddr, Sem.run_bind, Sem.run_pure, Result.andThen_ok, run_storeVar_mid w b 3 28 #[u3, u4, u5] hB.there3 sizePt3 h1]
  refine does_skip h ⟨World.os_setCells w b 3 _, setCells_tape b _ 3 w, World.output_setCells w b 3 _, setCells_size b _ 3 w, hB.set3 u3 u4 u5, fun k hk => ?_⟩
  by_cases hlt : k < w.heap.size
  · exact World.heap_setCells_other w b 3 _ hlt hk
  · rw [Array.getElem?_eq_none (by rw [setCells_size]; omega), Array.getElem?_eq_none (by omega)]
set_option maxRecDepth 100000 in
theorem zroS (w : World) :
    Calls Tryz.prog 41 #[] w fun e w' => e = .returned (.agg #[.int .u64 0, .int .u64 0, .bool true]) ∧ Below w.heap.size w w' := by
  go_enter Tryz.func41, Tryz.ntmps41
  go_wp2
  refine bodyPost_ret (v := .agg #[.int .u64 0, .int .u64 0, .bool true]) (by simp [results, Tryz.results41, go_sem]) rfl ⟨rfl, ?_⟩
  exact (Below.refl _ w).alloc (Nat.le_refl _) _
theorem cf_spec_l6Tweak (args : Array Value) (w : World) : (callFunc 43 args).run Tryz.prog w = .ok (.enter 43 args) w := by kernel_rfl
theorem cf_spec_Base (args : Array Value) (w : World) : (callFunc 44 args).run Tryz.prog w = .ok (.enter 44 args) w := by kernel_rfl
theorem bsG (w : World) : Calls Tryz.prog 44 #[] w fun e w' => e = .returned (.agg #[.int .u64 (px gG), .int .u64 (py gG), .bool (pb gG)]) ∧ Below w.heap.size w w' := by
  have := baseS w
  rwa [ptW_eq] at this
section
variable (mode x y k : Int) (c : Bool) (input info : ByteArray) (w : World)
set_option maxRecDepth 100000 in
set_option maxHeartbeats 4000000 in
theorem bldS_a
    (T : ∀ w, Calls Tryz.prog 32 #[.int .i64 mode, .string input, .string info] w fun e w' => e = .returned (.bool false) ∧ w = w') :
    Calls Tryz.prog 10 #[.int .i64 mode, .string input, .string info, .agg #[.int .u64 x, .int .u64 y, .bool c], .int .u64 k] w fun e w' => e = .returned (.tuple #[.agg #[.int .u64 0, .int .u64 0, .bool false, .int .u64 0, .int .u64 0, .bool false], .int .i64 1]) ∧ Below w.heap.size w w' := by
  obtain ⟨X, hX⟩ : ∃ X, X = ((w.alloc (Obj.cells #[.int .u64 x, .int .u64 y, .bool c] 28)).alloc (Obj.cells #[.int .u64 0, .int .u64 0, .bool false, .int .u64 0, .int .u64 0, .bool false] 30)).alloc (Obj.cells #[.int .u64 0, .int .u64 0, .bool false, .int .u64 0, .int .u64 0, .bool false] 30) := ⟨_, rfl⟩
  have r8 : Bk X 28 w.heap.size #[.int .u64 x, .int .u64 y, .bool c] := by rw [hX]; exact ((Bk.new _ _ _).alloc _).alloc _
  have r10 : Bk X 30 (w.heap.size + 1) #[.int .u64 0, .int .u64 0, .bool false, .int .u64 0, .int .u64 0, .bool false] := by rw [hX]; exact ((Bk.new _ _ _).at (by simp)).alloc _
  have r12 : Bk X 30 (w.heap.size + 1 + 1) #[.int .u64 0, .int .u64 0, .bool false, .int .u64 0, .int .u64 0, .bool false] := by rw [hX]; exact (Bk.new _ _ _).at (by simp)
  have hb : Below w.heap.size w X := by rw [hX]; exact (((Below.refl _ w).alloc (Nat.le_refl _) _).alloc (by simp) _).alloc (by simp; omega) _
  rw [hX] at r8 r10 r12 hb
  clear hX
  have p0 := r8.cell (k := 0) rfl
  have p1 := r8.cell (k := 1) rfl
  have p2 := r8.cell (k := 2) rfl
  go_enter Tryz.func10, Tryz.ntmps10
  go_wp2_with fail
  refine (T _).mono ?_
  rintro e w1 ⟨rfl, rfl⟩
  clear T
  have z0 := r12.cell (k := 0) rfl
  have z1 := r12.cell (k := 1) rfl
  have z2 := r12.cell (k := 2) rfl
  have z3 := r12.cell (k := 3) rfl
  have z4 := r12.cell (k := 4) rfl
  have z5 := r12.cell (k := 5) rfl
  have hth := r10.there 6 (by decide)
  go_wp2_with (refine wpList_store_mid rfl 30 _ _ rfl (w.heap.size + 1) 0 #[.int .u64 0, .int .u64 0, .bool false, .int .u64 0, .int .u64 0, .bool false] rfl rfl hth sizeBld (by kernel_rfl) ?_)
  exact bodyPost_ret (v := .tuple #[.agg #[.int .u64 0, .int .u64 0, .bool false, .int .u64 0, .int .u64 0, .bool false], .int .i64 1]) (bk_res2 (fn := Tryz.f10) (p := 10) (u := 11) Tryz.results10 _ rfl (r10.sets _ rfl) Tryz.underlying30 rfl sizeBld) rfl ⟨rfl, below_setCells hb (by omega) _ _⟩
set_option maxRecDepth 100000 in
set_option maxHeartbeats 4000000 in
theorem bldS_b
    (T : ∀ w, Calls Tryz.prog 32 #[.int .i64 mode, .string input, .string info] w fun e w' => e = .returned (.bool true) ∧ w = w')
    (E : ∀ w, Calls Tryz.prog 40 #[.agg #[.int .u64 x, .int .u64 y, .bool c]] w fun e w' => e = .returned (.bool false) ∧ Below w.heap.size w w') :
    Calls Tryz.prog 10 #[.int .i64 mode, .string input, .string info, .agg #[.int .u64 x, .int .u64 y, .bool c], .int .u64 k] w fun e w' => e = .returned (.tuple #[.agg #[.int .u64 0, .int .u64 0, .bool false, .int .u64 0, .int .u64 0, .bool false], .int .i64 1]) ∧ Below w.heap.size w w' := by
  obtain ⟨X, hX⟩ : ∃ X, X = ((w.alloc (Obj.cells #[.int .u64 x, .int .u64 y, .bool c] 28)).alloc (Obj.cells #[.int .u64 0, .int .u64 0, .bool false, .int .u64 0, .int .u64 0, .bool false] 30)).alloc (Obj.cells #[.int .u64 0, .int .u64 0, .bool false, .int .u64 0, .int .u64 0, .bool false] 30) := ⟨_, rfl⟩
  have r8 : Bk X 28 w.heap.size #[.int .u64 x, .int .u64 y, .bool c] := by rw [hX]; exact ((Bk.new _ _ _).alloc _).alloc _
  have r10 : Bk X 30 (w.heap.size + 1) #[.int .u64 0, .int .u64 0, .bool false, .int .u64 0, .int .u64 0, .bool false] := by rw [hX]; exact ((Bk.new _ _ _).at (by simp)).alloc _
  have r12 : Bk X 30 (w.heap.size + 1 + 1) #[.int .u64 0, .int .u64 0, .bool false, .int .u64 0, .int .u64 0, .bool false] := by rw [hX]; exact (Bk.new _ _ _).at (by simp)
  have hb : Below w.heap.size w X := by rw [hX]; exact (((Below.refl _ w).alloc (Nat.le_refl _) _).alloc (by simp) _).alloc (by simp; omega) _
  rw [hX] at r8 r10 r12 hb
  clear hX
  have p0 := r8.cell (k := 0) rfl
  have p1 := r8.cell (k := 1) rfl
  have p2 := r8.cell (k := 2) rfl
  go_enter Tryz.func10, Tryz.ntmps10
  go_wp2_with fail
  refine (T _).mono ?_
  rintro e w1 ⟨rfl, rfl⟩
  clear T
  go_wp2_with fail
  refine (E _).mono ?_
  rintro e w2 ⟨rfl, b1⟩
  replace r8 := r8.keep b1
  replace r10 := r10.keep b1
  replace r12 := r12.keep b1
  replace hb := hb.trans (b1.mono hb.size)
  clear E b1 p0 p1 p2
  have z0 := r12.cell (k := 0) rfl
  have z1 := r12.cell (k := 1) rfl
  have z2 := r12.cell (k := 2) rfl
  have z3 := r12.cell (k := 3) rfl
  have z4 := r12.cell (k := 4) rfl
  have z5 := r12.cell (k := 5) rfl
  have hth := r10.there 6 (by decide)
  go_wp2_with (refine wpList_store_mid rfl 30 _ _ rfl (w.heap.size + 1) 0 #[.int .u64 0, .int .u64 0, .bool false, .int .u64 0, .int .u64 0, .bool false] rfl rfl hth sizeBld (by kernel_rfl) ?_)
  exact bodyPost_ret (v := .tuple #[.agg #[.int .u64 0, .int .u64 0, .bool false, .int .u64 0, .int .u64 0, .bool false], .int .i64 1]) (bk_res2 (fn := Tryz.f10) (p := 10) (u := 11) Tryz.results10 _ rfl (r10.sets _ rfl) Tryz.underlying30 rfl sizeBld) rfl ⟨rfl, below_setCells hb (by omega) _ _⟩
set_option maxRecDepth 100000 in
set_option maxHeartbeats 4000000 in
theorem bldS_c
    (T : ∀ w, Calls Tryz.prog 32 #[.int .i64 mode, .string input, .string info] w fun e w' => e = .returned (.bool true) ∧ w = w')
    (E : ∀ w, Calls Tryz.prog 40 #[.agg #[.int .u64 x, .int .u64 y, .bool c]] w fun e w' => e = .returned (.bool true) ∧ Below w.heap.size w w')
    (K : ∀ w, Calls Tryz.prog 33 #[.int .u64 k] w fun e w' => e = .returned (.bool false) ∧ w = w') :
    Calls Tryz.prog 10 #[.int .i64 mode, .string input, .string info, .agg #[.int .u64 x, .int .u64 y, .bool c], .int .u64 k] w fun e w' => e = .returned (.tuple #[.agg #[.int .u64 0, .int .u64 0, .bool false, .int .u64 0, .int .u64 0, .bool false], .int .i64 1]) ∧ Below w.heap.size w w' := by
  obtain ⟨X, hX⟩ : ∃ X, X = ((w.alloc (Obj.cells #[.int .u64 x, .int .u64 y, .bool c] 28)).alloc (Obj.cells #[.int .u64 0, .int .u64 0, .bool false, .int .u64 0, .int .u64 0, .bool false] 30)).alloc (Obj.cells #[.int .u64 0, .int .u64 0, .bool false, .int .u64 0, .int .u64 0, .bool false] 30) := ⟨_, rfl⟩
  have r8 : Bk X 28 w.heap.size #[.int .u64 x, .int .u64 y, .bool c] := by rw [hX]; exact ((Bk.new _ _ _).alloc _).alloc _
  have r10 : Bk X 30 (w.heap.size + 1) #[.int .u64 0, .int .u64 0, .bool false, .int .u64 0, .int .u64 0, .bool false] := by rw [hX]; exact ((Bk.new _ _ _).at (by simp)).alloc _
  have r12 : Bk X 30 (w.heap.size + 1 + 1) #[.int .u64 0, .int .u64 0, .bool false, .int .u64 0, .int .u64 0, .bool false] := by rw [hX]; exact (Bk.new _ _ _).at (by simp)
  have hb : Below w.heap.size w X := by rw [hX]; exact (((Below.refl _ w).alloc (Nat.le_refl _) _).alloc (by simp) _).alloc (by simp; omega) _
  rw [hX] at r8 r10 r12 hb
  clear hX
  have p0 := r8.cell (k := 0) rfl
  have p1 := r8.cell (k := 1) rfl
  have p2 := r8.cell (k := 2) rfl
  go_enter Tryz.func10, Tryz.ntmps10
  go_wp2_with fail
  refine (T _).mono ?_
  rintro e w1 ⟨rfl, rfl⟩
  clear T
  go_wp2_with fail
  refine (E _).mono ?_
  rintro e w2 ⟨rfl, b1⟩
  replace r8 := r8.keep b1
  replace r10 := r10.keep b1
  replace r12 := r12.keep b1
  replace hb := hb.trans (b1.mono hb.size)
  clear E b1 p0 p1 p2
  go_wp2_with fail
  refine (K _).mono ?_
  rintro e w3 ⟨rfl, rfl⟩
  clear K
  have z0 := r12.cell (k := 0) rfl
  have z1 := r12.cell (k := 1) rfl
  have z2 := r12.cell (k := 2) rfl
  have z3 := r12.cell (k := 3) rfl
  have z4 := r12.cell (k := 4) rfl
  have z5 := r12.cell (k := 5) rfl
  have hth := r10.there 6 (by decide)
  go_wp2_with (refine wpList_store_mid rfl 30 _ _ rfl (w.heap.size + 1) 0 #[.int .u64 0, .int .u64 0, .bool false, .int .u64 0, .int .u64 0, .bool false] rfl rfl hth sizeBld (by kernel_rfl) ?_)
  exact bodyPost_ret (v := .tuple #[.agg #[.int .u64 0, .int .u64 0, .bool false, .int .u64 0, .int .u64 0, .bool false], .int .i64 1]) (bk_res2 (fn := Tryz.f10) (p := 10) (u := 11) Tryz.results10 _ rfl (r10.sets _ rfl) Tryz.underlying30 rfl sizeBld) rfl ⟨rfl, below_setCells hb (by omega) _ _⟩
set_option maxRecDepth 100000 in
set_option maxHeartbeats 4000000 in
theorem bldS_d (hx hy : Int)
    (T : ∀ w, Calls Tryz.prog 32 #[.int .i64 mode, .string input, .string info] w fun e w' => e = .returned (.bool true) ∧ w = w')
    (E : ∀ w, Calls Tryz.prog 40 #[.agg #[.int .u64 x, .int .u64 y, .bool c]] w fun e w' => e = .returned (.bool true) ∧ Below w.heap.size w w')
    (K : ∀ w, Calls Tryz.prog 33 #[.int .u64 k] w fun e w' => e = .returned (.bool true) ∧ w = w')
    (H : ∀ w, Calls Tryz.prog 34 #[.int .i64 mode, .string input] w fun e w' => e = .returned (.agg #[.int .u64 hx, .int .u64 hy, .bool true]) ∧ Below w.heap.size w w') :
    Calls Tryz.prog 10 #[.int .i64 mode, .string input, .string info, .agg #[.int .u64 x, .int .u64 y, .bool c], .int .u64 k] w fun e w' => e = .returned (.tuple #[.agg #[.int .u64 0, .int .u64 0, .bool false, .int .u64 0, .int .u64 0, .bool false], .int .i64 2]) ∧ Below w.heap.size w w' := by
  obtain ⟨X, hX⟩ : ∃ X, X = ((w.alloc (Obj.cells #[.int .u64 x, .int .u64 y, .bool c] 28)).alloc (Obj.cells #[.int .u64 0, .int .u64 0, .bool false, .int .u64 0, .int .u64 0, .bool false] 30)).alloc (Obj.cells #[.int .u64 0, .int .u64 0, .bool false, .int .u64 0, .int .u64 0, .bool false] 30) := ⟨_, rfl⟩
  have r8 : Bk X 28 w.heap.size #[.int .u64 x, .int .u64 y, .bool c] := by rw [hX]; exact ((Bk.new _ _ _).alloc _).alloc _
  have r10 : Bk X 30 (w.heap.size + 1) #[.int .u64 0, .int .u64 0, .bool false, .int .u64 0, .int .u64 0, .bool false] := by rw [hX]; exact ((Bk.new _ _ _).at (by simp)).alloc _
  have r12 : Bk X 30 (w.heap.size + 1 + 1) #[.int .u64 0, .int .u64 0, .bool false, .int .u64 0, .int .u64 0, .bool false] := by rw [hX]; exact (Bk.new _ _ _).at (by simp)
  have hb : Below w.heap.size w X := by rw [hX]; exact (((Below.refl _ w).alloc (Nat.le_refl _) _).alloc (by simp) _).alloc (by simp; omega) _
  rw [hX] at r8 r10 r12 hb
  clear hX
  have p0 := r8.cell (k := 0) rfl
  have p1 := r8.cell (k := 1) rfl
  have p2 := r8.cell (k := 2) rfl
  go_enter Tryz.func10, Tryz.ntmps10
  go_wp2_with fail
  refine (T _).mono ?_
  rintro e w1 ⟨rfl, rfl⟩
  clear T
  go_wp2_with fail
  refine (E _).mono ?_
  rintro e w2 ⟨rfl, b1⟩
  replace r8 := r8.keep b1
  replace r10 := r10.keep b1
  replace r12 := r12.keep b1
  replace hb := hb.trans (b1.mono hb.size)
  clear E b1 p0 p1 p2
  go_wp2_with fail
  refine (K _).mono ?_
  rintro e w3 ⟨rfl, rfl⟩
  clear K
  go_wp2_with fail
  refine (H _).mono ?_
  rintro e w4 ⟨rfl, b1⟩
  have hal := (Below.refl _ w4).alloc (Nat.le_refl _) (Obj.cells #[.int .u64 hx, .int .u64 hy, .bool true] 28)
  have r13 := Bk.new w4 28 #[.int .u64 hx, .int .u64 hy, .bool true]
  replace r8 := (r8.keep b1).keep hal
  replace r10 := (r10.keep b1).keep hal
  replace r12 := (r12.keep b1).keep hal
  replace hb := hb.trans (b1.mono hb.size)
  replace hb := hb.trans (hal.mono hb.size)
  clear H b1 hal
  have h2 := r13.cell (k := 2) rfl
  have z0 := r12.cell (k := 0) rfl
  have z1 := r12.cell (k := 1) rfl
  have z2 := r12.cell (k := 2) rfl
  have z3 := r12.cell (k := 3) rfl
  have z4 := r12.cell (k := 4) rfl
  have z5 := r12.cell (k := 5) rfl
  have hth := r10.there 6 (by decide)
  go_wp2_with (refine wpList_store_mid rfl 30 _ _ rfl (w.heap.size + 1) 0 #[.int .u64 0, .int .u64 0, .bool false, .int .u64 0, .int .u64 0, .bool false] rfl rfl hth sizeBld (by kernel_rfl) ?_)
  exact bodyPost_ret (v := .tuple #[.agg #[.int .u64 0, .int .u64 0, .bool false, .int .u64 0, .int .u64 0, .bool false], .int .i64 2]) (bk_res2 (fn := Tryz.f10) (p := 10) (u := 11) Tryz.results10 _ rfl (r10.sets _ rfl) Tryz.underlying30 rfl sizeBld) rfl ⟨rfl, below_setCells hb (by omega) _ _⟩
set_option maxRecDepth 100000 in
set_option maxHeartbeats 4000000 in
theorem bldS_e (hx hy ex ey : Int) (ec : Bool) (hm : (mode == 2) = false)
    (T : ∀ w, Calls Tryz.prog 32 #[.int .i64 mode, .string input, .string info] w fun e w' => e = .returned (.bool true) ∧ w = w')
    (E : ∀ w, Calls Tryz.prog 40 #[.agg #[.int .u64 x, .int .u64 y, .bool c]] w fun e w' => e = .returned (.bool true) ∧ Below w.heap.size w w')
    (K : ∀ w, Calls Tryz.prog 33 #[.int .u64 k] w fun e w' => e = .returned (.bool true) ∧ w = w')
    (H : ∀ w, Calls Tryz.prog 34 #[.int .i64 mode, .string input] w fun e w' => e = .returned (.agg #[.int .u64 hx, .int .u64 hy, .bool false]) ∧ Below w.heap.size w w')
    (TM : ∀ w, Calls Tryz.prog 37 #[.int .u64 k, .agg #[.int .u64 hx, .int .u64 hy, .bool false]] w fun e w' => e = .returned (.agg #[.int .u64 ex, .int .u64 ey, .bool ec]) ∧ Below w.heap.size w w') :
    Calls Tryz.prog 10 #[.int .i64 mode, .string input, .string info, .agg #[.int .u64 x, .int .u64 y, .bool c], .int .u64 k] w fun e w' => e = .returned (.tuple #[.agg #[.int .u64 ex, .int .u64 ey, .bool ec, .int .u64 0, .int .u64 0, .bool true], .int .i64 0]) ∧ Below w.heap.size w w' := by
  obtain ⟨X, hX⟩ : ∃ X, X = ((w.alloc (Obj.cells #[.int .u64 x, .int .u64 y, .bool c] 28)).alloc (Obj.cells #[.int .u64 0, .int .u64 0, .bool false, .int .u64 0, .int .u64 0, .bool false] 30)).alloc (Obj.cells #[.int .u64 0, .int .u64 0, .bool false, .int .u64 0, .int .u64 0, .bool false] 30) := ⟨_, rfl⟩
  have r8 : Bk X 28 w.heap.size #[.int .u64 x, .int .u64 y, .bool c] := by rw [hX]; exact ((Bk.new _ _ _).alloc _).alloc _
  have r10 : Bk X 30 (w.heap.size + 1) #[.int .u64 0, .int .u64 0, .bool false, .int .u64 0, .int .u64 0, .bool false] := by rw [hX]; exact ((Bk.new _ _ _).at (by simp)).alloc _
  have r12 : Bk X 30 (w.heap.size + 1 + 1) #[.int .u64 0, .int .u64 0, .bool false, .int .u64 0, .int .u64 0, .bool false] := by rw [hX]; exact (Bk.new _ _ _).at (by simp)
  have hb : Below w.heap.size w X := by rw [hX]; exact (((Below.refl _ w).alloc (Nat.le_refl _) _).alloc (by simp) _).alloc (by simp; omega) _
  rw [hX] at r8 r10 r12 hb
  clear hX
  have p0 := r8.cell (k := 0) rfl
  have p1 := r8.cell (k := 1) rfl
  have p2 := r8.cell (k := 2) rfl
  go_enter Tryz.func10, Tryz.ntmps10
  go_wp2_with fail
  refine (T _).mono ?_
  rintro e w1 ⟨rfl, rfl⟩
  clear T
  go_wp2_with fail
  refine (E _).mono ?_
  rintro e w2 ⟨rfl, b1⟩
  replace r8 := r8.keep b1
  replace r10 := r10.keep b1
  replace r12 := r12.keep b1
  replace hb := hb.trans (b1.mono hb.size)
  clear E b1 p0 p1 p2
  go_wp2_with fail
  refine (K _).mono ?_
  rintro e w3 ⟨rfl, rfl⟩
  clear K
  go_wp2_with fail
  refine (H _).mono ?_
  rintro e w4 ⟨rfl, b1⟩
  have hl4 : w.heap.size + 1 + 1 < w4.heap.size := (r12.keep b1).lt
  have hal := (Below.refl _ w4).alloc (Nat.le_refl _) (Obj.cells #[.int .u64 hx, .int .u64 hy, .bool false] 28)
  have r13 := Bk.new w4 28 #[.int .u64 hx, .int .u64 hy, .bool false]
  replace r8 := (r8.keep b1).keep hal
  replace r10 := (r10.keep b1).keep hal
  replace r12 := (r12.keep b1).keep hal
  replace hb := hb.trans (b1.mono hb.size)
  replace hb := hb.trans (hal.mono hb.size)
  clear H b1 hal
  have h2 := r13.cell (k := 2) rfl
  have h0 := r13.cell (k := 0) rfl
  have h1 := r13.cell (k := 1) rfl
  go_wp2_with fail
  refine (TM _).mono ?_
  rintro e w5 ⟨rfl, b1⟩
  have hal := (Below.refl _ w5).alloc (Nat.le_refl _) (Obj.cells #[.int .u64 ex, .int .u64 ey, .bool ec, .int .u64 0, .int .u64 0, .bool false] 30)
  have r14 := Bk.new w5 30 #[.int .u64 ex, .int .u64 ey, .bool ec, .int .u64 0, .int .u64 0, .bool false]
  replace r8 := (r8.keep b1).keep hal
  replace r10 := (r10.keep b1).keep hal
  replace r12 := (r12.keep b1).keep hal
  have hl5 : w.heap.size + 1 + 1 < w5.heap.size := by have := b1.size; simp at this; omega
  replace hb := hb.trans (b1.mono hb.size)
  replace hb := hb.trans (hal.mono hb.size)
  clear TM b1 hal h0 h1 h2 r13
  go_wp2_with fail
  refine (zroS _).mono ?_
  rintro e w6 ⟨rfl, b1⟩
  replace r8 := r8.keep b1
  replace r10 := r10.keep b1
  replace r12 := r12.keep b1
  replace r14 := r14.keep b1
  replace hb := hb.trans (b1.mono hb.size)
  have ht3 := r14.there3
  clear b1
  go_wp2_with (first
    | (refine wpList_store_mid rfl 28 _ _ rfl w5.heap.size 3 #[.int .u64 0, .int .u64 0, .bool true] rfl rfl ht3 sizePt3 (by kernel_rfl) ?_
       generalize hW1 : World.setCells _ _ _ _ = W1
       have s14 : Bk W1 30 w5.heap.size #[.int .u64 ex, .int .u64 ey, .bool ec, .int .u64 0, .int .u64 0, .bool true] := by rw [← hW1]; exact r14.set3 _ _ _
       have s10 : Bk W1 30 (w.heap.size + 1) #[.int .u64 0, .int .u64 0, .bool false, .int .u64 0, .int .u64 0, .bool false] := by rw [← hW1]; exact r10.setsO (by omega) _ _
       have s12 : Bk W1 30 (w.heap.size + 1 + 1) #[.int .u64 0, .int .u64 0, .bool false, .int .u64 0, .int .u64 0, .bool false] := by rw [← hW1]; exact r12.setsO (by omega) _ _
       have s8 : Bk W1 28 w.heap.size #[.int .u64 x, .int .u64 y, .bool c] := by rw [← hW1]; exact r8.setsO (by omega) _ _
       have hb1 : Below w.heap.size w W1 := by rw [← hW1]; exact below_setCells hb (by omega) _ _
       have z0 := s14.cell (k := 0) rfl
       have z1 := s14.cell (k := 1) rfl
       have z2 := s14.cell (k := 2) rfl
       have z3 := s14.cell (k := 3) rfl
       have z4 := s14.cell (k := 4) rfl
       have z5 := s14.cell (k := 5) rfl
       have hth := s10.there 6 (by decide)
       clear hW1 ht3 r8 r10 r12 r14 hb)
    | (refine wpList_store_mid rfl 30 _ _ rfl (w.heap.size + 1) 0 #[.int .u64 ex, .int .u64 ey, .bool ec, .int .u64 0, .int .u64 0, .bool true] rfl rfl hth sizeBld (by kernel_rfl) ?_))
  exact bodyPost_ret (v := .tuple #[.agg #[.int .u64 ex, .int .u64 ey, .bool ec, .int .u64 0, .int .u64 0, .bool true], .int .i64 0]) (bk_res2 (fn := Tryz.f10) (p := 10) (u := 11) Tryz.results10 _ rfl (s10.sets _ rfl) Tryz.underlying30 rfl sizeBld) rfl ⟨rfl, below_setCells hb1 (by omega) _ _⟩
set_option maxRecDepth 100000 in
set_option maxHeartbeats 4000000 in
theorem bldS_f (hx hy ex ey tk ux uy tx ty : Int) (ec uc tc : Bool) (hm : mode = 2)
    (T : ∀ w, Calls Tryz.prog 32 #[.int .i64 mode, .string input, .string info] w fun e w' => e = .returned (.bool true) ∧ w = w')
    (E : ∀ w, Calls Tryz.prog 40 #[.agg #[.int .u64 x, .int .u64 y, .bool c]] w fun e w' => e = .returned (.bool true) ∧ Below w.heap.size w w')
    (K : ∀ w, Calls Tryz.prog 33 #[.int .u64 k] w fun e w' => e = .returned (.bool true) ∧ w = w')
    (H : ∀ w, Calls Tryz.prog 34 #[.int .i64 mode, .string input] w fun e w' => e = .returned (.agg #[.int .u64 hx, .int .u64 hy, .bool false]) ∧ Below w.heap.size w w')
    (TM : ∀ w, Calls Tryz.prog 37 #[.int .u64 k, .agg #[.int .u64 hx, .int .u64 hy, .bool false]] w fun e w' => e = .returned (.agg #[.int .u64 ex, .int .u64 ey, .bool ec]) ∧ Below w.heap.size w w')
    (TW : ∀ w, Calls Tryz.prog 43 #[.string info] w fun e w' => e = .returned (.int .u64 tk) ∧ Below w.heap.size w w')
    (TB : ∀ w, Calls Tryz.prog 37 #[.int .u64 tk, .agg #[.int .u64 (px gG), .int .u64 (py gG), .bool (pb gG)]] w fun e w' => e = .returned (.agg #[.int .u64 ux, .int .u64 uy, .bool uc]) ∧ Below w.heap.size w w')
    (SU : ∀ w, Calls Tryz.prog 42 #[.agg #[.int .u64 ux, .int .u64 uy, .bool uc], .agg #[.int .u64 x, .int .u64 y, .bool c]] w fun e w' => e = .returned (.agg #[.int .u64 tx, .int .u64 ty, .bool tc]) ∧ Below w.heap.size w w') :
    Calls Tryz.prog 10 #[.int .i64 mode, .string input, .string info, .agg #[.int .u64 x, .int .u64 y, .bool c], .int .u64 k] w fun e w' => e = .returned (.tuple #[.agg (if tc = true then #[.int .u64 0, .int .u64 0, .bool false, .int .u64 0, .int .u64 0, .bool false] else #[.int .u64 ex, .int .u64 ey, .bool ec, .int .u64 tx, .int .u64 ty, .bool tc]), .int .i64 (if tc = true then 3 else 0)]) ∧ Below w.heap.size w w' := by
  have hm2 : (mode == 2) = true := by simpa using hm
  clear hm
  obtain ⟨V, hV⟩ : ∃ V, Hid (V = (if tc = true then #[.int .u64 0, .int .u64 0, .bool false, .int .u64 0, .int .u64 0, .bool false] else #[.int .u64 ex, .int .u64 ey, .bool ec, .int .u64 tx, .int .u64 ty, .bool tc] : Array Value)) := ⟨_, rfl⟩
  obtain ⟨Cd, hC⟩ : ∃ Cd : Int, Hid (Cd = (if tc = true then 3 else 0)) := ⟨_, rfl⟩
  rw [← hV.out, ← hC.out]
  obtain ⟨X, hX⟩ : ∃ X, X = ((w.alloc (Obj.cells #[.int .u64 x, .int .u64 y, .bool c] 28)).alloc (Obj.cells #[.int .u64 0, .int .u64 0, .bool false, .int .u64 0, .int .u64 0, .bool false] 30)).alloc (Obj.cells #[.int .u64 0, .int .u64 0, .bool false, .int .u64 0, .int .u64 0, .bool false] 30) := ⟨_, rfl⟩
  have r8 : Bk X 28 w.heap.size #[.int .u64 x, .int .u64 y, .bool c] := by rw [hX]; exact ((Bk.new _ _ _).alloc _).alloc _
  have r10 : Bk X 30 (w.heap.size + 1) #[.int .u64 0, .int .u64 0, .bool false, .int .u64 0, .int .u64 0, .bool false] := by rw [hX]; exact ((Bk.new _ _ _).at (by simp)).alloc _
  have r12 : Bk X 30 (w.heap.size + 1 + 1) #[.int .u64 0, .int .u64 0, .bool false, .int .u64 0, .int .u64 0, .bool false] := by rw [hX]; exact (Bk.new _ _ _).at (by simp)
  have hb : Below w.heap.size w X := by rw [hX]; exact (((Below.refl _ w).alloc (Nat.le_refl _) _).alloc (by simp) _).alloc (by simp; omega) _
  rw [hX] at r8 r10 r12 hb
  clear hX
  have p0 := r8.cell (k := 0) rfl
  have p1 := r8.cell (k := 1) rfl
  have p2 := r8.cell (k := 2) rfl
  go_enter Tryz.func10, Tryz.ntmps10
  go_wp2_with fail
  refine (T _).mono ?_
  rintro e w1 ⟨rfl, rfl⟩
  clear T
  go_wp2_with fail
  refine (E _).mono ?_
  rintro e w2 ⟨rfl, b1⟩
  replace r8 := r8.keep b1
  replace r10 := r10.keep b1
  replace r12 := r12.keep b1
  replace hb := hb.trans (b1.mono hb.size)
  clear E b1 p0 p1 p2
  go_wp2_with fail
  refine (K _).mono ?_
  rintro e w3 ⟨rfl, rfl⟩
  clear K
  go_wp2_with fail
  refine (H _).mono ?_
  rintro e w4 ⟨rfl, b1⟩
  have hl4 : w.heap.size + 1 + 1 < w4.heap.size := (r12.keep b1).lt
  have hal := (Below.refl _ w4).alloc (Nat.le_refl _) (Obj.cells #[.int .u64 hx, .int .u64 hy, .bool false] 28)
  have r13 := Bk.new w4 28 #[.int .u64 hx, .int .u64 hy, .bool false]
  replace r8 := (r8.keep b1).keep hal
  replace r10 := (r10.keep b1).keep hal
  replace r12 := (r12.keep b1).keep hal
  replace hb := hb.trans (b1.mono hb.size)
  replace hb := hb.trans (hal.mono hb.size)
  clear H b1 hal
  have h2 := r13.cell (k := 2) rfl
  have h0 := r13.cell (k := 0) rfl
  have h1 := r13.cell (k := 1) rfl
  go_wp2_with fail
  refine (TM _).mono ?_
  rintro e w5 ⟨rfl, b1⟩
  have hal := (Below.refl _ w5).alloc (Nat.le_refl _) (Obj.cells #[.int .u64 ex, .int .u64 ey, .bool ec, .int .u64 0, .int .u64 0, .bool false] 30)
  have r14 := Bk.new w5 30 #[.int .u64 ex, .int .u64 ey, .bool ec, .int .u64 0, .int .u64 0, .bool false]
  replace r8 := (r8.keep b1).keep hal
  replace r10 := (r10.keep b1).keep hal
  replace r12 := (r12.keep b1).keep hal
  have hl5 : w.heap.size + 1 + 1 < w5.heap.size := by have := b1.size; simp at this; omega
  replace hb := hb.trans (b1.mono hb.size)
  replace hb := hb.trans (hal.mono hb.size)
  clear TM b1 hal h0 h1 h2 r13
  go_wp2_with fail
  refine (zroS _).mono ?_
  rintro e w6 ⟨rfl, b1⟩
  replace r8 := r8.keep b1
  replace r10 := r10.keep b1
  replace r12 := r12.keep b1
  replace r14 := r14.keep b1
  replace hb := hb.trans (b1.mono hb.size)
  have ht3 := r14.there3
  clear b1
  go_wp2_with (first
    | (refine wpList_store_mid rfl 28 _ _ rfl w5.heap.size 3 #[.int .u64 0, .int .u64 0, .bool true] rfl rfl ht3 sizePt3 (by kernel_rfl) ?_
       generalize hW1 : World.setCells _ _ _ _ = W1
       have s14 : Bk W1 30 w5.heap.size #[.int .u64 ex, .int .u64 ey, .bool ec, .int .u64 0, .int .u64 0, .bool true] := by rw [← hW1]; exact r14.set3 _ _ _
       have s10 : Bk W1 30 (w.heap.size + 1) #[.int .u64 0, .int .u64 0, .bool false, .int .u64 0, .int .u64 0, .bool false] := by rw [← hW1]; exact r10.setsO (by omega) _ _
       have s12 : Bk W1 30 (w.heap.size + 1 + 1) #[.int .u64 0, .int .u64 0, .bool false, .int .u64 0, .int .u64 0, .bool false] := by rw [← hW1]; exact r12.setsO (by omega) _ _
       have s8 : Bk W1 28 w.heap.size #[.int .u64 x, .int .u64 y, .bool c] := by rw [← hW1]; exact r8.setsO (by omega) _ _
       have hb1 : Below w.heap.size w W1 := by rw [← hW1]; exact below_setCells hb (by omega) _ _
       have z0 := s14.cell (k := 0) rfl
       have z1 := s14.cell (k := 1) rfl
       have z2 := s14.cell (k := 2) rfl
       have z3 := s14.cell (k := 3) rfl
       have z4 := s14.cell (k := 4) rfl
       have z5 := s14.cell (k := 5) rfl
       have hth := s10.there 6 (by decide)
       clear hW1 ht3 r8 r10 r12 r14 hb))
  clear z0 z1 z2 z3 z4 z5 hth
  generalize w5.heap.size = BB at *
  have q0 : W1.drew.cell? ⟨w.heap.size, 0, none⟩ = _ := s8.cell (k := 0) rfl
  have q1 : W1.drew.cell? ⟨w.heap.size, 1, none⟩ = _ := s8.cell (k := 1) rfl
  have q2 : W1.drew.cell? ⟨w.heap.size, 2, none⟩ = _ := s8.cell (k := 2) rfl
  have n0 : w.heap.size ∉ [BB] := fun h => absurd (List.mem_singleton.1 h) (by omega)
  have l1 : BB < W1.drew.heap.size := s14.lt
  refine G.pool_list (W := W1) [BB] [.val (.string info),
      .val (.int .u64 tk),
      .val (.agg #[.int .u64 (px gG), .int .u64 (py gG), .bool (pb gG)]),
      .val (.agg #[.int .u64 ux, .int .u64 uy, .bool uc]),
      .val (.agg #[.int .u64 x, .int .u64 y, .bool c]),
      .val (.agg #[.int .u64 tx, .int .u64 ty, .bool tc]),
      .val (.pointer (some ⟨BB, 3, none⟩)),
      .set (BB) (.cells #[.int .u64 ex, .int .u64 ey, .bool ec, .int .u64 0, .int .u64 0, .bool true] 30) (.cells #[.int .u64 ex, .int .u64 ey, .bool ec, .int .u64 tx, .int .u64 ty, .bool tc] 30)] [[2], [47], [], [48, 49], [8], [50, 51], [14], [53, 52]] (fun f => [(some 47, .string info), (some 48, .int .u64 tk), (some 49, .agg #[.int .u64 (px gG), .int .u64 (py gG), .bool (pb gG)]), (some 50, .agg #[.int .u64 ux, .int .u64 uy, .bool uc]), (some 51, .agg #[.int .u64 x, .int .u64 y, .bool c]), (some 52, .agg #[.int .u64 tx, .int .u64 ty, .bool tc]), (some 53, .pointer (some ⟨BB, 3, none⟩)), (none, undef)]) (by kernel_rfl) (by kernel_rfl) (by kernel_rfl) (by kernel_rfl) (fun _ => by kernel_rfl) (G.last_of [.cells #[.int .u64 ex, .int .u64 ey, .bool ec, .int .u64 0, .int .u64 0, .bool true] 30] (fun F R hm => by simp at hm) (fun ob ob' k hm => by simp at hm) (fun b ob ob' hm => by simp at hm; simp [hm])) (fun b ob ob' hm => by simp at hm; obtain ⟨rfl, rfl, -⟩ := hm; exact s14) ?_ ?_
  · intro ix hix
    match ix, hix with
    | 0, _ => exact G.ob_val [(2, .string info)] rfl rfl (fun _ => by kernel_rfl) (fun A w ⟨e0, _⟩ hB => doV_move e0)
    | 1, _ => exact G.ob_val [(47, .string info)] rfl rfl (fun _ => by kernel_rfl) (fun A w ⟨e0, _⟩ hB => cl1 cf_spec_l6Tweak e0 (TW w))
    | 2, _ => exact G.ob_val [] rfl rfl (fun _ => by kernel_rfl) (fun A w _ hB => cl0 cf_spec_Base  (bsG w))
    | 3, _ => exact G.ob_val [(48, .int .u64 tk), (49, .agg #[.int .u64 (px gG), .int .u64 (py gG), .bool (pb gG)])] rfl rfl (fun _ => by kernel_rfl) (fun A w ⟨e0, e1, _⟩ hB => cl2 cf_spec_Times e0 e1 (TB w))
    | 4, _ => exact G.ob_val [(8, .pointer (some ⟨w.heap.size, 0, none⟩))] rfl rfl (fun _ => by kernel_rfl) (fun A w ⟨e0, _⟩ hB => ld_pt e0 (hB.cell q0 n0) (hB.cell q1 n0) (hB.cell q2 n0))
    | 5, _ => exact G.ob_val [(50, .agg #[.int .u64 ux, .int .u64 uy, .bool uc]), (51, .agg #[.int .u64 x, .int .u64 y, .bool c])] rfl rfl (fun _ => by kernel_rfl) (fun A w ⟨e0, e1, _⟩ hB => cl2 cf_spec_l3Sum e0 e1 (SU w))
    | 6, _ => exact G.ob_val [(14, .pointer (some ⟨BB, 0, none⟩))] rfl rfl (fun _ => by kernel_rfl) (fun A w ⟨e0, _⟩ hB => fa_bld1 e0)
    | 7, _ => exact G.ob_set (fun f => [(53, .pointer (some ⟨BB, 3, none⟩)), (52, .agg #[.int .u64 tx, .int .u64 ty, .bool tc])]) rfl rfl rfl (by simp) l1 (fun j ob1 ob2 h => by (rcases j with _ | _ | _ | _ | _ | _ | _ | _ | j) <;> simp [G.kindOf] at h ⊢ <;> omega) (fun _ => by kernel_rfl) (fun f A w ⟨e0, e1, _⟩ hh hr => pu_f3 e0 e1 hr (by kernel_rfl))
    | ix + 8, h => exact absurd h (by simp)
  intro f W3 hS _ _ _ hset
  have r14 : Bk W3 30 BB #[.int .u64 ex, .int .u64 ey, .bool ec, .int .u64 tx, .int .u64 ty, .bool tc] := hset 7 _ _ _ rfl (by decide)
  have k10 : Bk W3 30 (w.heap.size + 1) #[.int .u64 0, .int .u64 0, .bool false, .int .u64 0, .int .u64 0, .bool false] := (hS.block _ s10.lt (fun h => absurd (List.mem_singleton.1 h) (by omega))).trans s10
  have k12 : Bk W3 30 (w.heap.size + 1 + 1) #[.int .u64 0, .int .u64 0, .bool false, .int .u64 0, .int .u64 0, .bool false] := (hS.block _ s12.lt (fun h => absurd (List.mem_singleton.1 h) (by omega))).trans s12
  have hb3 : Below w.heap.size w W3 := hS.under hb1.drew (by intro b h; rw [List.mem_singleton.1 h]; omega) hb1.size
  clear hset hS q0 q1 q2 s8 s10 s12 s14 hb1 TW TB SU
  have hth := k10.there 6 (by decide)
  have t5 := r14.cell (k := 5) rfl
  simp only [puts, List.foldl, Act.put, List.setIfInBounds_toArray, List.set_cons_zero, List.set_cons_succ]
  cases tc with
  | true =>
    have z0 := k12.cell (k := 0) rfl
    have z1 := k12.cell (k := 1) rfl
    have z2 := k12.cell (k := 2) rfl
    have z3 := k12.cell (k := 3) rfl
    have z4 := k12.cell (k := 4) rfl
    have z5 := k12.cell (k := 5) rfl
    go_wp2_with (refine wpList_store_mid rfl 30 _ _ rfl (w.heap.size + 1) 0 #[.int .u64 0, .int .u64 0, .bool false, .int .u64 0, .int .u64 0, .bool false] rfl rfl hth sizeBld (by kernel_rfl) ?_)
    exact bodyPost_ret (v := .tuple #[.agg #[.int .u64 0, .int .u64 0, .bool false, .int .u64 0, .int .u64 0, .bool false], .int .i64 3]) (bk_res2 (fn := Tryz.f10) (p := 10) (u := 11) Tryz.results10 _ rfl (k10.sets _ rfl) Tryz.underlying30 rfl sizeBld) rfl ⟨by rw [hV.out, hC.out]; rfl, below_setCells hb3 (by omega) _ _⟩
  | false =>
    clear t5
    have z0 := r14.cell (k := 0) rfl
    have z1 := r14.cell (k := 1) rfl
    have z2 := r14.cell (k := 2) rfl
    have z3 := r14.cell (k := 3) rfl
    have z4 := r14.cell (k := 4) rfl
    have z5 := r14.cell (k := 5) rfl
    go_wp2_with (refine wpList_store_mid rfl 30 _ _ rfl (w.heap.size + 1) 0 #[.int .u64 ex, .int .u64 ey, .bool ec, .int .u64 tx, .int .u64 ty, .bool false] rfl rfl hth sizeBld (by kernel_rfl) ?_)
    exact bodyPost_ret (v := .tuple #[.agg #[.int .u64 ex, .int .u64 ey, .bool ec, .int .u64 tx, .int .u64 ty, .bool false], .int .i64 0]) (bk_res2 (fn := Tryz.f10) (p := 10) (u := 11) Tryz.results10 _ rfl (k10.sets _ rfl) Tryz.underlying30 rfl sizeBld) rfl ⟨by rw [hV.out, hC.out]; rfl, below_setCells hb3 (by omega) _ _⟩
end
end Go.Proofs.YtjmhmajfkdglnaaGreatDoor
