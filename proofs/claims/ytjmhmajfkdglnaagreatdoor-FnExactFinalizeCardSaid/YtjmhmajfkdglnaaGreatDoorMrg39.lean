import Derived.Test.YtjmhmajfkdglnaaGreatDoorMrg34
import Derived.Test.YtjmhmajfkdglnaaGreatDoorMrg29
import Derived.Test.YtjmhmajfkdglnaaGreatDoorMrg31
import Derived.Test.YtjmhmajfkdglnaaGreatDoorMrg14
import Derived.Test.YtjmhmajfkdglnaaGreatDoorMrg20
import Derived.Test.YtjmhmajfkdglnaaGreatDoorMrg28
import Derived.Test.YtjmhmajfkdglnaaGreatDoorMrg13
import Derived.Test.YtjmhmajfkdglnaaGreatDoorMrg33
set_option linter.unusedVariables false
set_option maxRecDepth 100000
set_option maxHeartbeats 16000000
namespace Go.Proofs.YtjmhmajfkdglnaaGreatDoor
open Go.RowKit M
theorem bspI (w : World) : Calls Tryz.prog 67 #[] w fun e w' => e = .returned (.agg #[.int .u64 (px gG), .int .u64 (py gG), .bool (pb gG)]) ∧ Below w.heap.size w w' := by
  have h : Calls Tryz.prog 67 #[] w fun e w' => e = .returned (.agg #[.int .u64 1, .int .u64 509478702933351334, .bool false]) ∧ Below w.heap.size w w' := by
    go_enter Tryz.func67, Tryz.ntmps67
    go_wp2
    refine bodyPost_ret (v := .agg #[.int .u64 1, .int .u64 509478702933351334, .bool false]) (by simp [results, Tryz.results67, go_sem]) rfl ⟨rfl, (Below.refl _ w).alloc (Nat.le_refl _) _⟩
  exact h
def zBat : Array Value := #[.string ⟨#[]⟩, .int .u64 0, .int .u64 0, .bool false, .slice none 0 0, .slice none 0 0]
theorem sizeBat : (Tryz.prog.info? 109).map (·.size) = some 6 := by kernel_rfl
section
variable (cx info : ByteArray) (q : Pt) (v2 v3 : Value) (a0 a1 a2 a3 : Addr) (w : World)
theorem nclI (n2 n3 k2' k3 : Nat) (b2 b3 : Option Addr) :
    Calls Tryz.prog 155 #[.agg #[.string cx, .string info], .agg #[.int .u64 (px q), .int .u64 (py q), .bool (pb q)], .slice b2 n2 k2', .slice b3 n3 k3] w fun e w' => e = .returned (.tuple #[.agg zBat, .bool false]) ∧ Below w.heap.size w w' := by
  obtain ⟨X, hX⟩ : ∃ X, X = ((w.alloc (Obj.cells #[.string cx, .string info] 133)).alloc (Obj.cells #[.int .u64 (px q), .int .u64 (py q), .bool (pb q)] 106)).alloc (Obj.cells zBat 109) := ⟨_, rfl⟩
  have r0 : Bk X 133 w.heap.size #[.string cx, .string info] := by rw [hX]; exact ((Bk.new _ _ _).alloc _).alloc _
  have r1 : K3 X 106 (w.heap.size + 1) (px q) (py q) (pb q) := by rw [hX]; exact ((K3.new _ _ _ _ _).at (by simp)).alloc _
  have hr : Bk X 109 (w.heap.size + 1 + 1) zBat := by rw [hX]; exact (Bk.new _ _ _).at (by simp)
  have hb : Below w.heap.size w X := by rw [hX]; exact (((Below.refl _ w).alloc (Nat.le_refl _) _).alloc (by simp) _).alloc (by simp; omega) _
  rw [hX] at r0 r1 hr hb
  clear hX
  have s0 := r0.cell (k := 0) rfl
  have k0 := r1.c0
  have k1 := r1.c1
  have k2 := r1.c2
  have hth := hr.there 6 (by decide)
  go_enter Tryz.func155, Tryz.ntmps155
  go_wp2_with (refine wpList_store_mid rfl 109 _ _ rfl (w.heap.size + 1 + 1) 0 zBat rfl rfl hth sizeBat (by kernel_rfl) ?_)
  exact bodyPost_ret (v := .tuple #[.agg zBat, .bool false]) (bk_res2 (fn := Tryz.f155) (p := 8) (u := 9) Tryz.results155 _ rfl (hr.sets _ rfl) Tryz.underlying109 rfl sizeBat) rfl ⟨rfl, below_setCells hb (by omega) _ _⟩
theorem cfwI (n2 n3 k2' k3 : Nat) (b2 b3 : Option Addr) :
    Calls Tryz.prog 157 #[.agg #[.string cx, .string info], .agg #[.int .u64 (px q), .int .u64 (py q), .bool (pb q)], .slice b2 n2 k2', .slice b3 n3 k3] w fun e w' => e = .returned (.tuple #[.agg #[.string cx, .int .u64 (px q), .int .u64 (py q), .bool (pb q), .slice b2 n2 k2', .slice b3 n3 k3], .bool true]) ∧ Below w.heap.size w w' := by
  obtain ⟨X, hX⟩ : ∃ X, X = ((w.alloc (Obj.cells #[.string cx, .string info] 133)).alloc (Obj.cells #[.int .u64 (px q), .int .u64 (py q), .bool (pb q)] 106)).alloc (Obj.cells zBat 109) := ⟨_, rfl⟩
  have r0 : Bk X 133 w.heap.size #[.string cx, .string info] := by rw [hX]; exact ((Bk.new _ _ _).alloc _).alloc _
  have r1 : K3 X 106 (w.heap.size + 1) (px q) (py q) (pb q) := by rw [hX]; exact ((K3.new _ _ _ _ _).at (by simp)).alloc _
  have hr : Bk X 109 (w.heap.size + 1 + 1) zBat := by rw [hX]; exact (Bk.new _ _ _).at (by simp)
  have hb : Below w.heap.size w X := by rw [hX]; exact (((Below.refl _ w).alloc (Nat.le_refl _) _).alloc (by simp) _).alloc (by simp; omega) _
  rw [hX] at r0 r1 hr hb
  clear hX
  have s0 := r0.cell (k := 0) rfl
  have k0 := r1.c0
  have k1 := r1.c1
  have k2 := r1.c2
  have hth := hr.there 6 (by decide)
  go_enter Tryz.func157, Tryz.ntmps157
  go_wp2_with (refine wpList_store_mid rfl 109 _ _ rfl (w.heap.size + 1 + 1) 0 #[.string cx, .int .u64 (px q), .int .u64 (py q), .bool (pb q), .slice b2 n2 k2', .slice b3 n3 k3] rfl rfl hth sizeBat (by kernel_rfl) ?_)
  exact bodyPost_ret (v := .tuple #[.agg #[.string cx, .int .u64 (px q), .int .u64 (py q), .bool (pb q), .slice b2 n2 k2', .slice b3 n3 k3], .bool true]) (bk_res2 (fn := Tryz.f157) (p := 8) (u := 9) Tryz.results157 _ rfl (hr.sets _ rfl) Tryz.underlying109 rfl sizeBat) rfl ⟨rfl, below_setCells hb (by omega) _ _⟩
theorem cbwI (n2 n3 k2' k3 : Nat) (b2 b3 : Option Addr) :
    Calls Tryz.prog 163 #[.agg #[.string cx, .string info], .agg #[.int .u64 (px q), .int .u64 (py q), .bool (pb q)], .slice b2 n2 k2', .slice b3 n3 k3] w fun e w' => e = .returned (.tuple #[.agg #[.string cx, .int .u64 (px q), .int .u64 (py q), .bool (pb q), .slice b3 n3 k3, .slice b2 n2 k2'], .bool true]) ∧ Below w.heap.size w w' := by
  obtain ⟨X, hX⟩ : ∃ X, X = ((w.alloc (Obj.cells #[.string cx, .string info] 133)).alloc (Obj.cells #[.int .u64 (px q), .int .u64 (py q), .bool (pb q)] 106)).alloc (Obj.cells zBat 109) := ⟨_, rfl⟩
  have r0 : Bk X 133 w.heap.size #[.string cx, .string info] := by rw [hX]; exact ((Bk.new _ _ _).alloc _).alloc _
  have r1 : K3 X 106 (w.heap.size + 1) (px q) (py q) (pb q) := by rw [hX]; exact ((K3.new _ _ _ _ _).at (by simp)).alloc _
  have hr : Bk X 109 (w.heap.size + 1 + 1) zBat := by rw [hX]; exact (Bk.new _ _ _).at (by simp)
  have hb : Below w.heap.size w X := by rw [hX]; exact (((Below.refl _ w).alloc (Nat.le_refl _) _).alloc (by simp) _).alloc (by simp; omega) _
  rw [hX] at r0 r1 hr hb
  clear hX
  have s0 := r0.cell (k := 0) rfl
  have k0 := r1.c0
  have k1 := r1.c1
  have k2 := r1.c2
  have hth := hr.there 6 (by decide)
  go_enter Tryz.func163, Tryz.ntmps163
  go_wp2_with (refine wpList_store_mid rfl 109 _ _ rfl (w.heap.size + 1 + 1) 0 #[.string cx, .int .u64 (px q), .int .u64 (py q), .bool (pb q), .slice b3 n3 k3, .slice b2 n2 k2'] rfl rfl hth sizeBat (by kernel_rfl) ?_)
  exact bodyPost_ret (v := .tuple #[.agg #[.string cx, .int .u64 (px q), .int .u64 (py q), .bool (pb q), .slice b3 n3 k3, .slice b2 n2 k2'], .bool true]) (bk_res2 (fn := Tryz.f163) (p := 8) (u := 9) Tryz.results163 _ rfl (hr.sets _ rfl) Tryz.underlying109 rfl sizeBat) rfl ⟨rfl, below_setCells hb (by omega) _ _⟩
theorem palI_yes :
    Calls Tryz.prog 154 #[.agg #[.int .u64 (px q), .int .u64 (py q), .bool (pb q)], .agg #[.int .u64 0, .int .u64 0, .bool true]] w fun e w' => e = .returned (.tuple #[.agg #[.int .u64 (px q), .int .u64 (py q), .bool (pb q)], .nilIface]) ∧ Below w.heap.size w w' := by
  obtain ⟨X, hX⟩ : ∃ X, X = ((w.alloc (Obj.cells #[.int .u64 (px q), .int .u64 (py q), .bool (pb q)] 106)).alloc (Obj.cells #[.int .u64 0, .int .u64 0, .bool true] 28)).alloc (Obj.cells #[.int .u64 0, .int .u64 0, .bool false] 106) := ⟨_, rfl⟩
  have r0 : K3 X 106 w.heap.size (px q) (py q) (pb q) := by rw [hX]; exact ((K3.new _ _ _ _ _).alloc _).alloc _
  have r1 : K3 X 28 (w.heap.size + 1) 0 0 true := by rw [hX]; exact ((K3.new _ _ _ _ _).at (by simp)).alloc _
  have hr : K3 X 106 (w.heap.size + 1 + 1) 0 0 false := by rw [hX]; exact (K3.new _ _ _ _ _).at (by simp)
  have hb : Below w.heap.size w X := by rw [hX]; exact (((Below.refl _ w).alloc (Nat.le_refl _) _).alloc (by simp) _).alloc (by simp; omega) _
  go_enter Tryz.func154, Tryz.ntmps154
  go_wp2
  rw [← hX]
  clear hX
  have k0 : X.drew.cell? ⟨w.heap.size + 1, 0, none⟩ = _ := r1.c0
  have k1 : X.drew.cell? ⟨w.heap.size + 1, 1, none⟩ = _ := r1.c1
  have k2 : X.drew.cell? ⟨w.heap.size + 1, 2, none⟩ = _ := r1.c2
  refine G.pool_list (W := X) [] [.val (.agg #[.int .u64 0, .int .u64 0, .bool true]),
      .val (.agg #[.int .u64 0, .int .u64 0, .bool true]),
      .val (.agg #[.int .u64 0, .int .u64 0, .bool true]),
      .val (.bool false)] [[3], [], [7], [6, 8]] (fun f => [(some 6, .agg #[.int .u64 0, .int .u64 0, .bool true]), (some 7, .agg #[.int .u64 0, .int .u64 0, .bool true]), (some 8, .agg #[.int .u64 0, .int .u64 0, .bool true]), (some 9, .bool false)]) (by kernel_rfl) (by kernel_rfl) (by kernel_rfl) (by kernel_rfl) (fun _ => by kernel_rfl) (G.last_of [] (fun F R hm => by simp at hm) (fun ob ob' k hm => by simp at hm) (fun b ob ob' hm => by simp at hm)) (fun b ob ob' hm => by simp at hm) ?_ ?_
  · intro ix hix
    match ix, hix with
    | 0, _ => exact G.ob_val [(3, .pointer (some ⟨w.heap.size + 1, 0, none⟩))] rfl rfl (fun _ => by kernel_rfl) (fun A w ⟨e0, _⟩ hB => ld_pt e0 (hB.cell k0 (by simp)) (hB.cell k1 (by simp)) (hB.cell k2 (by simp)))
    | 1, _ => exact G.ob_val [] rfl rfl (fun _ => by kernel_rfl) (fun A w _ hB => cl0 cf_impl_zeroPoint  (zpP w))
    | 2, _ => exact G.ob_val [(7, .agg #[.int .u64 0, .int .u64 0, .bool true])] rfl rfl (fun _ => by kernel_rfl) (fun A w ⟨e0, _⟩ hB => fl_cp0 e0)
    | 3, _ => exact G.ob_val [(6, .agg #[.int .u64 0, .int .u64 0, .bool true]), (8, .agg #[.int .u64 0, .int .u64 0, .bool true])] rfl rfl (fun _ => by kernel_rfl) (fun A w ⟨e0, e1, _⟩ hB => ne_ptF e0 e1)
    | ix + 4, h => exact absurd h (by simp)
  intro f W3 hS _ _ _ _
  have hb3 : Below X.heap.size X W3 := (Below.refl _ X).drew.trans hS.below
  replace r0 := r0.keep hb3
  replace hr := hr.keep hb3
  replace hb := hb.trans (hb3.mono hb.size)
  clear hS k0 k1 k2 hb3 r1
  simp only [puts, List.foldl, Act.put, List.setIfInBounds_toArray, List.set_cons_zero, List.set_cons_succ]
  have c0 := hr.c0
  have c1 := hr.c1
  have c2 := hr.c2
  have cf := hr.frz
  have d0 := r0.c0
  have d1 := r0.c1
  have d2 := r0.c2
  go_wp2
  exact bodyPost_ret (v := .tuple #[.agg #[.int .u64 (px q), .int .u64 (py q), .bool (pb q)], .nilIface]) (cpt_res (fn := Tryz.f154) (p := 4) (u := 5) Tryz.results154 _ rfl (hr.set _ _ _)) rfl ⟨rfl, set3_below hb (by omega)⟩
theorem palI_no (hs : Sn w a0 a1 a2 a3) (x y : Int) (c : Bool) (hn : ¬ (x = 0 ∧ y = 0 ∧ c = true)) :
    Calls Tryz.prog 154 #[.agg #[.int .u64 (px q), .int .u64 (py q), .bool (pb q)], .agg #[.int .u64 x, .int .u64 y, .bool c]] w fun e w' => e = .returned (.tuple #[.agg #[.int .u64 0, .int .u64 0, .bool true], sen a0]) ∧ Below w.heap.size w w' := by
  have hg0 : 0 < w.heap.size := World.block_lt_of_cell? w _ hs.c0
  obtain ⟨X, hX⟩ : ∃ X, X = ((w.alloc (Obj.cells #[.int .u64 (px q), .int .u64 (py q), .bool (pb q)] 106)).alloc (Obj.cells #[.int .u64 x, .int .u64 y, .bool c] 28)).alloc (Obj.cells #[.int .u64 0, .int .u64 0, .bool false] 106) := ⟨_, rfl⟩
  have r1 : K3 X 28 (w.heap.size + 1) x y c := by rw [hX]; exact ((K3.new _ _ _ _ _).at (by simp)).alloc _
  have hr : K3 X 106 (w.heap.size + 1 + 1) 0 0 false := by rw [hX]; exact (K3.new _ _ _ _ _).at (by simp)
  have hb : Below w.heap.size w X := by rw [hX]; exact (((Below.refl _ w).alloc (Nat.le_refl _) _).alloc (by simp) _).alloc (by simp; omega) _
  go_enter Tryz.func154, Tryz.ntmps154
  go_wp2
  rw [← hX]
  clear hX
  have k0 : X.drew.cell? ⟨w.heap.size + 1, 0, none⟩ = _ := r1.c0
  have k1 : X.drew.cell? ⟨w.heap.size + 1, 1, none⟩ = _ := r1.c1
  have k2 : X.drew.cell? ⟨w.heap.size + 1, 2, none⟩ = _ := r1.c2
  refine G.pool_list (W := X) [] [.val (.agg #[.int .u64 x, .int .u64 y, .bool c]),
      .val (.agg #[.int .u64 0, .int .u64 0, .bool true]),
      .val (.agg #[.int .u64 0, .int .u64 0, .bool true]),
      .val (.bool true)] [[3], [], [7], [6, 8]] (fun f => [(some 6, .agg #[.int .u64 x, .int .u64 y, .bool c]), (some 7, .agg #[.int .u64 0, .int .u64 0, .bool true]), (some 8, .agg #[.int .u64 0, .int .u64 0, .bool true]), (some 9, .bool true)]) (by kernel_rfl) (by kernel_rfl) (by kernel_rfl) (by kernel_rfl) (fun _ => by kernel_rfl) (G.last_of [] (fun F R hm => by simp at hm) (fun ob ob' k hm => by simp at hm) (fun b ob ob' hm => by simp at hm)) (fun b ob ob' hm => by simp at hm) ?_ ?_
  · intro ix hix
    match ix, hix with
    | 0, _ => exact G.ob_val [(3, .pointer (some ⟨w.heap.size + 1, 0, none⟩))] rfl rfl (fun _ => by kernel_rfl) (fun A w ⟨e0, _⟩ hB => ld_pt e0 (hB.cell k0 (by simp)) (hB.cell k1 (by simp)) (hB.cell k2 (by simp)))
    | 1, _ => exact G.ob_val [] rfl rfl (fun _ => by kernel_rfl) (fun A w _ hB => cl0 cf_impl_zeroPoint  (zpP w))
    | 2, _ => exact G.ob_val [(7, .agg #[.int .u64 0, .int .u64 0, .bool true])] rfl rfl (fun _ => by kernel_rfl) (fun A w ⟨e0, _⟩ hB => fl_cp0 e0)
    | 3, _ => exact G.ob_val [(6, .agg #[.int .u64 x, .int .u64 y, .bool c]), (8, .agg #[.int .u64 0, .int .u64 0, .bool true])] rfl rfl (fun _ => by kernel_rfl) (fun A w ⟨e0, e1, _⟩ hB => ne_ptT hn e0 e1)
    | ix + 4, h => exact absurd h (by simp)
  intro f W3 hS _ _ _ _
  have hb3 : Below X.heap.size X W3 := (Below.refl _ X).drew.trans hS.below
  replace hr := hr.keep hb3
  replace hb := hb.trans (hb3.mono hb.size)
  clear hS k0 k1 k2 hb3 r1
  simp only [puts, List.foldl, Act.put, List.setIfInBounds_toArray, List.set_cons_zero, List.set_cons_succ]
  go_wp2
  have g0 : W3.drew.cell? ⟨0, 0, none⟩ = _ := (hs.keep hb).c0
  have n0 : 0 ∉ [w.heap.size + 1 + 1] := fun h => absurd (List.mem_singleton.1 h) (by omega)
  have l1 : w.heap.size + 1 + 1 < W3.drew.heap.size := hr.lt
  refine G.pool_list (W := W3) [w.heap.size + 1 + 1] [.val (.agg #[.int .u64 0, .int .u64 0, .bool true]),
      .val (sen a0),
      .set (w.heap.size + 1 + 1) (.cells #[.int .u64 0, .int .u64 0, .bool false] 106) (.cells #[.int .u64 0, .int .u64 0, .bool true] 106),
      .val (sen a0)] [[], [], [4, 10], [11]] (fun f => [(some 10, .agg #[.int .u64 0, .int .u64 0, .bool true]), (some 11, sen a0), (none, undef), (some 5, sen a0)]) (by kernel_rfl) (by kernel_rfl) (by kernel_rfl) (by kernel_rfl) (fun _ => by kernel_rfl) (G.last_of [.cells #[.int .u64 0, .int .u64 0, .bool false] 106] (fun F R hm => by simp at hm) (fun ob ob' k hm => by simp at hm) (fun b ob ob' hm => by simp at hm; simp [hm])) (fun b ob ob' hm => by simp at hm; obtain ⟨rfl, rfl, -⟩ := hm; exact hr) ?_ ?_
  · intro ix hix
    match ix, hix with
    | 0, _ => exact G.ob_val [] rfl rfl (fun _ => by kernel_rfl) (fun A w _ hB => cl0 cf_impl_zeroPoint  (zpP w))
    | 1, _ => exact G.ob_val [] rfl rfl (fun _ => by kernel_rfl) (fun A w _ hB => ld_err rfl (hB.cell g0 n0))
    | 2, _ => exact G.ob_set (fun f => [(4, .pointer (some ⟨w.heap.size + 1 + 1, 0, none⟩)), (10, .agg #[.int .u64 0, .int .u64 0, .bool true])]) rfl rfl rfl (by simp) l1 (fun j ob1 ob2 h => by (rcases j with _ | _ | _ | _ | j) <;> simp [G.kindOf] at h ⊢ <;> omega) (fun _ => by kernel_rfl) (fun f A w ⟨e0, e1, _⟩ hh hr => pu_cp e0 e1 hr)
    | 3, _ => exact G.ob_val [(11, sen a0)] rfl rfl (fun _ => by kernel_rfl) (fun A w ⟨e0, _⟩ hB => doV_assign e0)
    | ix + 4, h => exact absurd h (by simp)
  intro f W4 hS _ _ _ hset
  have q1 : K3 W4 106 (w.heap.size + 1 + 1) 0 0 true := hset 2 _ _ _ rfl (by decide)
  have hb4 : Below w.heap.size w W4 := hS.under hb.drew (by intro b h; rw [List.mem_singleton.1 h]; omega) hb.size
  clear hset hS g0
  simp only [puts, List.foldl, Act.put, List.setIfInBounds_toArray, List.set_cons_zero, List.set_cons_succ]
  go_wp2
  exact bodyPost_ret (v := .tuple #[.agg #[.int .u64 0, .int .u64 0, .bool true], sen a0]) (cpt_res (fn := Tryz.f154) (p := 4) (u := 5) Tryz.results154 _ rfl q1) rfl ⟨rfl, hb4⟩
theorem talI_of (x y u0 u1 : Int) (c u2 : Bool) (v : Value)
    (EL : ∀ w', Below w.heap.size w w' → Calls Tryz.prog 85 #[.agg #[.int .u64 x, .int .u64 y, .bool c]] w' fun e w'' => e = .returned (.tuple #[.agg #[.int .u64 u0, .int .u64 u1, .bool u2], v]) ∧ Below w'.heap.size w' w'') :
    Calls Tryz.prog 162 #[.agg #[.int .u64 (px q), .int .u64 (py q), .bool (pb q)], .agg #[.int .u64 x, .int .u64 y, .bool c]] w fun e w' => e = .returned (.tuple #[.agg #[.int .u64 u0, .int .u64 u1, .bool u2], v]) ∧ Below w.heap.size w w' := by
  obtain ⟨X, hX⟩ : ∃ X, X = ((w.alloc (Obj.cells #[.int .u64 (px q), .int .u64 (py q), .bool (pb q)] 106)).alloc (Obj.cells #[.int .u64 x, .int .u64 y, .bool c] 28)).alloc (Obj.cells #[.int .u64 0, .int .u64 0, .bool false] 106) := ⟨_, rfl⟩
  have r1 : K3 X 28 (w.heap.size + 1) x y c := by rw [hX]; exact ((K3.new _ _ _ _ _).at (by simp)).alloc _
  have hr : K3 X 106 (w.heap.size + 1 + 1) 0 0 false := by rw [hX]; exact (K3.new _ _ _ _ _).at (by simp)
  have hb : Below w.heap.size w X := by rw [hX]; exact (((Below.refl _ w).alloc (Nat.le_refl _) _).alloc (by simp) _).alloc (by simp; omega) _
  rw [hX] at r1 hr hb
  clear hX
  have k0 := r1.c0
  have k1 := r1.c1
  have k2 := r1.c2
  go_enter Tryz.func162, Tryz.ntmps162
  go_wp2_with fail
  refine (EL _ hb).mono ?_
  rintro e w1 ⟨rfl, b1⟩
  replace hr := hr.keep b1
  replace hb := hb.trans (b1.mono hb.size)
  clear EL b1 k0 k1 k2 r1
  have c0 := hr.c0
  have c1 := hr.c1
  have c2 := hr.c2
  have cf := hr.frz
  go_wp2
  exact bodyPost_ret (v := .tuple #[.agg #[.int .u64 u0, .int .u64 u1, .bool u2], v]) (cpt_res (fn := Tryz.f162) (p := 4) (u := 5) Tryz.results162 _ rfl (hr.set _ _ _)) rfl ⟨rfl, set3_below hb (by omega)⟩
end
structure Cps (W : World) (g : Nat) (ps : List Pt) : Prop where
  lt : g < W.heap.size
  c0 : ∀ i p, ps[i]? = some p → W.cell? ⟨g, 0 + i * 3, none⟩ = some (.int .u64 (px p))
  c1 : ∀ i p, ps[i]? = some p → W.cell? ⟨g, 0 + i * 3 + 1, none⟩ = some (.int .u64 (py p))
  c2 : ∀ i p, ps[i]? = some p → W.cell? ⟨g, 0 + i * 3 + 2, none⟩ = some (.bool (pb p))
theorem Cps.below {W W' : World} {g : Nat} {L : List Pt} (h : Cps W g L) {B : Nat} (hb : Below B W W') (hg : g < B) : Cps W' g L :=
  have e : ∀ i, W'.cell? ⟨g, i, none⟩ = W.cell? ⟨g, i, none⟩ := fun i => World.cell?_of_block (w := W) (a := ⟨g, i, none⟩) (hb.block g hg)
  ⟨Nat.lt_of_lt_of_le h.lt hb.size, fun i t ht => (e _).trans (h.c0 i t ht), fun i t ht => (e _).trans (h.c1 i t ht), fun i t ht => (e _).trans (h.c2 i t ht)⟩
theorem Cps.keep {W W' : World} {g : Nat} {L : List Pt} (h : Cps W g L) (hb : Below W.heap.size W W') : Cps W' g L := h.below hb h.lt
theorem Cps.drew {W : World} {g : Nat} {L : List Pt} (h : Cps W g L) : Cps W.drew g L := ⟨h.lt, h.c0, h.c1, h.c2⟩
def B6 (W : World) (b : Nat) (s : ByteArray) (x y : Int) (c : Bool) (a1 : Option Addr) (n1 k1 : Nat) (a2 : Option Addr) (n2 k2 : Nat) : Prop := W.heap[b]? = some (.cells #[.string s, .int .u64 x, .int .u64 y, .bool c, .slice a1 n1 k1, .slice a2 n2 k2] 109)
section
variable {W W' : World} {b : Nat} {s : ByteArray} {x y : Int} {c : Bool} {a1 a2 : Option Addr} {n1 k1 n2 k2 : Nat}
theorem B6.c0 (h : B6 W b s x y c a1 n1 k1 a2 n2 k2) : W.cell? ⟨b, 0, none⟩ = some (.string s) := by unfold B6 at h; simp [World.cell?, h]
theorem B6.c1 (h : B6 W b s x y c a1 n1 k1 a2 n2 k2) : W.cell? ⟨b, 1, none⟩ = some (.int .u64 x) := by unfold B6 at h; simp [World.cell?, h]
theorem B6.c2 (h : B6 W b s x y c a1 n1 k1 a2 n2 k2) : W.cell? ⟨b, 2, none⟩ = some (.int .u64 y) := by unfold B6 at h; simp [World.cell?, h]
theorem B6.c3 (h : B6 W b s x y c a1 n1 k1 a2 n2 k2) : W.cell? ⟨b, 3, none⟩ = some (.bool c) := by unfold B6 at h; simp [World.cell?, h]
theorem B6.c4 (h : B6 W b s x y c a1 n1 k1 a2 n2 k2) : W.cell? ⟨b, 4, none⟩ = some (.slice a1 n1 k1) := by unfold B6 at h; simp [World.cell?, h]
theorem B6.c5 (h : B6 W b s x y c a1 n1 k1 a2 n2 k2) : W.cell? ⟨b, 5, none⟩ = some (.slice a2 n2 k2) := by unfold B6 at h; simp [World.cell?, h]
theorem B6.lt (h : B6 W b s x y c a1 n1 k1 a2 n2 k2) : b < W.heap.size := (Array.getElem?_eq_some_iff.1 h).1
theorem B6.keep (h : B6 W b s x y c a1 n1 k1 a2 n2 k2) (hb : Below W.heap.size W W') : B6 W' b s x y c a1 n1 k1 a2 n2 k2 := (hb.block b h.lt).trans h
theorem B6.new (w : World) (s : ByteArray) (x y : Int) (c : Bool) (a1 : Option Addr) (n1 k1 : Nat) (a2 : Option Addr) (n2 k2 : Nat) : B6 (w.alloc (.cells #[.string s, .int .u64 x, .int .u64 y, .bool c, .slice a1 n1 k1, .slice a2 n2 k2] 109)) w.heap.size s x y c a1 n1 k1 a2 n2 k2 := heap_alloc_new w _
theorem B6.alloc (h : B6 W b s x y c a1 n1 k1 a2 n2 k2) (o : Obj) : B6 (W.alloc o) b s x y c a1 n1 k1 a2 n2 k2 := (Below.heap_alloc W o b h.lt).trans h
end
end Go.Proofs.YtjmhmajfkdglnaaGreatDoor
