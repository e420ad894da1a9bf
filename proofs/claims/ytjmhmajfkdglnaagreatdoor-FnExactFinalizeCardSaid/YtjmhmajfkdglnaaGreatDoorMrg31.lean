import Derived.Test.YtjmhmajfkdglnaaGreatDoorChecked
import Derived.WalkKit
import Derived.Test.YtjmhmajfkdglnaaGreatDoorMrg26
import Derived.Test.YtjmhmajfkdglnaaGreatDoorMrg30
import Derived.Test.YtjmhmajfkdglnaaGreatDoorMrg17
import Derived.Test.YtjmhmajfkdglnaaGreatDoorMrg18
import Derived.Test.YtjmhmajfkdglnaaGreatDoorMrg29
import Derived.Test.YtjmhmajfkdglnaaGreatDoorMrg12
import Derived.Test.YtjmhmajfkdglnaaGreatDoorMrg0
import Derived.Deep.RegionHeld3
set_option linter.unusedVariables false
set_option maxRecDepth 100000
set_option maxHeartbeats 16000000
namespace Go.Proofs.YtjmhmajfkdglnaaGreatDoor
open Go.RowKit
theorem cf_spec_l5Sized (args : Array Value) (w : World) : (callFunc 73 args).run Tryz.prog w = .ok (.enter 73 args) w := by kernel_rfl
theorem cf_spec_PutPoint (args : Array Value) (w : World) : (callFunc 75 args).run Tryz.prog w = .ok (.enter 75 args) w := by kernel_rfl
theorem cf_spec_l5Scalar (args : Array Value) (w : World) : (callFunc 84 args).run Tryz.prog w = .ok (.enter 84 args) w := by kernel_rfl
theorem cf_spec_Times (args : Array Value) (w : World) : (callFunc 37 args).run Tryz.prog w = .ok (.enter 37 args) w := by kernel_rfl
theorem cf_spec_l3Sum (args : Array Value) (w : World) : (callFunc 42 args).run Tryz.prog w = .ok (.enter 42 args) w := by kernel_rfl
theorem cf_spec_l5Challenge (args : Array Value) (w : World) : (callFunc 89 args).run Tryz.prog w = .ok (.enter 89 args) w := by kernel_rfl
theorem cf_impl_transcript_with (args : Array Value) (w : World) : (callFunc 123 args).run Tryz.prog w = .ok (.enter 123 args) w := by kernel_rfl
theorem cf_impl_context_scalar (args : Array Value) (w : World) : (callFunc 140 args).run Tryz.prog w = .ok (.enter 140 args) w := by kernel_rfl
theorem cf_impl_context_tag (args : Array Value) (w : World) : (callFunc 122 args).run Tryz.prog w = .ok (.enter 122 args) w := by kernel_rfl
theorem cf_impl_hashOf (args : Array Value) (w : World) : (callFunc 124 args).run Tryz.prog w = .ok (.enter 124 args) w := by kernel_rfl
theorem cf_impl_curvePoint_times (args : Array Value) (w : World) : (callFunc 68 args).run Tryz.prog w = .ok (.enter 68 args) w := by kernel_rfl
theorem cf_impl_curvePoint_plus (args : Array Value) (w : World) : (callFunc 107 args).run Tryz.prog w = .ok (.enter 107 args) w := by kernel_rfl
theorem cf_impl_curvePoint_triple (args : Array Value) (w : World) : (callFunc 109 args).run Tryz.prog w = .ok (.enter 109 args) w := by kernel_rfl
theorem cf_impl_triple_multiple (args : Array Value) (w : World) : (callFunc 110 args).run Tryz.prog w = .ok (.enter 110 args) w := by kernel_rfl
theorem cf_impl_triple_plus (args : Array Value) (w : World) : (callFunc 139 args).run Tryz.prog w = .ok (.enter 139 args) w := by kernel_rfl
theorem cf_impl_weighted (args : Array Value) (w : World) : (callFunc 138 args).run Tryz.prog w = .ok (.enter 138 args) w := by kernel_rfl
theorem cf_impl_batch_challenge (args : Array Value) (w : World) : (callFunc 108 args).run Tryz.prog w = .ok (.enter 108 args) w := by kernel_rfl
end Go.Proofs.YtjmhmajfkdglnaaGreatDoor
namespace Go.Proofs.YtjmhmajfkdglnaaGreatDoor
open Go.RowKit M
theorem sizeBld : (Tryz.prog.info? 30).map (·.size) = some 6 := by kernel_rfl
theorem Bk.sets {W : World} {t : TypeId} {b : Nat} {cs : Array Value} (h : Bk W t b cs) (ds : List Value) (hl : ds.length = cs.size) : Bk (W.setCells b 0 ds) t b ds.toArray := by
  have := setCells_full b t ds 0 W cs.toList (by unfold Bk at h; simpa using h) (by simp; omega)
  unfold Bk
  rw [this]
  simp [hl, List.drop_eq_nil_of_le]
theorem sizePt3 : (Tryz.prog.info? 28).map (·.size) = some 3 := by kernel_rfl
theorem Bk.set3 {W : World} {t : TypeId} {b : Nat} {v0 v1 v2 v3 v4 v5 : Value} (h : Bk W t b #[v0, v1, v2, v3, v4, v5]) (u3 u4 u5 : Value) : Bk (W.setCells b 3 [u3, u4, u5]) t b #[v0, v1, v2, u3, u4, u5] := by
  have := setCells_full b t [u3, u4, u5] 3 W [v0, v1, v2, v3, v4, v5] h (by simp)
  exact this
theorem Bk.setsO {W : World} {t : TypeId} {b b' : Nat} {cs : Array Value} (h : Bk W t b cs) (hne : b ≠ b') (o : Nat) (ds : List Value) : Bk (W.setCells b' o ds) t b cs :=
  (World.heap_setCells_other W b' o ds h.lt hne).trans h
theorem zroS (w : World) :
    Calls Tryz.prog 41 #[] w fun e w' => e = .returned (.agg #[.int .u64 0, .int .u64 0, .bool true]) ∧ Below w.heap.size w w' := by
  go_enter Tryz.func41, Tryz.ntmps41
  go_wp2
  refine bodyPost_ret (v := .agg #[.int .u64 0, .int .u64 0, .bool true]) (by simp [results, Tryz.results41, go_sem]) rfl ⟨rfl, ?_⟩
  exact (Below.refl _ w).alloc (Nat.le_refl _) _
theorem cf_spec_Base (args : Array Value) (w : World) : (callFunc 44 args).run Tryz.prog w = .ok (.enter 44 args) w := by kernel_rfl
theorem bsG (w : World) : Calls Tryz.prog 44 #[] w fun e w' => e = .returned (.agg #[.int .u64 (px gG), .int .u64 (py gG), .bool (pb gG)]) ∧ Below w.heap.size w w' := by
  have := baseS w
  rwa [ptW_eq] at this
def zEvn : Array Value := #[.int .u64 0, .int .u64 0, .bool false, .int .u64 0, .int .u64 0]
theorem bldEvn (x y a b : Int) (c : Bool) (w : World) : (Instr.build 167 #[(0, .agg #[.int .u64 x, .int .u64 y, .bool c]), (1, .agg #[.int .u64 a]), (2, .agg #[.int .u64 b])]).run Tryz.prog w = .ok (.agg #[.int .u64 x, .int .u64 y, .bool c, .int .u64 a, .int .u64 b]) w := run_build w _ _ _ (by kernel_rfl)
section
variable (pc ps : Int) (a0 a1 a2 a3 : Addr) (w : World) (hs : Sn w a0 a1 a2 a3)
include hs
theorem evlI_n (a : Option Addr) (n cap : Nat) (hn : ((n : Int) != 1) = true) :
    Calls Tryz.prog 95 #[.agg #[.slice a n cap, .int .u64 pc, .int .u64 ps]] w fun e w' => e = .returned (.tuple #[.agg zEvn, flt ⟨#[101, 108, 101, 109, 101, 110, 116, 115]⟩ (sen a0)]) ∧ Below w.heap.size w w' := by
  have hg0 : 0 < w.heap.size := World.block_lt_of_cell? w _ hs.c0
  obtain ⟨X, hX⟩ : ∃ X, X = (w.alloc (Obj.cells #[.slice a n cap, .int .u64 pc, .int .u64 ps] 42)).alloc (Obj.cells #[.int .u64 0, .int .u64 0, .bool false, .int .u64 0, .int .u64 0] 167) := ⟨_, rfl⟩
  have r1 : Bk X 42 w.heap.size #[.slice a n cap, .int .u64 pc, .int .u64 ps] := by rw [hX]; exact (Bk.new _ _ _).alloc _
  have hr : Bk X 167 (w.heap.size + 1) #[.int .u64 0, .int .u64 0, .bool false, .int .u64 0, .int .u64 0] := by rw [hX]; exact (Bk.new _ _ _).at (by simp)
  have hb : Below w.heap.size w X := by rw [hX]; exact ((Below.refl _ w).alloc (Nat.le_refl _) _).alloc (by simp) _
  have c0 := r1.cell (k := 0) rfl
  rw [hX] at c0
  go_enter Tryz.func95, Tryz.ntmps95
  go_wp2
  rw [← hX]
  clear hX c0
  have g0 : X.drew.cell? ⟨0, 0, none⟩ = _ := (hs.keep hb).c0
  have n0 : 0 ∉ [w.heap.size + 1] := fun h => absurd (List.mem_singleton.1 h) (by omega)
  have l1 : w.heap.size + 1 < X.drew.heap.size := hr.lt
  refine G.pool_list (W := X) [w.heap.size + 1] [.val (.agg #[.int .u64 0, .int .u64 0, .bool false, .int .u64 0, .int .u64 0]),
      .val (sen a0),
      .val (.agg #[.string ⟨#[101, 108, 101, 109, 101, 110, 116, 115]⟩, sen a0]),
      .val (.iface 150 (.agg #[.string ⟨#[101, 108, 101, 109, 101, 110, 116, 115]⟩, sen a0])),
      .set (w.heap.size + 1) (.cells #[.int .u64 0, .int .u64 0, .bool false, .int .u64 0, .int .u64 0] 167) (.cells #[.int .u64 0, .int .u64 0, .bool false, .int .u64 0, .int .u64 0] 167),
      .val (.iface 150 (.agg #[.string ⟨#[101, 108, 101, 109, 101, 110, 116, 115]⟩, sen a0]))] [[], [], [15], [16], [2, 14], [17]] (fun f => [(some 14, .agg #[.int .u64 0, .int .u64 0, .bool false, .int .u64 0, .int .u64 0]), (some 15, sen a0), (some 16, .agg #[.string ⟨#[101, 108, 101, 109, 101, 110, 116, 115]⟩, sen a0]), (some 17, .iface 150 (.agg #[.string ⟨#[101, 108, 101, 109, 101, 110, 116, 115]⟩, sen a0])), (none, undef), (some 3, .iface 150 (.agg #[.string ⟨#[101, 108, 101, 109, 101, 110, 116, 115]⟩, sen a0]))]) (by kernel_rfl) (by kernel_rfl) (by kernel_rfl) (by kernel_rfl) (fun _ => by kernel_rfl) (G.last_of [.cells #[.int .u64 0, .int .u64 0, .bool false, .int .u64 0, .int .u64 0] 167] (fun F R hm => by simp at hm) (fun ob ob' k hm => by simp at hm) (fun b ob ob' hm => by simp at hm; simp [hm])) (fun b ob ob' hm => by simp at hm; obtain ⟨rfl, rfl, -⟩ := hm; exact hr) ?_ ?_
  · intro ix hix
    match ix, hix with
    | 0, _ => exact G.ob_val [] rfl rfl (fun _ => by kernel_rfl) (fun A w _ hB => bu0_evn)
    | 1, _ => exact G.ob_val [] rfl rfl (fun _ => by kernel_rfl) (fun A w _ hB => ld_err rfl (hB.cell g0 n0))
    | 2, _ => exact G.ob_val [(15, sen a0)] rfl rfl (fun _ => by kernel_rfl) (fun A w ⟨e0, _⟩ hB => bu_flt rfl e0)
    | 3, _ => exact G.ob_val [(16, .agg #[.string ⟨#[101, 108, 101, 109, 101, 110, 116, 115]⟩, sen a0])] rfl rfl (fun _ => by kernel_rfl) (fun A w ⟨e0, _⟩ hB => mi_flt e0)
    | 4, _ => exact G.ob_set (fun f => [(2, .pointer (some ⟨w.heap.size + 1, 0, none⟩)), (14, .agg #[.int .u64 0, .int .u64 0, .bool false, .int .u64 0, .int .u64 0])]) rfl rfl rfl (by simp) l1 (fun j ob1 ob2 h => by (rcases j with _ | _ | _ | _ | _ | _ | j) <;> simp [G.kindOf] at h ⊢ <;> omega) (fun _ => by kernel_rfl) (fun f A w ⟨e0, e1, _⟩ hh hr => pu_any e0 e1 hr rfl size_evn (by kernel_rfl))
    | 5, _ => exact G.ob_val [(17, .iface 150 (.agg #[.string ⟨#[101, 108, 101, 109, 101, 110, 116, 115]⟩, sen a0]))] rfl rfl (fun _ => by kernel_rfl) (fun A w ⟨e0, _⟩ hB => doV_assign e0)
    | ix + 6, h => exact absurd h (by simp)
  intro f W3 hS _ _ _ hset
  have q1 : Bk W3 167 (w.heap.size + 1) zEvn := hset 4 _ _ _ rfl (by decide)
  have hb3 : Below w.heap.size w W3 := hS.under hb.drew (by intro b h; rw [List.mem_singleton.1 h]; omega) hb.size
  clear hset hS g0
  simp only [puts, List.foldl, Act.put, List.setIfInBounds_toArray, List.set_cons_zero, List.set_cons_succ]
  go_wp2
  exact bodyPost_ret (v := .tuple #[.agg zEvn, flt ⟨#[101, 108, 101, 109, 101, 110, 116, 115]⟩ (sen a0)]) (bk_res2 (fn := Tryz.f95) (p := 2) (u := 3) Tryz.results95 _ rfl q1 Tryz.underlying167 rfl size_evn) rfl ⟨rfl, hb3⟩
variable (g o cap : Nat) (x y : Int) (c : Bool) (e0 : w.cell? ⟨g, o, none⟩ = some (.int .u64 x)) (e1 : w.cell? ⟨g, o + 1, none⟩ = some (.int .u64 y)) (e2 : w.cell? ⟨g, o + 2, none⟩ = some (.bool c))
include e0 e1 e2
omit hs in
theorem evlI_e
    (EL : ∀ w', Below w.heap.size w w' → Calls Tryz.prog 85 #[.agg #[.int .u64 x, .int .u64 y, .bool c]] w' fun e w'' => e = .returned (.tuple #[.agg #[.int .u64 0, .int .u64 0, .bool true], sen a0]) ∧ Below w'.heap.size w' w'') :
    Calls Tryz.prog 95 #[.agg #[.slice (some ⟨g, o, none⟩) 1 cap, .int .u64 pc, .int .u64 ps]] w fun e w' => e = .returned (.tuple #[.agg zEvn, flt ⟨#[101, 108, 101, 109, 101, 110, 116]⟩ (sen a0)]) ∧ Below w.heap.size w w' := by
  unfold flt sen at *
  obtain ⟨X, hX⟩ : ∃ X, X = (w.alloc (Obj.cells #[.slice (some ⟨g, o, none⟩) 1 cap, .int .u64 pc, .int .u64 ps] 42)).alloc (Obj.cells #[.int .u64 0, .int .u64 0, .bool false, .int .u64 0, .int .u64 0] 167) := ⟨_, rfl⟩
  have r1 : Bk X 42 w.heap.size #[.slice (some ⟨g, o, none⟩) 1 cap, .int .u64 pc, .int .u64 ps] := by rw [hX]; exact (Bk.new _ _ _).alloc _
  have hr : Bk X 167 (w.heap.size + 1) #[.int .u64 0, .int .u64 0, .bool false, .int .u64 0, .int .u64 0] := by rw [hX]; exact (Bk.new _ _ _).at (by simp)
  have hb : Below w.heap.size w X := by rw [hX]; exact ((Below.refl _ w).alloc (Nat.le_refl _) _).alloc (by simp) _
  have c0 := r1.cell (k := 0) rfl
  have d0 := (hb.cell (p := ⟨g, o, none⟩) (World.block_lt_of_cell? w _ e0)).trans e0
  have d1 := (hb.cell (p := ⟨g, o + 1, none⟩) (World.block_lt_of_cell? w _ e1)).trans e1
  have d2 := (hb.cell (p := ⟨g, o + 2, none⟩) (World.block_lt_of_cell? w _ e2)).trans e2
  rw [hX] at c0 d0 d1 d2 hb hr
  clear hX r1 e0 e1 e2
  go_enter Tryz.func95, Tryz.ntmps95
  go_wp2_with fail
  refine (EL _ hb).mono ?_
  rintro e w1 ⟨rfl, b1⟩
  have hal := (Below.refl _ w1).alloc (Nat.le_refl _) (Obj.cells #[.int .u64 0, .int .u64 0, .bool true] 106)
  replace hr := (hr.keep b1).keep hal
  replace hb := hb.trans (b1.mono hb.size)
  replace hb := hb.trans (hal.mono hb.size)
  clear EL b1 hal c0 d0 d1 d2
  have hth := hr.there 5 (by decide)
  go_wp2_with (refine wpList_store_mid rfl 167 _ _ rfl (w.heap.size + 1) 0 zEvn rfl rfl hth size_evn (by kernel_rfl) ?_)
  exact bodyPost_ret (v := .tuple #[.agg zEvn, flt ⟨#[101, 108, 101, 109, 101, 110, 116]⟩ (sen a0)]) (bk_res2 (fn := Tryz.f95) (p := 2) (u := 3) Tryz.results95 _ rfl (hr.sets _ rfl) Tryz.underlying167 rfl size_evn) rfl ⟨rfl, below_setCells hb (by omega) _ _⟩
variable (q : Pt)
    (EL : ∀ w', Below w.heap.size w w' → Calls Tryz.prog 85 #[.agg #[.int .u64 x, .int .u64 y, .bool c]] w' fun e w'' => e = .returned (.tuple #[.agg #[.int .u64 (px q), .int .u64 (py q), .bool (pb q)], .nilIface]) ∧ Below w'.heap.size w' w'')
include EL
theorem evlI_x (zc zs : Int) (o1 o2 : Bool)
    (XC : ∀ w, Calls Tryz.prog 65 #[.int .u64 pc, .agg #[]] w fun e w' => e = .returned (.tuple #[.agg #[.int .u64 zc], .bool o1]) ∧ Below w.heap.size w w')
    (XS : ∀ w, Calls Tryz.prog 65 #[.int .u64 ps, .agg #[]] w fun e w' => e = .returned (.tuple #[.agg #[.int .u64 zs], .bool o2]) ∧ Below w.heap.size w w') :
    Calls Tryz.prog 95 #[.agg #[.slice (some ⟨g, o, none⟩) 1 cap, .int .u64 pc, .int .u64 ps]] w fun e w' => e = .returned (if (o1 && o2) = true then .tuple #[.agg #[.int .u64 (px q), .int .u64 (py q), .bool (pb q), .int .u64 zc, .int .u64 zs], .nilIface] else .tuple #[.agg zEvn, flt ⟨#[112, 114, 111, 111, 102]⟩ (sen a0)]) ∧ Below w.heap.size w w' := by
  obtain ⟨V, hV⟩ : ∃ V : Value, Hid (V = (if (o1 && o2) = true then .tuple #[.agg #[.int .u64 (px q), .int .u64 (py q), .bool (pb q), .int .u64 zc, .int .u64 zs], .nilIface] else .tuple #[.agg zEvn, flt ⟨#[112, 114, 111, 111, 102]⟩ (sen a0)])) := ⟨_, rfl⟩
  rw [← hV.out]
  have hg0 : 0 < w.heap.size := World.block_lt_of_cell? w _ hs.c0
  have hB := bldEvn (px q) (py q) zc zs (pb q)
  obtain ⟨X, hX⟩ : ∃ X, X = (w.alloc (Obj.cells #[.slice (some ⟨g, o, none⟩) 1 cap, .int .u64 pc, .int .u64 ps] 42)).alloc (Obj.cells #[.int .u64 0, .int .u64 0, .bool false, .int .u64 0, .int .u64 0] 167) := ⟨_, rfl⟩
  have r1 : Bk X 42 w.heap.size #[.slice (some ⟨g, o, none⟩) 1 cap, .int .u64 pc, .int .u64 ps] := by rw [hX]; exact (Bk.new _ _ _).alloc _
  have hr : Bk X 167 (w.heap.size + 1) #[.int .u64 0, .int .u64 0, .bool false, .int .u64 0, .int .u64 0] := by rw [hX]; exact (Bk.new _ _ _).at (by simp)
  have hb : Below w.heap.size w X := by rw [hX]; exact ((Below.refl _ w).alloc (Nat.le_refl _) _).alloc (by simp) _
  have c0 := r1.cell (k := 0) rfl
  have d0 := (hb.cell (p := ⟨g, o, none⟩) (World.block_lt_of_cell? w _ e0)).trans e0
  have d1 := (hb.cell (p := ⟨g, o + 1, none⟩) (World.block_lt_of_cell? w _ e1)).trans e1
  have d2 := (hb.cell (p := ⟨g, o + 2, none⟩) (World.block_lt_of_cell? w _ e2)).trans e2
  rw [hX] at c0 d0 d1 d2 hb hr r1
  clear hX e0 e1 e2
  go_enter Tryz.func95, Tryz.ntmps95
  go_wp2_with fail
  refine (EL _ hb).mono ?_
  rintro e w1 ⟨rfl, b1⟩
  have hal := (Below.refl _ w1).alloc (Nat.le_refl _) (Obj.cells #[.int .u64 (px q), .int .u64 (py q), .bool (pb q)] 106)
  have r4 := Bk.new w1 106 #[.int .u64 (px q), .int .u64 (py q), .bool (pb q)]
  replace hr := (hr.keep b1).keep hal
  replace r1 := (r1.keep b1).keep hal
  replace hb := hb.trans (b1.mono hb.size)
  replace hb := hb.trans (hal.mono hb.size)
  clear EL b1 hal c0 d0 d1 d2
  have c1 := r1.cell (k := 1) rfl
  go_wp2_with fail
  refine (XC _).mono ?_
  rintro e w2 ⟨rfl, b1⟩
  have hal := (Below.refl _ w2).alloc (Nat.le_refl _) (Obj.cells #[.int .u64 zc] 117)
  have r6 := Bk.new w2 117 #[.int .u64 zc]
  replace hr := (hr.keep b1).keep hal
  replace r1 := (r1.keep b1).keep hal
  replace r4 := (r4.keep b1).keep hal
  replace hb := hb.trans (b1.mono hb.size)
  replace hb := hb.trans (hal.mono hb.size)
  clear XC b1 hal c1
  have c1 := r1.cell (k := 2) rfl
  go_wp2_with fail
  refine (XS _).mono ?_
  rintro e w3 ⟨rfl, b1⟩
  obtain ⟨W4, hW4⟩ : ∃ W4, W4 = w3.alloc (Obj.cells #[.int .u64 zs] 117) := ⟨_, rfl⟩
  have hal : Below w3.heap.size w3 W4 := by rw [hW4]; exact (Below.refl _ w3).alloc (Nat.le_refl _) _
  have r8 : Bk W4 117 w3.heap.size #[.int .u64 zs] := by rw [hW4]; exact Bk.new _ _ _
  replace hr := (hr.keep b1).keep hal
  replace r4 := (r4.keep b1).keep hal
  replace r6 := (r6.keep b1).keep hal
  replace hb := hb.trans (b1.mono hb.size)
  replace hb := hb.trans (hal.mono hb.size)
  clear XS b1 hal c1 r1
  by_cases h1 : (o1 && o2) = true
  · have hV' : Hid (V = .tuple #[.agg #[.int .u64 (px q), .int .u64 (py q), .bool (pb q), .int .u64 zc, .int .u64 zs], .nilIface]) := by unfold Hid; rw [hV.out, if_pos h1]
    obtain ⟨rfl, rfl⟩ : o1 = true ∧ o2 = true := by simpa using h1
    clear h1
    have q0 := r4.cell (k := 0) rfl
    have q1 := r4.cell (k := 1) rfl
    have q2 := r4.cell (k := 2) rfl
    have q3 := r6.cell (k := 0) rfl
    have q4 := r8.cell (k := 0) rfl
    have hth := hr.there 5 (by decide)
    rw [hW4] at q0 q1 q2 q3 q4 hth hr hb
    go_wp2_with (refine wpList_store_mid rfl 167 _ _ rfl (w.heap.size + 1) 0 #[.int .u64 (px q), .int .u64 (py q), .bool (pb q), .int .u64 zc, .int .u64 zs] rfl rfl hth size_evn (by kernel_rfl) ?_)
    exact bodyPost_ret (v := .tuple #[.agg #[.int .u64 (px q), .int .u64 (py q), .bool (pb q), .int .u64 zc, .int .u64 zs], .nilIface]) (bk_res2 (fn := Tryz.f95) (p := 2) (u := 3) Tryz.results95 _ rfl (hr.sets _ rfl) Tryz.underlying167 rfl size_evn) rfl ⟨by rw [hV'.out], below_setCells hb (by omega) _ _⟩
  · have hV' : Hid (V = .tuple #[.agg zEvn, flt ⟨#[112, 114, 111, 111, 102]⟩ (sen a0)]) := by unfold Hid; rw [hV.out, if_neg h1]
    have fin : ∀ A : Act, True := fun _ => trivial
    clear fin
    cases o1 with
    | false =>
      clear h1
      go_wp2
      rw [← hW4]
      clear hW4
      have g0 : W4.drew.cell? ⟨0, 0, none⟩ = _ := (hs.keep hb).c0
      have n0 : 0 ∉ [w.heap.size + 1] := fun h => absurd (List.mem_singleton.1 h) (by omega)
      have l1 : w.heap.size + 1 < W4.drew.heap.size := hr.lt
      refine G.pool_list (W := W4) [w.heap.size + 1] [.val (.agg #[.int .u64 0, .int .u64 0, .bool false, .int .u64 0, .int .u64 0]),
          .val (sen a0),
          .val (.agg #[.string ⟨#[112, 114, 111, 111, 102]⟩, sen a0]),
          .val (.iface 150 (.agg #[.string ⟨#[112, 114, 111, 111, 102]⟩, sen a0])),
          .set (w.heap.size + 1) (.cells #[.int .u64 0, .int .u64 0, .bool false, .int .u64 0, .int .u64 0] 167) (.cells #[.int .u64 0, .int .u64 0, .bool false, .int .u64 0, .int .u64 0] 167),
          .val (.iface 150 (.agg #[.string ⟨#[112, 114, 111, 111, 102]⟩, sen a0]))] [[], [], [55], [56], [2, 54], [57]] (fun f => [(some 54, .agg #[.int .u64 0, .int .u64 0, .bool false, .int .u64 0, .int .u64 0]), (some 55, sen a0), (some 56, .agg #[.string ⟨#[112, 114, 111, 111, 102]⟩, sen a0]), (some 57, .iface 150 (.agg #[.string ⟨#[112, 114, 111, 111, 102]⟩, sen a0])), (none, undef), (some 3, .iface 150 (.agg #[.string ⟨#[112, 114, 111, 111, 102]⟩, sen a0]))]) (by kernel_rfl) (by kernel_rfl) (by kernel_rfl) (by kernel_rfl) (fun _ => by kernel_rfl) (G.last_of [.cells #[.int .u64 0, .int .u64 0, .bool false, .int .u64 0, .int .u64 0] 167] (fun F R hm => by simp at hm) (fun ob ob' k hm => by simp at hm) (fun b ob ob' hm => by simp at hm; simp [hm])) (fun b ob ob' hm => by simp at hm; obtain ⟨rfl, rfl, -⟩ := hm; exact hr) ?_ ?_
      · intro ix hix
        match ix, hix with
        | 0, _ => exact G.ob_val [] rfl rfl (fun _ => by kernel_rfl) (fun A w _ hB => bu0_evn)
        | 1, _ => exact G.ob_val [] rfl rfl (fun _ => by kernel_rfl) (fun A w _ hB => ld_err rfl (hB.cell g0 n0))
        | 2, _ => exact G.ob_val [(55, sen a0)] rfl rfl (fun _ => by kernel_rfl) (fun A w ⟨e0, _⟩ hB => bu_flt rfl e0)
        | 3, _ => exact G.ob_val [(56, .agg #[.string ⟨#[112, 114, 111, 111, 102]⟩, sen a0])] rfl rfl (fun _ => by kernel_rfl) (fun A w ⟨e0, _⟩ hB => mi_flt e0)
        | 4, _ => exact G.ob_set (fun f => [(2, .pointer (some ⟨w.heap.size + 1, 0, none⟩)), (54, .agg #[.int .u64 0, .int .u64 0, .bool false, .int .u64 0, .int .u64 0])]) rfl rfl rfl (by simp) l1 (fun j ob1 ob2 h => by (rcases j with _ | _ | _ | _ | _ | _ | j) <;> simp [G.kindOf] at h ⊢ <;> omega) (fun _ => by kernel_rfl) (fun f A w ⟨e0, e1, _⟩ hh hr => pu_any e0 e1 hr rfl size_evn (by kernel_rfl))
        | 5, _ => exact G.ob_val [(57, .iface 150 (.agg #[.string ⟨#[112, 114, 111, 111, 102]⟩, sen a0]))] rfl rfl (fun _ => by kernel_rfl) (fun A w ⟨e0, _⟩ hB => doV_assign e0)
        | ix + 6, h => exact absurd h (by simp)
      intro f W5 hS _ _ _ hset
      have q1 : Bk W5 167 (w.heap.size + 1) zEvn := hset 4 _ _ _ rfl (by decide)
      have hb3 : Below w.heap.size w W5 := hS.under hb.drew (by intro b h; rw [List.mem_singleton.1 h]; omega) hb.size
      clear hset hS g0
      simp only [puts, List.foldl, Act.put, List.setIfInBounds_toArray, List.set_cons_zero, List.set_cons_succ]
      go_wp2
      exact bodyPost_ret (v := .tuple #[.agg zEvn, flt ⟨#[112, 114, 111, 111, 102]⟩ (sen a0)]) (bk_res2 (fn := Tryz.f95) (p := 2) (u := 3) Tryz.results95 _ rfl q1 Tryz.underlying167 rfl size_evn) rfl ⟨by rw [hV'.out], hb3⟩
    | true =>
      obtain rfl : o2 = false := by simpa using h1
      clear h1
      go_wp2
      rw [← hW4]
      clear hW4
      have g0 : W4.drew.cell? ⟨0, 0, none⟩ = _ := (hs.keep hb).c0
      have n0 : 0 ∉ [w.heap.size + 1] := fun h => absurd (List.mem_singleton.1 h) (by omega)
      have l1 : w.heap.size + 1 < W4.drew.heap.size := hr.lt
      refine G.pool_list (W := W4) [w.heap.size + 1] [.val (.agg #[.int .u64 0, .int .u64 0, .bool false, .int .u64 0, .int .u64 0]),
          .val (sen a0),
          .val (.agg #[.string ⟨#[112, 114, 111, 111, 102]⟩, sen a0]),
          .val (.iface 150 (.agg #[.string ⟨#[112, 114, 111, 111, 102]⟩, sen a0])),
          .set (w.heap.size + 1) (.cells #[.int .u64 0, .int .u64 0, .bool false, .int .u64 0, .int .u64 0] 167) (.cells #[.int .u64 0, .int .u64 0, .bool false, .int .u64 0, .int .u64 0] 167),
          .val (.iface 150 (.agg #[.string ⟨#[112, 114, 111, 111, 102]⟩, sen a0]))] [[], [], [55], [56], [2, 54], [57]] (fun f => [(some 54, .agg #[.int .u64 0, .int .u64 0, .bool false, .int .u64 0, .int .u64 0]), (some 55, sen a0), (some 56, .agg #[.string ⟨#[112, 114, 111, 111, 102]⟩, sen a0]), (some 57, .iface 150 (.agg #[.string ⟨#[112, 114, 111, 111, 102]⟩, sen a0])), (none, undef), (some 3, .iface 150 (.agg #[.string ⟨#[112, 114, 111, 111, 102]⟩, sen a0]))]) (by kernel_rfl) (by kernel_rfl) (by kernel_rfl) (by kernel_rfl) (fun _ => by kernel_rfl) (G.last_of [.cells #[.int .u64 0, .int .u64 0, .bool false, .int .u64 0, .int .u64 0] 167] (fun F R hm => by simp at hm) (fun ob ob' k hm => by simp at hm) (fun b ob ob' hm => by simp at hm; simp [hm])) (fun b ob ob' hm => by simp at hm; obtain ⟨rfl, rfl, -⟩ := hm; exact hr) ?_ ?_
      · intro ix hix
        match ix, hix with
        | 0, _ => exact G.ob_val [] rfl rfl (fun _ => by kernel_rfl) (fun A w _ hB => bu0_evn)
        | 1, _ => exact G.ob_val [] rfl rfl (fun _ => by kernel_rfl) (fun A w _ hB => ld_err rfl (hB.cell g0 n0))
        | 2, _ => exact G.ob_val [(55, sen a0)] rfl rfl (fun _ => by kernel_rfl) (fun A w ⟨e0, _⟩ hB => bu_flt rfl e0)
        | 3, _ => exact G.ob_val [(56, .agg #[.string ⟨#[112, 114, 111, 111, 102]⟩, sen a0])] rfl rfl (fun _ => by kernel_rfl) (fun A w ⟨e0, _⟩ hB => mi_flt e0)
        | 4, _ => exact G.ob_set (fun f => [(2, .pointer (some ⟨w.heap.size + 1, 0, none⟩)), (54, .agg #[.int .u64 0, .int .u64 0, .bool false, .int .u64 0, .int .u64 0])]) rfl rfl rfl (by simp) l1 (fun j ob1 ob2 h => by (rcases j with _ | _ | _ | _ | _ | _ | j) <;> simp [G.kindOf] at h ⊢ <;> omega) (fun _ => by kernel_rfl) (fun f A w ⟨e0, e1, _⟩ hh hr => pu_any e0 e1 hr rfl size_evn (by kernel_rfl))
        | 5, _ => exact G.ob_val [(57, .iface 150 (.agg #[.string ⟨#[112, 114, 111, 111, 102]⟩, sen a0]))] rfl rfl (fun _ => by kernel_rfl) (fun A w ⟨e0, _⟩ hB => doV_assign e0)
        | ix + 6, h => exact absurd h (by simp)
      intro f W5 hS _ _ _ hset
      have q1 : Bk W5 167 (w.heap.size + 1) zEvn := hset 4 _ _ _ rfl (by decide)
      have hb3 : Below w.heap.size w W5 := hS.under hb.drew (by intro b h; rw [List.mem_singleton.1 h]; omega) hb.size
      clear hset hS g0
      simp only [puts, List.foldl, Act.put, List.setIfInBounds_toArray, List.set_cons_zero, List.set_cons_succ]
      go_wp2
      exact bodyPost_ret (v := .tuple #[.agg zEvn, flt ⟨#[112, 114, 111, 111, 102]⟩ (sen a0)]) (bk_res2 (fn := Tryz.f95) (p := 2) (u := 3) Tryz.results95 _ rfl q1 Tryz.underlying167 rfl size_evn) rfl ⟨by rw [hV'.out], hb3⟩
end
end Go.Proofs.YtjmhmajfkdglnaaGreatDoor
namespace Go.Proofs.YtjmhmajfkdglnaaGreatDoor
open Go.RowKit
theorem mthN (w : World) : (method 449 115 (.agg #[]) "loop.example/s02095/impl.value").run Tryz.prog w = .ok (241, .agg #[]) w := by kernel_rfl
theorem vluN (w : World) :
    Calls Tryz.prog 241 #[.agg #[]] w fun e w' => e = .returned (.int .u64 2305843010818082053) ∧ w' = w.alloc (.cells #[] 115) := by
  go_enter Tryz.func241, Tryz.ntmps241
  go_wp2
  go_ret
  exact ⟨rfl, rfl⟩
theorem fldN : Array.foldl (fun (cs : Array Value) (x : Value × Nat) => cs.setIfInBounds x.snd x.fst) #[Value.int IntKind.u64 0] (#[] : Array Value).zipIdx 0 0 = #[Value.int .u64 0] := rfl
theorem celN : Tryz.prog.cellsOf 117 = 1 := by kernel_rfl
theorem bytN : byteOfCell Tryz.prog Tryz.prog.depth 117 0 = some 0 := by kernel_rfl
theorem prtN {W : World} {b : Nat} {cs : Array Value} (hW : W.heap[b]? = some (.cells cs 117)) : (partAt ⟨b, 0, none⟩ 0 0).run Tryz.prog W = .ok ⟨b, 0, none⟩ W := by
  have h : (byteOf ⟨b, 0, none⟩).run Tryz.prog W = .ok 0 W := by
    have hs : W.shape? b = some (117, cs.size) := by simp [World.shape?, hW]
    simp [byteOf, noView, viewAt, shape, program, Sem.run, hs, celN, bytN, go_sem]
  simp [partAt, h, go_sem]
theorem timN_any (a b : Nat) (w : World) (ha : a < 2305843010818082053) (hb : b < 2305843010818082053) :
    Calls Tryz.prog 174 #[.agg #[.int .u64 a], .agg #[.int .u64 b]] w fun e w' => e = .returned (.agg #[.int .u64 (a * b % 2305843010818082053 : Nat)]) ∧ Below w.heap.size w w' := by
  have hme := mthN
  have hf := fldN
  have M := mul64_any a b (by omega) (by omega)
  have D := fun w => div_any (a * b / 18446744073709551616) (a * b % 18446744073709551616) 2305843010818082053 w (by
    rw [Nat.div_lt_iff_lt_mul (by decide)]
    have : a * b ≤ 2305843010818082052 * 2305843010818082052 := Nat.mul_le_mul (by omega) (by omega)
    omega) (by decide) (Nat.mod_lt _ (by decide))
  have e : a * b / 18446744073709551616 * 18446744073709551616 + a * b % 18446744073709551616 = a * b := by omega
  rw [e] at D
  clear e
  generalize a * b / 18446744073709551616 = hi at *
  generalize a * b % 18446744073709551616 = lo at *
  obtain ⟨c, hc⟩ : ∃ c, c = a * b % 2305843010818082053 := ⟨_, rfl⟩
  rw [← hc] at D ⊢
  clear hc ha hb
  obtain ⟨X, hX⟩ : ∃ X, X = ((w.alloc (Obj.cells #[.int .u64 (a : Int)] 117)).alloc (Obj.cells #[.int .u64 (b : Int)] 117)).alloc (Obj.cells #[.int .u64 0] 117) := ⟨_, rfl⟩
  have hX0 : X.heap[w.heap.size]? = some (.cells #[.int .u64 (a : Int)] 117) := by
    rw [hX]
    exact (Below.heap_alloc _ _ _ (by simp; omega)).trans ((Below.heap_alloc _ _ _ (by simp)).trans (heap_alloc_new w _))
  have hp1 := prtN hX0
  have hX1 : (X.alloc (Obj.cells #[] 115)).heap[w.heap.size]? = some (.cells #[.int .u64 (a : Int)] 117) := (Below.heap_alloc _ _ _ (Array.getElem?_eq_some_iff.1 hX0).1).trans hX0
  have hp2 := prtN hX1
  have hp3 := prtN (W := (X.alloc (Obj.cells #[] 115)).drew) hX1
  rw [hX] at hp1 hp2 hp3
  clear hX hX0 hX1
  go_enter Tryz.func174, Tryz.ntmps174
  go_wp2_with fail
  refine (M _).mono ?_
  rintro e w' ⟨rfl, rfl⟩
  go_wp2_with fail
  refine (vluN _).mono ?_
  rintro e w' ⟨rfl, rfl⟩
  go_wp2_with fail
  refine (D _).mono ?_
  rintro e w' ⟨⟨z, rfl⟩, rfl | rfl⟩
  · go_wp2
    refine bodyPost_ret (v := .agg #[.int .u64 c]) (by simp [results, Tryz.results174, go_sem]) rfl ⟨rfl, ?_⟩
    exact ((((Below.refl _ _).alloc (Nat.le_refl _) _).alloc (by simp) _).alloc (by simp; omega) _).alloc (by simp; omega) _
  · go_wp2
    refine bodyPost_ret (v := .agg #[.int .u64 c]) (by simp [results, Tryz.results174, go_sem]) rfl ⟨rfl, ?_⟩
    exact (((((Below.refl _ _).alloc (Nat.le_refl _) _).alloc (by simp) _).alloc (by simp; omega) _).alloc (by simp; omega) _).drew
theorem mnN_lt (a b d c : Int) (w : World) (h : a < b) (hd : IntKind.u64.wrap (a - b) = d) (hc : IntKind.u64.wrap (d + 2305843010818082053) = c) :
    Calls Tryz.prog 192 #[.agg #[.int .u64 a], .agg #[.int .u64 b]] w fun e w' => e = .returned (.agg #[.int .u64 c]) ∧ Below w.heap.size w w' := by
  have hme := mthN
  have hf := fldN
  obtain ⟨X, hX⟩ : ∃ X, X = ((w.alloc (Obj.cells #[.int .u64 a] 117)).alloc (Obj.cells #[.int .u64 b] 117)).alloc (Obj.cells #[.int .u64 0] 117) := ⟨_, rfl⟩
  have hX0 : X.heap[w.heap.size]? = some (.cells #[.int .u64 a] 117) := by
    rw [hX]
    exact (Below.heap_alloc _ _ _ (by simp; omega)).trans ((Below.heap_alloc _ _ _ (by simp)).trans (heap_alloc_new w _))
  have hp1 := prtN hX0
  have hX1 : (X.alloc (Obj.cells #[] 115)).heap[w.heap.size]? = some (.cells #[.int .u64 a] 117) := (Below.heap_alloc _ _ _ (Array.getElem?_eq_some_iff.1 hX0).1).trans hX0
  have hp2 := prtN hX1
  rw [hX] at hp1 hp2
  clear hX hX0 hX1
  go_enter Tryz.func192, Tryz.ntmps192
  go_wp2_with fail
  refine (vluN _).mono ?_
  rintro e w' ⟨rfl, rfl⟩
  go_wp2
  refine bodyPost_ret (v := .agg #[.int .u64 c]) (by simp [results, Tryz.results192, go_sem]) rfl ⟨rfl, ?_⟩
  exact ((((Below.refl _ _).alloc (Nat.le_refl _) _).alloc (by simp) _).alloc (by simp; omega) _).alloc (by simp; omega) _
theorem mnN_ge (a b d : Int) (w : World) (h : b ≤ a) (hd : IntKind.u64.wrap (a - b) = d) :
    Calls Tryz.prog 192 #[.agg #[.int .u64 a], .agg #[.int .u64 b]] w fun e w' => e = .returned (.agg #[.int .u64 d]) ∧ Below w.heap.size w w' := by
  have hme := mthN
  have hf := fldN
  have hlt : ¬ a < b := by omega
  clear h
  obtain ⟨X, hX⟩ : ∃ X, X = ((w.alloc (Obj.cells #[.int .u64 a] 117)).alloc (Obj.cells #[.int .u64 b] 117)).alloc (Obj.cells #[.int .u64 0] 117) := ⟨_, rfl⟩
  have hX0 : X.heap[w.heap.size]? = some (.cells #[.int .u64 a] 117) := by
    rw [hX]
    exact (Below.heap_alloc _ _ _ (by simp; omega)).trans ((Below.heap_alloc _ _ _ (by simp)).trans (heap_alloc_new w _))
  have hp1 := prtN hX0
  rw [hX] at hp1
  clear hX hX0
  go_enter Tryz.func192, Tryz.ntmps192
  go_wp2
  refine bodyPost_ret (v := .agg #[.int .u64 d]) (by simp [results, Tryz.results192, go_sem]) rfl ⟨rfl, ?_⟩
  exact (((Below.refl _ _).alloc (Nat.le_refl _) _).alloc (by simp) _).alloc (by simp; omega) _
theorem mnN_any (a b : Nat) (w : World) (ha : a < 2305843010818082053) (hb : b < 2305843010818082053) :
    Calls Tryz.prog 192 #[.agg #[.int .u64 a], .agg #[.int .u64 b]] w fun e w' => e = .returned (.agg #[.int .u64 ((a + (2305843010818082053 - b) % 2305843010818082053) % 2305843010818082053 : Nat)]) ∧ Below w.heap.size w w' := by
  by_cases h : a < b
  · have e : ((a + (2305843010818082053 - b) % 2305843010818082053) % 2305843010818082053 : Nat) = a + 2305843010818082053 - b := by
      rw [Nat.mod_eq_of_lt (show 2305843010818082053 - b < 2305843010818082053 by omega), Nat.mod_eq_of_lt (by omega)]; omega
    rw [e]
    refine mnN_lt a b ((a : Int) - b + 18446744073709551616) _ w (by omega) ?_ ?_
    · rw [IntKind.wrap_u64]; omega
    · rw [IntKind.wrap_u64]; omega
  · have e : ((a + (2305843010818082053 - b) % 2305843010818082053) % 2305843010818082053 : Nat) = a - b := by
      by_cases hb0 : b = 0
      · subst hb0
        rw [Nat.sub_zero, Nat.mod_self, Nat.add_zero, Nat.mod_eq_of_lt ha, Nat.sub_zero]
      · rw [Nat.mod_eq_of_lt (show 2305843010818082053 - b < 2305843010818082053 by omega)]
        have : a + (2305843010818082053 - b) = (a - b) + 2305843010818082053 := by omega
        rw [this, Nat.add_mod_right, Nat.mod_eq_of_lt (by omega)]
    rw [e]
    refine mnN_ge a b _ w (by omega) ?_
    rw [IntKind.wrap_u64]; omega
end Go.Proofs.YtjmhmajfkdglnaaGreatDoor
