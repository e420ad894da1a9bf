import Derived.Test.YtjmhmajfkdglnaaGreatDoorMrg39
import Derived.Test.YtjmhmajfkdglnaaGreatDoorMrg38
import Derived.Test.YtjmhmajfkdglnaaGreatDoorChecked
import Derived.WalkKit
/-
  The program's points of inputs.
-/
namespace Go.Proofs.YtjmhmajfkdglnaaGreatDoor
open Go.RowKit M
set_option linter.unusedVariables false

section
variable (c info input t : ByteArray) (F0 F1 F2 F3 F4 F5 F6 : FuncId) (p : Pt) (a0 a1 a2 a3 : Addr) (w : World) (hs : Sn w a0 a1 a2 a3)
    (T : ∀ w, Calls Tryz.prog 122 #[.string c, .string grpW] w fun e w' => e = .returned (.string t) ∧ Below w.heap.size w w')
include hs T
set_option maxRecDepth 100000 in
set_option maxHeartbeats 4000000 in
theorem grpI_no
    (H : ∀ w', Below w.heap.size w w' → Calls Tryz.prog 121 #[.string input, .string t] w' fun e w'' => e = .returned (.tuple #[.agg #[.int .u64 (px p), .int .u64 (py p), .bool (pb p)], .bool false]) ∧ Below w'.heap.size w' w'') :
    Calls Tryz.prog 80 #[.agg #[.string c, .string info, .func (.func F0) #[] #[], .func (.func F1) #[] #[], .func (.func F2) #[] #[], .func (.func F3) #[] #[], .func (.func F4) #[] #[], .func (.func F5) #[] #[], .func (.func F6) #[] #[]], .string input] w fun e w' => e = .returned (.tuple #[.agg #[.int .u64 0, .int .u64 0, .bool true], flt ⟨#[105, 110, 112, 117, 116]⟩ (sen a0)]) ∧ Below w.heap.size w w' := by
  have hg0 : 0 < w.heap.size := World.block_lt_of_cell? w _ hs.c0
  unfold grpW at T
  obtain ⟨X, hX⟩ : ∃ X, X = (w.alloc (Obj.cells #[.string c, .string info, .func (.func F0) #[] #[], .func (.func F1) #[] #[], .func (.func F2) #[] #[], .func (.func F3) #[] #[], .func (.func F4) #[] #[], .func (.func F5) #[] #[], .func (.func F6) #[] #[]] 144)).alloc (Obj.cells #[.int .u64 0, .int .u64 0, .bool false] 106) := ⟨_, rfl⟩
  have hr : K3 X 106 (w.heap.size + 1) 0 0 false := by rw [hX]; exact (K3.new _ _ _ _ _).at (by simp)
  have hp : Bk X 144 w.heap.size #[.string c, .string info, .func (.func F0) #[] #[], .func (.func F1) #[] #[], .func (.func F2) #[] #[], .func (.func F3) #[] #[], .func (.func F4) #[] #[], .func (.func F5) #[] #[], .func (.func F6) #[] #[]] := by rw [hX]; exact (Bk.new _ _ _).alloc _
  have hb : Below w.heap.size w X := by rw [hX]; exact ((Below.refl _ w).alloc (Nat.le_refl _) _).alloc (by simp) _
  rw [hX] at hr hp hb
  clear hX
  have d0 := hp.cell (k := 0) rfl
  go_enter Tryz.func80, Tryz.ntmps80
  go_wp2_with fail
  refine (T _).mono ?_
  rintro e w1 ⟨rfl, b1⟩
  replace hr := hr.keep b1
  replace hb := hb.trans (b1.mono hb.size)
  clear T b1 hp d0
  go_wp2_with fail
  refine (H _ hb).mono ?_
  rintro e w2 ⟨rfl, b2⟩
  obtain ⟨W2, hW2⟩ : ∃ W2, W2 = w2.alloc (Obj.cells #[.int .u64 (px p), .int .u64 (py p), .bool (pb p)] 106) := ⟨_, rfl⟩
  have hal : Below w2.heap.size w2 W2 := by rw [hW2]; exact (Below.refl _ w2).alloc (Nat.le_refl _) _
  replace hr := (hr.keep b2).keep hal
  replace hb := hb.trans (b2.mono hb.size)
  replace hb := hb.trans (hal.mono hb.size)
  clear H b2 hal
  go_wp2
  rw [← hW2]
  clear hW2
  replace hs := hs.keep hb
  have g0 : W2.drew.cell? ⟨0, 0, none⟩ = _ := hs.c0
  have n0 : 0 ∉ [w.heap.size + 1] := fun h => absurd (List.mem_singleton.1 h) (by omega)
  have l1 : w.heap.size + 1 < W2.drew.heap.size := hr.lt
  refine G.pool_list (W := W2) [w.heap.size + 1] [.val (.agg #[.int .u64 0, .int .u64 0, .bool true]),
      .val (sen a0),
      .val (.agg #[.string ⟨#[105, 110, 112, 117, 116]⟩, sen a0]),
      .val (.iface 150 (.agg #[.string ⟨#[105, 110, 112, 117, 116]⟩, sen a0])),
      .set (w.heap.size + 1) (.cells #[.int .u64 0, .int .u64 0, .bool false] 106) (.cells #[.int .u64 0, .int .u64 0, .bool true] 106),
      .val (.iface 150 (.agg #[.string ⟨#[105, 110, 112, 117, 116]⟩, sen a0]))] [[], [], [20], [21], [4, 19], [22]] (fun f => [(some 19, .agg #[.int .u64 0, .int .u64 0, .bool true]), (some 20, sen a0), (some 21, .agg #[.string ⟨#[105, 110, 112, 117, 116]⟩, sen a0]), (some 22, .iface 150 (.agg #[.string ⟨#[105, 110, 112, 117, 116]⟩, sen a0])), (none, undef), (some 5, .iface 150 (.agg #[.string ⟨#[105, 110, 112, 117, 116]⟩, sen a0]))]) (by kernel_rfl) (by kernel_rfl) (by kernel_rfl) (by kernel_rfl) (fun _ => by kernel_rfl) (G.last_of [.cells #[.int .u64 0, .int .u64 0, .bool false] 106] (fun F R hm => by simp at hm) (fun ob ob' k hm => by simp at hm) (fun b ob ob' hm => by simp at hm; simp [hm])) (fun b ob ob' hm => by simp at hm; obtain ⟨rfl, rfl, -⟩ := hm; exact hr) ?_ ?_
  · intro ix hix
    match ix, hix with
    | 0, _ => exact G.ob_val [] rfl rfl (fun _ => by kernel_rfl) (fun A w _ hB => cl0 cf_impl_zeroPoint  (zpP w))
    | 1, _ => exact G.ob_val [] rfl rfl (fun _ => by kernel_rfl) (fun A w _ hB => ld_err rfl (hB.cell g0 n0))
    | 2, _ => exact G.ob_val [(20, sen a0)] rfl rfl (fun _ => by kernel_rfl) (fun A w ⟨e0, _⟩ hB => bu_flt rfl e0)
    | 3, _ => exact G.ob_val [(21, .agg #[.string ⟨#[105, 110, 112, 117, 116]⟩, sen a0])] rfl rfl (fun _ => by kernel_rfl) (fun A w ⟨e0, _⟩ hB => mi_flt e0)
    | 4, _ => exact G.ob_set (fun f => [(4, .pointer (some ⟨w.heap.size + 1, 0, none⟩)), (19, .agg #[.int .u64 0, .int .u64 0, .bool true])]) rfl rfl rfl (by simp) l1 (fun j ob1 ob2 h => by (rcases j with _ | _ | _ | _ | _ | _ | j) <;> simp [G.kindOf] at h ⊢ <;> omega) (fun _ => by kernel_rfl) (fun f A w ⟨e0, e1, _⟩ hh hr => pu_cp e0 e1 hr)
    | 5, _ => exact G.ob_val [(22, .iface 150 (.agg #[.string ⟨#[105, 110, 112, 117, 116]⟩, sen a0]))] rfl rfl (fun _ => by kernel_rfl) (fun A w ⟨e0, _⟩ hB => doV_assign e0)
    | ix + 6, h => exact absurd h (by simp)
  intro f W3 hS _ _ _ hset
  have q1 : K3 W3 106 (w.heap.size + 1) 0 0 true := hset 4 _ _ _ rfl (by decide)
  have hb3 : Below w.heap.size w W3 := hS.under hb.drew (by simp <;> omega) hb.size
  clear hset hS g0
  simp only [puts, List.foldl, Act.put, List.setIfInBounds_toArray, List.set_cons_zero, List.set_cons_succ]
  go_wp2
  exact bodyPost_ret (v := .tuple #[.agg #[.int .u64 0, .int .u64 0, .bool true], flt ⟨#[105, 110, 112, 117, 116]⟩ (sen a0)]) (cpt_res (fn := Tryz.f80) (p := 4) (u := 5) Tryz.results80 _ rfl q1) rfl ⟨rfl, hb3⟩
variable (H : ∀ w', Below w.heap.size w w' → Calls Tryz.prog 121 #[.string input, .string t] w' fun e w'' => e = .returned (.tuple #[.agg #[.int .u64 (px p), .int .u64 (py p), .bool (pb p)], .bool true]) ∧ Below w'.heap.size w' w'')
include H
set_option maxRecDepth 100000 in
set_option maxHeartbeats 4000000 in
theorem grpI_yes :
    Calls Tryz.prog 80 #[.agg #[.string c, .string info, .func (.func F0) #[] #[], .func (.func F1) #[] #[], .func (.func F2) #[] #[], .func (.func F3) #[] #[], .func (.func F4) #[] #[], .func (.func F5) #[] #[], .func (.func F6) #[] #[]], .string input] w fun e w' => e = .returned (.tuple #[.agg #[.int .u64 (px p), .int .u64 (py p), .bool (pb p)], if pb p = true then flt ⟨#[105, 110, 112, 117, 116]⟩ (sen a1) else .nilIface]) ∧ Below w.heap.size w w' := by
  have hg0 : 1 < w.heap.size := World.block_lt_of_cell? w _ hs.c1
  obtain ⟨V, hV⟩ : ∃ V, Hid (V = (if pb p = true then flt ⟨#[105, 110, 112, 117, 116]⟩ (sen a1) else Value.nilIface)) := ⟨_, rfl⟩
  rw [← hV.out]
  unfold grpW at T
  obtain ⟨X, hX⟩ : ∃ X, X = (w.alloc (Obj.cells #[.string c, .string info, .func (.func F0) #[] #[], .func (.func F1) #[] #[], .func (.func F2) #[] #[], .func (.func F3) #[] #[], .func (.func F4) #[] #[], .func (.func F5) #[] #[], .func (.func F6) #[] #[]] 144)).alloc (Obj.cells #[.int .u64 0, .int .u64 0, .bool false] 106) := ⟨_, rfl⟩
  have hr : K3 X 106 (w.heap.size + 1) 0 0 false := by rw [hX]; exact (K3.new _ _ _ _ _).at (by simp)
  have hp : Bk X 144 w.heap.size #[.string c, .string info, .func (.func F0) #[] #[], .func (.func F1) #[] #[], .func (.func F2) #[] #[], .func (.func F3) #[] #[], .func (.func F4) #[] #[], .func (.func F5) #[] #[], .func (.func F6) #[] #[]] := by rw [hX]; exact (Bk.new _ _ _).alloc _
  have hb : Below w.heap.size w X := by rw [hX]; exact ((Below.refl _ w).alloc (Nat.le_refl _) _).alloc (by simp) _
  rw [hX] at hr hp hb
  clear hX
  have d0 := hp.cell (k := 0) rfl
  go_enter Tryz.func80, Tryz.ntmps80
  go_wp2_with fail
  refine (T _).mono ?_
  rintro e w1 ⟨rfl, b1⟩
  replace hr := hr.keep b1
  replace hb := hb.trans (b1.mono hb.size)
  clear T b1 hp d0
  go_wp2_with fail
  refine (H _ hb).mono ?_
  rintro e w2 ⟨rfl, b2⟩
  obtain ⟨W2, hW2⟩ : ∃ W2, W2 = w2.alloc (Obj.cells #[.int .u64 (px p), .int .u64 (py p), .bool (pb p)] 106) := ⟨_, rfl⟩
  have hal : Below w2.heap.size w2 W2 := by rw [hW2]; exact (Below.refl _ w2).alloc (Nat.le_refl _) _
  have hr2 : K3 W2 106 w2.heap.size (px p) (py p) (pb p) := by rw [hW2]; exact K3.new _ _ _ _ _
  have hlt : w.heap.size + 1 < w2.heap.size := (hr.keep b2).lt
  replace hr := (hr.keep b2).keep hal
  replace hb := hb.trans (b2.mono hb.size)
  replace hb := hb.trans (hal.mono hb.size)
  clear H b2 hal
  go_wp2
  rw [← hW2]
  clear hW2
  generalize w2.heap.size = H2 at *
  replace hs := hs.keep hb
  have k0 : W2.drew.cell? ⟨H2, 0, none⟩ = _ := hr2.c0
  have k1 : W2.drew.cell? ⟨H2, 1, none⟩ = _ := hr2.c1
  have k2 : W2.drew.cell? ⟨H2, 2, none⟩ = _ := hr2.c2
  refine G.pool_list (W := W2) [] [.val (.agg #[.int .u64 (px p), .int .u64 (py p), .bool (pb p)]),
      .val (.agg #[.int .u64 0, .int .u64 0, .bool true]),
      .val (.bool (pb p))] [[6], [], [23, 24]] (fun f => [(some 23, .agg #[.int .u64 (px p), .int .u64 (py p), .bool (pb p)]), (some 24, .agg #[.int .u64 0, .int .u64 0, .bool true]), (some 25, .bool (pb p))]) (by kernel_rfl) (by kernel_rfl) (by kernel_rfl) (by kernel_rfl) (fun _ => by kernel_rfl) (G.last_of [] (fun F R hm => by simp at hm) (fun ob ob' k hm => by simp at hm) (fun b ob ob' hm => by simp at hm)) (fun b ob ob' hm => by simp at hm) ?_ ?_
  · intro ix hix
    match ix, hix with
    | 0, _ => exact G.ob_val [(6, .pointer (some ⟨H2, 0, none⟩))] rfl rfl (fun _ => by kernel_rfl) (fun A w ⟨e0, _⟩ hB => ld_cp e0 (hB.cell k0 (by simp)) (hB.cell k1 (by simp)) (hB.cell k2 (by simp)))
    | 1, _ => exact G.ob_val [] rfl rfl (fun _ => by kernel_rfl) (fun A w _ hB => cl0 cf_impl_zeroPoint  (zpP w))
    | 2, _ => exact G.ob_val [(23, .agg #[.int .u64 (px p), .int .u64 (py p), .bool (pb p)]), (24, .agg #[.int .u64 0, .int .u64 0, .bool true])] rfl rfl (fun _ => by kernel_rfl) (fun A w ⟨e0, e1, _⟩ hB => eq_cpz e0 e1)
    | ix + 3, h => exact absurd h (by simp)
  intro f W3 hS _ _ _ _
  have b3 : Below W2.heap.size W2 W3 := (Below.refl _ W2).drew.trans hS.below
  replace hr := hr.keep b3
  replace hr2 := hr2.keep b3
  replace hs := hs.keep b3
  replace hb := hb.trans (b3.mono hb.size)
  clear hS b3 k0 k1 k2
  simp only [puts, List.foldl, Act.put, List.setIfInBounds_toArray, List.set_cons_zero, List.set_cons_succ]
  cases hz : pb p with
  | true =>
    have hp0 : px p = 0 ∧ py p = 0 := by
      have := (pb_none p).1 hz
      subst this; exact ⟨rfl, rfl⟩
    go_wp2
    have g1 : W3.drew.cell? ⟨1, 0, none⟩ = _ := hs.c1
    have n0 : 1 ∉ [w.heap.size + 1] := fun h => absurd (List.mem_singleton.1 h) (by omega)
    have l1 : w.heap.size + 1 < W3.drew.heap.size := hr.lt
    refine G.pool_list (W := W3) [w.heap.size + 1] [.val (.agg #[.int .u64 0, .int .u64 0, .bool true]),
        .val (sen a1),
        .val (.agg #[.string ⟨#[105, 110, 112, 117, 116]⟩, sen a1]),
        .val (.iface 150 (.agg #[.string ⟨#[105, 110, 112, 117, 116]⟩, sen a1])),
        .set (w.heap.size + 1) (.cells #[.int .u64 0, .int .u64 0, .bool false] 106) (.cells #[.int .u64 0, .int .u64 0, .bool true] 106),
        .val (.iface 150 (.agg #[.string ⟨#[105, 110, 112, 117, 116]⟩, sen a1]))] [[], [], [27], [28], [4, 26], [29]] (fun f => [(some 26, .agg #[.int .u64 0, .int .u64 0, .bool true]), (some 27, sen a1), (some 28, .agg #[.string ⟨#[105, 110, 112, 117, 116]⟩, sen a1]), (some 29, .iface 150 (.agg #[.string ⟨#[105, 110, 112, 117, 116]⟩, sen a1])), (none, undef), (some 5, .iface 150 (.agg #[.string ⟨#[105, 110, 112, 117, 116]⟩, sen a1]))]) (by kernel_rfl) (by kernel_rfl) (by kernel_rfl) (by kernel_rfl) (fun _ => by kernel_rfl) (G.last_of [.cells #[.int .u64 0, .int .u64 0, .bool false] 106] (fun F R hm => by simp at hm) (fun ob ob' k hm => by simp at hm) (fun b ob ob' hm => by simp at hm; simp [hm])) (fun b ob ob' hm => by simp at hm; obtain ⟨rfl, rfl, -⟩ := hm; exact hr) ?_ ?_
    · intro ix hix
      match ix, hix with
      | 0, _ => exact G.ob_val [] rfl rfl (fun _ => by kernel_rfl) (fun A w _ hB => cl0 cf_impl_zeroPoint  (zpP w))
      | 1, _ => exact G.ob_val [] rfl rfl (fun _ => by kernel_rfl) (fun A w _ hB => ld_err rfl (hB.cell g1 n0))
      | 2, _ => exact G.ob_val [(27, sen a1)] rfl rfl (fun _ => by kernel_rfl) (fun A w ⟨e0, _⟩ hB => bu_flt rfl e0)
      | 3, _ => exact G.ob_val [(28, .agg #[.string ⟨#[105, 110, 112, 117, 116]⟩, sen a1])] rfl rfl (fun _ => by kernel_rfl) (fun A w ⟨e0, _⟩ hB => mi_flt e0)
      | 4, _ => exact G.ob_set (fun f => [(4, .pointer (some ⟨w.heap.size + 1, 0, none⟩)), (26, .agg #[.int .u64 0, .int .u64 0, .bool true])]) rfl rfl rfl (by simp) l1 (fun j ob1 ob2 h => by (rcases j with _ | _ | _ | _ | _ | _ | j) <;> simp [G.kindOf] at h ⊢ <;> omega) (fun _ => by kernel_rfl) (fun f A w ⟨e0, e1, _⟩ hh hr => pu_cp e0 e1 hr)
      | 5, _ => exact G.ob_val [(29, .iface 150 (.agg #[.string ⟨#[105, 110, 112, 117, 116]⟩, sen a1]))] rfl rfl (fun _ => by kernel_rfl) (fun A w ⟨e0, _⟩ hB => doV_assign e0)
      | ix + 6, h => exact absurd h (by simp)
    intro f W4 hS _ _ _ hset
    have q1 : K3 W4 106 (w.heap.size + 1) 0 0 true := hset 4 _ _ _ rfl (by decide)
    have hb3 : Below w.heap.size w W4 := hS.under hb.drew (by simp <;> omega) hb.size
    clear hset hS g1
    simp only [puts, List.foldl, Act.put, List.setIfInBounds_toArray, List.set_cons_zero, List.set_cons_succ]
    go_wp2
    exact bodyPost_ret (v := .tuple #[.agg #[.int .u64 0, .int .u64 0, .bool true], flt ⟨#[105, 110, 112, 117, 116]⟩ (sen a1)]) (cpt_res (fn := Tryz.f80) (p := 4) (u := 5) Tryz.results80 _ rfl q1) rfl ⟨by rw [hV.out, hz, hp0.1, hp0.2, if_pos rfl], hb3⟩
  | false =>
    rw [hz] at hr2
    have c0 := hr.c0
    have c1 := hr.c1
    have c2 := hr.c2
    have cf := hr.frz
    have k0 := hr2.c0
    have k1 := hr2.c1
    have k2 := hr2.c2
    go_wp2
    exact bodyPost_ret (v := .tuple #[.agg #[.int .u64 (px p), .int .u64 (py p), .bool false], .nilIface]) (cpt_res (fn := Tryz.f80) (p := 4) (u := 5) Tryz.results80 _ rfl (hr.set (px p) (py p) false)) rfl ⟨by rw [hV.out, hz, if_neg (by decide)], set3_below hb (by omega)⟩
end
end Go.Proofs.YtjmhmajfkdglnaaGreatDoor

namespace Go.Proofs.YtjmhmajfkdglnaaGreatDoor
open Go.RowKit
theorem cf_spec_l5Sized (args : Array Value) (w : World) : (callFunc 73 args).run Tryz.prog w = .ok (.enter 73 args) w := by kernel_rfl
theorem cf_spec_PutPoint (args : Array Value) (w : World) : (callFunc 75 args).run Tryz.prog w = .ok (.enter 75 args) w := by kernel_rfl
theorem cf_spec_l5Scalar (args : Array Value) (w : World) : (callFunc 84 args).run Tryz.prog w = .ok (.enter 84 args) w := by kernel_rfl
theorem cf_spec_Times (args : Array Value) (w : World) : (callFunc 37 args).run Tryz.prog w = .ok (.enter 37 args) w := by kernel_rfl
theorem cf_spec_l3Sum (args : Array Value) (w : World) : (callFunc 42 args).run Tryz.prog w = .ok (.enter 42 args) w := by kernel_rfl
theorem cf_spec_l5Mix (args : Array Value) (w : World) : (callFunc 87 args).run Tryz.prog w = .ok (.enter 87 args) w := by kernel_rfl
theorem cf_spec_l5Challenge (args : Array Value) (w : World) : (callFunc 89 args).run Tryz.prog w = .ok (.enter 89 args) w := by kernel_rfl
theorem cf_spec_l5Weights (args : Array Value) (w : World) : (callFunc 88 args).run Tryz.prog w = .ok (.enter 88 args) w := by kernel_rfl
theorem cf_spec_MulMod (args : Array Value) (w : World) : (callFunc 90 args).run Tryz.prog w = .ok (.enter 90 args) w := by kernel_rfl
theorem cf_spec_l2Add (args : Array Value) (w : World) : (callFunc 72 args).run Tryz.prog w = .ok (.enter 72 args) w := by kernel_rfl
theorem cf_spec_PutWord (args : Array Value) (w : World) : (callFunc 117 args).run Tryz.prog w = .ok (.enter 117 args) w := by kernel_rfl
theorem cf_impl_PutWord (args : Array Value) (w : World) : (callFunc 239 args).run Tryz.prog w = .ok (.enter 239 args) w := by kernel_rfl
theorem cf_impl_transcript_with (args : Array Value) (w : World) : (callFunc 123 args).run Tryz.prog w = .ok (.enter 123 args) w := by kernel_rfl
theorem cf_impl_context_scalar (args : Array Value) (w : World) : (callFunc 140 args).run Tryz.prog w = .ok (.enter 140 args) w := by kernel_rfl
theorem cf_impl_context_tag (args : Array Value) (w : World) : (callFunc 122 args).run Tryz.prog w = .ok (.enter 122 args) w := by kernel_rfl
theorem cf_impl_hashOf (args : Array Value) (w : World) : (callFunc 124 args).run Tryz.prog w = .ok (.enter 124 args) w := by kernel_rfl
theorem cf_impl_curvePoint_times (args : Array Value) (w : World) : (callFunc 68 args).run Tryz.prog w = .ok (.enter 68 args) w := by kernel_rfl
theorem cf_impl_curvePoint_plus (args : Array Value) (w : World) : (callFunc 107 args).run Tryz.prog w = .ok (.enter 107 args) w := by kernel_rfl
theorem cf_impl_curvePoint_triple (args : Array Value) (w : World) : (callFunc 109 args).run Tryz.prog w = .ok (.enter 109 args) w := by kernel_rfl
theorem cf_impl_triple_multiple (args : Array Value) (w : World) : (callFunc 110 args).run Tryz.prog w = .ok (.enter 110 args) w := by kernel_rfl
theorem cf_impl_triple_plus (args : Array Value) (w : World) : (callFunc 139 args).run Tryz.prog w = .ok (.enter 139 args) w := by kernel_rfl
theorem cf_impl_weighted (args : Array Value) (w : World) : (callFunc 138 args).run Tryz.prog w = .ok (.enter 138 args) w := by kernel_rfl
theorem cf_impl_batch_weights (args : Array Value) (w : World) : (callFunc 137 args).run Tryz.prog w = .ok (.enter 137 args) w := by kernel_rfl
theorem cf_impl_batch_challenge (args : Array Value) (w : World) : (callFunc 108 args).run Tryz.prog w = .ok (.enter 108 args) w := by kernel_rfl
theorem cf_impl_number_impl_primeN_times (args : Array Value) (w : World) : (callFunc 174 args).run Tryz.prog w = .ok (.enter 174 args) w := by kernel_rfl
theorem cf_impl_number_impl_primeN_minus (args : Array Value) (w : World) : (callFunc 192 args).run Tryz.prog w = .ok (.enter 192 args) w := by kernel_rfl
end Go.Proofs.YtjmhmajfkdglnaaGreatDoor

/-
  The program's tweaks, secrets and factors.
-/
namespace Go.Proofs.YtjmhmajfkdglnaaGreatDoor
open Go.RowKit M
set_option linter.unusedVariables false

theorem wth1 (t s : ByteArray) (i : Nat) (w : World) (h : t.size ≤ 200000) (hs : s.size ≤ 65535) (hr : w.heap[i]? = some (.cells #[.iface 208 (.string s)] 253)) :
    Calls Tryz.prog 123 #[.string t, .slice (some ⟨i, 0, none⟩) 1 1] w fun e w' => e = .returned (.string (t ++ sizB s)) ∧ Below w.heap.size w w' := by
  have := with_blk t [(.iface 208 (.string s), sizB s)] i 1 _ _ w hr rfl rfl (by omega) (by
    intro vs hvs
    simp only [List.mem_cons, List.not_mem_nil, or_false] at hvs
    subst hvs
    exact writZ s hs) (by
      show (t ++ sizB s).size ≤ _
      rw [ByteArray.size_append, sizB_size]; omega)
  exact this
set_option maxRecDepth 100000 in
set_option maxHeartbeats 4000000 in
theorem twkI_any (info : ByteArray) (w : World) (hT : TabK w) (hi : info.size ≤ 60000) :
    Calls Tryz.prog 185 #[.agg #[.string (ctxB 2), .string info]] w fun e w' => e = .returned (.agg #[.int .u64 (twk info : Nat)]) ∧ Below w.heap.size w w' := by
  have hgw : 6 < w.heap.size := World.block_lt_of_cell? w _ (hT 0 (by omega))
  have hWT : ∀ (i : Nat) (w : World), w.heap[i]? = some (.cells #[.iface 208 (.string info)] 253) →
      Calls Tryz.prog 123 #[.string infW, .slice (some ⟨i, 0, none⟩) 1 1] w fun e w' => e = .returned (.string (infW ++ sizB info)) ∧ Below w.heap.size w w' := fun i w hr => wth1 infW info i w (by decide) (by omega) hr
  have hz := infoT_size info
  have hSC : ∀ w : World, TabK w → Calls Tryz.prog 140 #[.string (ctxB 2), .string (infW ++ sizB info)] w fun e w' => e = .returned (.agg #[.int .u64 (twk info : Nat)]) ∧ Below w.heap.size w w' := fun w hT => scaI_any _ 2 w hT (by omega) (by omega)
  generalize ((twk info : Nat) : Int) = c at *
  generalize infW ++ sizB info = TXT at *
  generalize ctxB 2 = cx at *
  obtain ⟨X, hX⟩ : ∃ X, X = (w.alloc (Obj.cells #[.string cx, .string info] 133)).alloc (Obj.cells #[.int .u64 0] 117) := ⟨_, rfl⟩
  have r0 : Bk X 133 w.heap.size #[.string cx, .string info] := by rw [hX]; exact (Bk.new _ _ _).alloc _
  have r1 : Bk X 117 (w.heap.size + 1) #[.int .u64 0] := by rw [hX]; exact (Bk.new _ _ _).at (by simp)
  have hb : Below w.heap.size w X := by rw [hX]; exact ((Below.refl _ w).alloc (Nat.le_refl _) _).alloc (by simp) _
  go_enter Tryz.func185, Tryz.ntmps185
  go_wp2
  rw [← hX]
  clear hX
  have hT1 : TabK X.drew := fun i hi => (hb.cell (p := ⟨6, i, none⟩) hgw).trans (hT i hi)
  have s0 : X.drew.cell? ⟨w.heap.size, 0, none⟩ = _ := r0.cell (k := 0) rfl
  have s1 : X.drew.cell? ⟨w.heap.size, 1, none⟩ = _ := r0.cell (k := 1) rfl
  have nT : 6 ∉ [w.heap.size + 1] := fun h => absurd (List.mem_singleton.1 h) (by omega)
  have n0 : w.heap.size ∉ [w.heap.size + 1] := by simp
  have l1 : w.heap.size + 1 < X.drew.heap.size := r1.lt
  refine G.pool_list (W := X) [w.heap.size + 1] [.val (.pointer (some ⟨w.heap.size, 0, none⟩)),
      .val (.string cx),
      .val (.pointer (some ⟨w.heap.size, 1, none⟩)),
      .val (.string info),
      .val (.iface 208 (.string info)),
      .new (.cells #[.iface 208 (.string info)] 253) (.cells #[.iface 208 (.string info)] 253) 1001,
      .val (.string TXT),
      .val (.agg #[.int .u64 c]),
      .set (w.heap.size + 1) (.cells #[.int .u64 0] 117) (.cells #[.int .u64 c] 117)] [[1], [3], [1], [5], [6], [7], [8], [4, 9], [2, 10]] (fun f => [(some 3, .pointer (some ⟨w.heap.size, 0, none⟩)), (some 4, .string cx), (some 5, .pointer (some ⟨w.heap.size, 1, none⟩)), (some 6, .string info), (some 7, .iface 208 (.string info)), (some 8, .slice (some ⟨f 5, 0, none⟩) 1 1), (some 9, .string TXT), (some 10, .agg #[.int .u64 c]), (none, undef)]) (by kernel_rfl) (by kernel_rfl) (by kernel_rfl) (by kernel_rfl) (fun _ => by kernel_rfl) (G.last_of [.cells #[.iface 208 (.string info)] 253, .cells #[.int .u64 0] 117] (fun F R hm => by simp at hm) (fun ob ob' k hm => by simp at hm; simp [hm]) (fun b ob ob' hm => by simp at hm; simp [hm])) (fun b ob ob' hm => by simp at hm; obtain ⟨rfl, rfl, -⟩ := hm; exact r1) ?_ ?_
  · intro ix hix
    match ix, hix with
    | 0, _ => exact G.ob_val [(1, .pointer (some ⟨w.heap.size, 0, none⟩))] rfl rfl (fun _ => by kernel_rfl) (fun A w ⟨e0, _⟩ hB => fa_set0 e0)
    | 1, _ => exact G.ob_val [(3, .pointer (some ⟨w.heap.size, 0, none⟩))] rfl rfl (fun _ => by kernel_rfl) (fun A w ⟨e0, _⟩ hB => ld_ctx e0 (hB.cell s0 n0))
    | 2, _ => exact G.ob_val [(1, .pointer (some ⟨w.heap.size, 0, none⟩))] rfl rfl (fun _ => by kernel_rfl) (fun A w ⟨e0, _⟩ hB => fa_set1 e0)
    | 3, _ => exact G.ob_val [(5, .pointer (some ⟨w.heap.size, 1, none⟩))] rfl rfl (fun _ => by kernel_rfl) (fun A w ⟨e0, _⟩ hB => ld_str e0 (hB.cell s1 n0))
    | 4, _ => exact G.ob_val [(6, .string info)] rfl rfl (fun _ => by kernel_rfl) (fun A w ⟨e0, _⟩ hB => mi_sized e0)
    | 5, _ => exact G.ob_slc 1 [(7, .iface 208 (.string info))] rfl rfl (fun _ => by kernel_rfl) (fun A w ⟨e0, _⟩ => sl_parts1 e0)
    | 6, _ => exact G.ob_use 8 5 1001 (.cells #[.iface 208 (.string info)] 253) (fun f => [(8, .slice (some ⟨f 5, 0, none⟩) 1 1)]) rfl rfl (by decide) (by kernel_rfl) rfl (fun _ => by kernel_rfl) (fun f A w ⟨e0, _⟩ hB hr => cl2 cf_impl_transcript_with rfl e0 (hWT _ w hr))
    | 7, _ => exact G.ob_val [(4, .string cx), (9, .string TXT)] rfl rfl (fun _ => by kernel_rfl) (fun A w ⟨e0, e1, _⟩ hB => cl2 cf_impl_context_scalar e0 e1 (hSC w (fun i hi => hB.cell (hT1 i hi) nT)))
    | 8, _ => exact G.ob_set (fun f => [(2, .pointer (some ⟨w.heap.size + 1, 0, none⟩)), (10, .agg #[.int .u64 c])]) rfl rfl rfl (by simp) l1 (fun j ob1 ob2 h => by (rcases j with _ | _ | _ | _ | _ | _ | _ | _ | _ | j) <;> simp [G.kindOf] at h ⊢ <;> omega) (fun _ => by kernel_rfl) (fun f A w ⟨e0, e1, _⟩ hh hr => pu_nN e0 e1 hr)
    | ix + 9, h => exact absurd h (by simp)
  intro f W3 hS _ _ _ hset
  have q1 : Bk W3 117 (w.heap.size + 1) #[.int .u64 c] := hset 8 _ _ _ rfl (by decide)
  have hb3 : Below w.heap.size w W3 := hS.under hb.drew (by simp <;> omega) hb.size
  clear hset hS s0 s1 hT1 hWT hSC
  simp only [puts, List.foldl, Act.put, List.setIfInBounds_toArray, List.set_cons_zero, List.set_cons_succ]
  go_wp2
  exact bodyPost_ret (v := .agg #[.int .u64 c]) (rn_res (fn := Tryz.f185) (p := 2) Tryz.results185 _ rfl q1) rfl ⟨rfl, hb3⟩
set_option maxRecDepth 100000 in
set_option maxHeartbeats 4000000 in
theorem kntI_of (cx info : ByteArray) (k t s : Int) (a0 a1 a2 a3 : Addr) (w : World) (hs : Sn w a0 a1 a2 a3)
    (TW : ∀ w', Below w.heap.size w w' → Calls Tryz.prog 185 #[.agg #[.string cx, .string info]] w' fun e w'' => e = .returned (.agg #[.int .u64 t]) ∧ Below w'.heap.size w' w'')
    (PL : ∀ w, Calls Tryz.prog 184 #[.agg #[.int .u64 k], .agg #[.int .u64 t]] w fun e w' => e = .returned (.agg #[.int .u64 s]) ∧ Below w.heap.size w w') :
    Calls Tryz.prog 159 #[.agg #[.string cx, .string info], .agg #[.int .u64 k]] w fun e w' => e = .returned (.tuple #[.agg #[.int .u64 s], if s = 0 then sen a2 else .nilIface]) ∧ Below w.heap.size w w' := by
  obtain ⟨V, hV⟩ : ∃ V, Hid (V = (if s = 0 then sen a2 else Value.nilIface)) := ⟨_, rfl⟩
  rw [← hV.out]
  have hg0 : 2 < w.heap.size := World.block_lt_of_cell? w _ hs.c2
  obtain ⟨X, hX⟩ : ∃ X, X = ((w.alloc (Obj.cells #[.string cx, .string info] 133)).alloc (Obj.cells #[.int .u64 k] 117)).alloc (Obj.cells #[.int .u64 0] 117) := ⟨_, rfl⟩
  have r0 : Bk X 133 w.heap.size #[.string cx, .string info] := by rw [hX]; exact ((Bk.new _ _ _).alloc _).alloc _
  have r1 : Bk X 117 (w.heap.size + 1) #[.int .u64 k] := by rw [hX]; exact ((Bk.new _ _ _).at (by simp)).alloc _
  have hr : RN X (w.heap.size + 1 + 1) 0 := by rw [hX]; unfold RN; have := heap_alloc_new ((w.alloc (Obj.cells #[.string cx, .string info] 133)).alloc (Obj.cells #[.int .u64 k] 117)) (Obj.cells #[.int .u64 0] 117); simpa using this
  have hb : Below w.heap.size w X := by rw [hX]; exact (((Below.refl _ w).alloc (Nat.le_refl _) _).alloc (by simp) _).alloc (by simp; omega) _
  go_enter Tryz.func159, Tryz.ntmps159
  go_wp2
  rw [← hX]
  clear hX
  have s0 : X.drew.cell? ⟨w.heap.size, 0, none⟩ = _ := r0.cell (k := 0) rfl
  have s1 : X.drew.cell? ⟨w.heap.size, 1, none⟩ = _ := r0.cell (k := 1) rfl
  have k0 : X.drew.cell? ⟨w.heap.size + 1, 0, none⟩ = _ := r1.cell (k := 0) rfl
  have TW' : ∀ w', Below X.drew.heap.size X.drew w' → _ := fun w' h => TW w' (hb.drew.trans (h.mono hb.size))
  refine G.pool_list (W := X) [] [.val (.agg #[.int .u64 k]),
      .val (.agg #[.string cx, .string info]),
      .val (.agg #[.int .u64 t]),
      .val (.agg #[.int .u64 s]),
      .new (.cells #[.int .u64 0] 117) (.cells #[.int .u64 s] 117) 5,
      .put 4] [[3], [2], [8], [7, 9], [], [6, 10]] (fun f => [(some 7, .agg #[.int .u64 k]), (some 8, .agg #[.string cx, .string info]), (some 9, .agg #[.int .u64 t]), (some 10, .agg #[.int .u64 s]), (some 6, .pointer (some ⟨f 4, 0, none⟩)), (none, undef)]) (by kernel_rfl) (by kernel_rfl) (by kernel_rfl) (by kernel_rfl) (fun _ => by kernel_rfl) (G.last_of [.cells #[.int .u64 0] 117] (fun F R hm => by simp at hm) (fun ob ob' k hm => by simp at hm; simp [hm]) (fun b ob ob' hm => by simp at hm)) (fun b ob ob' hm => by simp at hm) ?_ ?_
  · intro ix hix
    match ix, hix with
    | 0, _ => exact G.ob_val [(3, .pointer (some ⟨w.heap.size + 1, 0, none⟩))] rfl rfl (fun _ => by kernel_rfl) (fun A w ⟨e0, _⟩ hB => ld_nN e0 (hB.cell k0 (by simp)))
    | 1, _ => exact G.ob_val [(2, .pointer (some ⟨w.heap.size, 0, none⟩))] rfl rfl (fun _ => by kernel_rfl) (fun A w ⟨e0, _⟩ hB => ld_set e0 (hB.cell s0 (by simp)) (hB.cell s1 (by simp)))
    | 2, _ => exact G.ob_val [(8, .agg #[.string cx, .string info])] rfl rfl (fun _ => by kernel_rfl) (fun A w ⟨e0, _⟩ hB => cl1 cf_impl_setting_tweak e0 (TW' w hB.below))
    | 3, _ => exact G.ob_val [(7, .agg #[.int .u64 k]), (9, .agg #[.int .u64 t])] rfl rfl (fun _ => by kernel_rfl) (fun A w ⟨e0, e1, _⟩ hB => cl2 cf_impl_number_impl_primeN_plus e0 e1 (PL w))
    | 4, _ => exact G.ob_new rfl rfl (fun A w => al_nN)
    | 5, _ => exact G.ob_put 6 (fun f => [(6, .pointer (some ⟨f 4, 0, none⟩)), (10, .agg #[.int .u64 s])]) rfl rfl rfl (by decide) (by kernel_rfl) rfl (fun _ => by kernel_rfl) (fun f A w ⟨e0, e1, _⟩ hr => pu_nN e0 e1 hr)
    | ix + 6, h => exact absurd h (by simp)
  intro f W3 hS hnew _ _ _
  have b3 : Below X.heap.size X W3 := (Below.refl _ X).drew.trans hS.below
  have r6 : RN W3 (f 4) s := (hnew 4 _ _ _ rfl (by decide)).2
  generalize f 4 = B6 at *
  replace hr := hr.keep b3
  replace hb := hb.trans (b3.mono hb.size)
  replace hs := hs.keep hb
  clear hS hnew b3 s0 s1 k0 r0 r1 TW TW' PL
  have c6 := r6.cell
  simp only [puts, List.foldl, Act.put, List.setIfInBounds_toArray, List.set_cons_zero, List.set_cons_succ]
  by_cases h0 : s = 0
  · have hV' : V = sen a2 := by rw [hV.out, if_pos h0]
    subst h0
    go_wp2
    have g2 : W3.drew.cell? ⟨2, 0, none⟩ = _ := hs.c2
    have n0 : 2 ∉ [w.heap.size + 1 + 1] := fun h => absurd (List.mem_singleton.1 h) (by omega)
    have l1 : w.heap.size + 1 + 1 < W3.drew.heap.size := hr.lt
    refine G.pool_list (W := W3) [w.heap.size + 1 + 1] [.val (.agg #[.int .u64 0]),
        .val (sen a2),
        .set (w.heap.size + 1 + 1) (.cells #[.int .u64 0] 117) (.cells #[.int .u64 0] 117),
        .val (sen a2)] [[], [], [4, 14], [15]] (fun f => [(some 14, .agg #[.int .u64 0]), (some 15, sen a2), (none, undef), (some 5, sen a2)]) (by kernel_rfl) (by kernel_rfl) (by kernel_rfl) (by kernel_rfl) (fun _ => by kernel_rfl) (G.last_of [.cells #[.int .u64 0] 117] (fun F R hm => by simp at hm) (fun ob ob' k hm => by simp at hm) (fun b ob ob' hm => by simp at hm; simp [hm])) (fun b ob ob' hm => by simp at hm; obtain ⟨rfl, rfl, -⟩ := hm; exact hr) ?_ ?_
    · intro ix hix
      match ix, hix with
      | 0, _ => exact G.ob_val [] rfl rfl (fun _ => by kernel_rfl) (fun A w _ hB => bu0_nN)
      | 1, _ => exact G.ob_val [] rfl rfl (fun _ => by kernel_rfl) (fun A w _ hB => ld_err rfl (hB.cell g2 n0))
      | 2, _ => exact G.ob_set (fun f => [(4, .pointer (some ⟨w.heap.size + 1 + 1, 0, none⟩)), (14, .agg #[.int .u64 0])]) rfl rfl rfl (by simp) l1 (fun j ob1 ob2 h => by (rcases j with _ | _ | _ | _ | j) <;> simp [G.kindOf] at h ⊢ <;> omega) (fun _ => by kernel_rfl) (fun f A w ⟨e0, e1, _⟩ hh hr => pu_nN e0 e1 hr)
      | 3, _ => exact G.ob_val [(15, sen a2)] rfl rfl (fun _ => by kernel_rfl) (fun A w ⟨e0, _⟩ hB => doV_assign e0)
      | ix + 4, h => exact absurd h (by simp)
    intro f W4 hS _ _ _ hset
    have q1 : RN W4 (w.heap.size + 1 + 1) 0 := hset 2 _ _ _ rfl (by decide)
    have hb3 : Below w.heap.size w W4 := hS.under hb.drew (by simp <;> omega) hb.size
    clear hset hS g2
    simp only [puts, List.foldl, Act.put, List.setIfInBounds_toArray, List.set_cons_zero, List.set_cons_succ]
    go_wp2
    exact bodyPost_ret (v := .tuple #[.agg #[.int .u64 0], sen a2]) (RN_res (fn := Tryz.f159) (p := 4) (u := 5) Tryz.results159 _ rfl q1) rfl ⟨by rw [hV'], hb3⟩
  · have hV' : V = .nilIface := by rw [hV.out, if_neg h0]
    have h0' : (s == 0) = false := by simpa using h0
    have c0 := hr.cell
    have cf := hr.frz
    clear h0
    go_wp2
    exact bodyPost_ret (v := .tuple #[.agg #[.int .u64 s], .nilIface]) (RN_res (fn := Tryz.f159) (p := 4) (u := 5) Tryz.results159 _ rfl (hr.set s)) rfl ⟨by rw [hV'], hb.setCell (p := ⟨w.heap.size + 1 + 1, 0, none⟩) (show w.heap.size ≤ w.heap.size + 1 + 1 by omega) _⟩
set_option maxRecDepth 100000 in
set_option maxHeartbeats 1000000 in
theorem kalI (cx info : ByteArray) (k : Int) (w : World) :
    Calls Tryz.prog 151 #[.agg #[.string cx, .string info], .agg #[.int .u64 k]] w fun e w' => e = .returned (.tuple #[.agg #[.int .u64 k], .nilIface]) ∧ Below w.heap.size w w' := by
  obtain ⟨X, hX⟩ : ∃ X, X = ((w.alloc (Obj.cells #[.string cx, .string info] 133)).alloc (Obj.cells #[.int .u64 k] 117)).alloc (Obj.cells #[.int .u64 0] 117) := ⟨_, rfl⟩
  have hr : RN X (w.heap.size + 1 + 1) 0 := by rw [hX]; unfold RN; have := heap_alloc_new ((w.alloc (Obj.cells #[.string cx, .string info] 133)).alloc (Obj.cells #[.int .u64 k] 117)) (Obj.cells #[.int .u64 0] 117); simpa using this
  have r1 : Bk X 117 (w.heap.size + 1) #[.int .u64 k] := by rw [hX]; exact ((Bk.new _ _ _).at (by simp)).alloc _
  have hb : Below w.heap.size w X := by rw [hX]; exact (((Below.refl _ w).alloc (Nat.le_refl _) _).alloc (by simp) _).alloc (by simp; omega) _
  rw [hX] at hr hb r1
  clear hX
  have k0 := r1.cell (k := 0) rfl
  clear hr hb
  go_enter Tryz.func151, Tryz.ntmps151
  go_wp2
  refine bodyPost_ret (v := .tuple #[.agg #[.int .u64 k], .nilIface]) (by simp [results, Tryz.results151, go_sem]) rfl ⟨rfl, ?_⟩
  exact (((Below.refl _ w).alloc (Nat.le_refl _) _).alloc (by simp) _).alloc (by simp; omega) _
set_option maxRecDepth 100000 in
set_option maxHeartbeats 1000000 in
theorem secI_of (k s : Int) (w : World) (I : ∀ w, Calls Tryz.prog 97 #[.agg #[.int .u64 k]] w fun e w' => e = .returned (.agg #[.int .u64 s]) ∧ Below w.heap.size w w') :
    Calls Tryz.prog 160 #[.agg #[.int .u64 k]] w fun e w' => e = .returned (.agg #[.int .u64 s]) ∧ Below w.heap.size w w' := by
  have hr := Bk.new (w.alloc (Obj.cells #[.int .u64 k] 117)) 117 #[.int .u64 0]
  have hb := ((Below.refl _ w).alloc (Nat.le_refl _) (Obj.cells #[.int .u64 k] 117)).alloc (by simp) (Obj.cells #[.int .u64 0] 117)
  simp only [World.size_alloc] at hr
  go_enter Tryz.func160, Tryz.ntmps160
  go_wp2_with fail
  refine (I _).mono ?_
  rintro e w1 ⟨rfl, b1⟩
  replace hr := hr.keep b1
  replace hb := hb.trans (b1.mono hb.size)
  have c0 := hr.cell (k := 0) rfl
  have cf := hr.frz
  clear I b1
  go_wp2
  exact bodyPost_ret (v := .agg #[.int .u64 s]) (rn_res (fn := Tryz.f160) (p := 2) Tryz.results160 _ rfl (show RN _ _ s from hr.set 0 (.int .u64 s))) rfl ⟨rfl, hb.setCell (p := ⟨w.heap.size + 1, 0, none⟩) (show w.heap.size ≤ w.heap.size + 1 by omega) _⟩
set_option maxRecDepth 100000 in
set_option maxHeartbeats 1000000 in
theorem sitI (k : Int) (w : World) :
    Calls Tryz.prog 152 #[.agg #[.int .u64 k]] w fun e w' => e = .returned (.agg #[.int .u64 k]) ∧ Below w.heap.size w w' := by
  go_enter Tryz.func152, Tryz.ntmps152
  go_wp2
  refine bodyPost_ret (v := .agg #[.int .u64 k]) (by simp [results, Tryz.results152, go_sem]) rfl ⟨rfl, ?_⟩
  exact ((Below.refl _ w).alloc (Nat.le_refl _) _).alloc (by simp) _
end Go.Proofs.YtjmhmajfkdglnaaGreatDoor
