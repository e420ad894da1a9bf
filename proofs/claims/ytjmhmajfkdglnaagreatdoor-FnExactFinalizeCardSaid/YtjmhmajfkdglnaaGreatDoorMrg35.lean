import Derived.Test.YtjmhmajfkdglnaaGreatDoorMrg31
import Derived.Test.YtjmhmajfkdglnaaGreatDoorMrg34
import Derived.Test.YtjmhmajfkdglnaaGreatDoorMrg16
import Derived.Test.YtjmhmajfkdglnaaGreatDoorMrg20
import Derived.Test.YtjmhmajfkdglnaaGreatDoorMrg5
import Derived.Test.YtjmhmajfkdglnaaGreatDoorMrg4
import Derived.Test.YtjmhmajfkdglnaaGreatDoorMrg21
import Derived.Test.YtjmhmajfkdglnaaGreatDoorMrg14
set_option linter.unusedVariables false
set_option maxRecDepth 100000
set_option maxHeartbeats 16000000
namespace Go.Proofs.YtjmhmajfkdglnaaGreatDoor
open Go.RowKit M
theorem fnI_of (mode blind pc ps x1 y1 x2 y2 x3 y3 c s iv : Int) (c1 c2 c3 : Bool) (input info cx sE R : ByteArray) (a : Option Addr) (n cap : Nat) (ev el q b u : Pt) (F0 F1 F2 F3 F4 F5 F6 : FuncId) (T : TypeId) (z V : Value) (a0 a1 a2 a3 : Addr) (w : World) (hs : Sn w a0 a1 a2 a3) (hcf : ∀ (args : Array Value) (w : World), (callFunc F4 args).run Tryz.prog w = .ok (.enter F4 args) w)
    (H : (V = .tuple #[.string ⟨#[]⟩, .iface T z] ∧ (∀ w', Below w.heap.size w w' → Calls Tryz.prog 78 #[.int .i64 mode, .string info] w' fun e w'' => e = .returned (.tuple #[.agg #[.string ⟨#[]⟩, .string ⟨#[]⟩, .nilFunc, .nilFunc, .nilFunc, .nilFunc, .nilFunc, .nilFunc, .nilFunc], .iface T z]) ∧ Below w'.heap.size w' w'')) ∨
      ((∀ w', Below w.heap.size w w' → Calls Tryz.prog 78 #[.int .i64 mode, .string info] w' fun e w'' => e = .returned (.tuple #[.agg #[.string cx, .string info, .func (.func F0) #[] #[], .func (.func F1) #[] #[], .func (.func F2) #[] #[], .func (.func F3) #[] #[], .func (.func F4) #[] #[], .func (.func F5) #[] #[], .func (.func F6) #[] #[]], .nilIface]) ∧ Below w'.heap.size w' w'') ∧ ((V = .tuple #[.string ⟨#[]⟩, flt ⟨#[105, 110, 112, 117, 116]⟩ (sen a0)] ∧ 65535 < input.size) ∨
      (input.size ≤ 65535 ∧ ((V = .tuple #[.string ⟨#[]⟩, flt ⟨#[98, 108, 105, 110, 100]⟩ (sen a0)] ∧ (∀ w', Below w.heap.size w w' → Calls Tryz.prog 79 #[.int .u64 blind] w' fun e w'' => e = .returned (.tuple #[.agg #[.int .u64 0], sen a0]) ∧ Below w'.heap.size w' w'')) ∨
      ((∀ w', Below w.heap.size w w' → Calls Tryz.prog 79 #[.int .u64 blind] w' fun e w'' => e = .returned (.tuple #[.agg #[.int .u64 blind], .nilIface]) ∧ Below w'.heap.size w' w'') ∧ ((V = .tuple #[.string ⟨#[]⟩, flt ⟨#[101, 118, 97, 108, 117, 97, 116, 101, 100]⟩ (flt sE (sen a0))] ∧ (∀ w', Below w.heap.size w w' → Calls Tryz.prog 95 #[.agg #[.slice a n cap, .int .u64 pc, .int .u64 ps]] w' fun e w'' => e = .returned (.tuple #[.agg zEvn, flt sE (sen a0)]) ∧ Below w'.heap.size w' w'')) ∨
      ((∀ w', Below w.heap.size w w' → Calls Tryz.prog 95 #[.agg #[.slice a n cap, .int .u64 pc, .int .u64 ps]] w' fun e w'' => e = .returned (.tuple #[.agg #[.int .u64 (px ev), .int .u64 (py ev), .bool (pb ev), .int .u64 c, .int .u64 s], .nilIface]) ∧ Below w'.heap.size w' w'') ∧ ((V = .tuple #[.string ⟨#[]⟩, flt ⟨#[98, 108, 105, 110, 100, 101, 100, 32, 101, 108, 101, 109, 101, 110, 116]⟩ (sen a0)] ∧ (∀ w', Below w.heap.size w w' → Calls Tryz.prog 85 #[.agg #[.int .u64 x1, .int .u64 y1, .bool c1]] w' fun e w'' => e = .returned (.tuple #[.agg #[.int .u64 0, .int .u64 0, .bool true], sen a0]) ∧ Below w'.heap.size w' w'')) ∨
      ((∀ w', Below w.heap.size w w' → Calls Tryz.prog 85 #[.agg #[.int .u64 x1, .int .u64 y1, .bool c1]] w' fun e w'' => e = .returned (.tuple #[.agg #[.int .u64 (px el), .int .u64 (py el), .bool (pb el)], .nilIface]) ∧ Below w'.heap.size w' w'') ∧ ((V = .tuple #[.string ⟨#[]⟩, flt ⟨#[112, 117, 98, 108, 105, 99]⟩ (sen a0)] ∧ (∀ w', Below w.heap.size w w' → Calls Tryz.prog 85 #[.agg #[.int .u64 x3, .int .u64 y3, .bool c3]] w' fun e w'' => e = .returned (.tuple #[.agg #[.int .u64 0, .int .u64 0, .bool true], sen a0]) ∧ Below w'.heap.size w' w'')) ∨
      ((∀ w', Below w.heap.size w w' → Calls Tryz.prog 85 #[.agg #[.int .u64 x3, .int .u64 y3, .bool c3]] w' fun e w'' => e = .returned (.tuple #[.agg #[.int .u64 (px q), .int .u64 (py q), .bool (pb q)], .nilIface]) ∧ Below w'.heap.size w' w'') ∧ ((V = .tuple #[.string ⟨#[]⟩, flt ⟨#[116, 119, 101, 97, 107, 101, 100]⟩ (sen a0)] ∧ (∀ w', Below w.heap.size w w' → Calls Tryz.prog F4 #[.agg #[.int .u64 (px q), .int .u64 (py q), .bool (pb q)], .agg #[.int .u64 x2, .int .u64 y2, .bool c2]] w' fun e w'' => e = .returned (.tuple #[.agg #[.int .u64 0, .int .u64 0, .bool true], sen a0]) ∧ Below w'.heap.size w' w'')) ∨
      ((∀ w', Below w.heap.size w w' → Calls Tryz.prog F4 #[.agg #[.int .u64 (px q), .int .u64 (py q), .bool (pb q)], .agg #[.int .u64 x2, .int .u64 y2, .bool c2]] w' fun e w'' => e = .returned (.tuple #[.agg #[.int .u64 (px b), .int .u64 (py b), .bool (pb b)], .nilIface]) ∧ Below w'.heap.size w' w'') ∧ ((V = .tuple #[.string ⟨#[]⟩, flt ⟨#[112, 114, 111, 111, 102]⟩ (sen a3)] ∧ (∀ w', Below w.heap.size w w' → Calls Tryz.prog 96 #[.agg #[.string cx, .string info, .func (.func F0) #[] #[], .func (.func F1) #[] #[], .func (.func F2) #[] #[], .func (.func F3) #[] #[], .func (.func F4) #[] #[], .func (.func F5) #[] #[], .func (.func F6) #[] #[]], .agg #[.int .u64 (px b), .int .u64 (py b), .bool (pb b)], .agg #[.int .u64 (px el), .int .u64 (py el), .bool (pb el)], .agg #[.int .u64 (px ev), .int .u64 (py ev), .bool (pb ev), .int .u64 c, .int .u64 s]] w' fun e w'' => e = .returned (sen a3) ∧ Below w'.heap.size w' w'')) ∨
      ((∀ w', Below w.heap.size w w' → Calls Tryz.prog 96 #[.agg #[.string cx, .string info, .func (.func F0) #[] #[], .func (.func F1) #[] #[], .func (.func F2) #[] #[], .func (.func F3) #[] #[], .func (.func F4) #[] #[], .func (.func F5) #[] #[], .func (.func F6) #[] #[]], .agg #[.int .u64 (px b), .int .u64 (py b), .bool (pb b)], .agg #[.int .u64 (px el), .int .u64 (py el), .bool (pb el)], .agg #[.int .u64 (px ev), .int .u64 (py ev), .bool (pb ev), .int .u64 c, .int .u64 s]] w' fun e w'' => e = .returned (.nilIface) ∧ Below w'.heap.size w' w'') ∧ (V = .tuple #[.string R, .nilIface] ∧ (∀ w', Calls Tryz.prog 97 #[.agg #[.int .u64 blind]] w' fun e w'' => e = .returned (.agg #[.int .u64 iv]) ∧ Below w'.heap.size w' w'') ∧ (∀ w', Calls Tryz.prog 68 #[.agg #[.int .u64 (px ev), .int .u64 (py ev), .bool (pb ev)], .int .u64 iv] w' fun e w'' => e = .returned (.agg #[.int .u64 (px u), .int .u64 (py u), .bool (pb u)]) ∧ Below w'.heap.size w' w'') ∧ (∀ w', Below w.heap.size w w' → Calls Tryz.prog 81 #[.agg #[.string cx, .string info, .func (.func F0) #[] #[], .func (.func F1) #[] #[], .func (.func F2) #[] #[], .func (.func F3) #[] #[], .func (.func F4) #[] #[], .func (.func F5) #[] #[], .func (.func F6) #[] #[]], .string input, .agg #[.int .u64 (px u), .int .u64 (py u), .bool (pb u)]] w' fun e w'' => e = .returned (.string R) ∧ Below w'.heap.size w' w'')))))))))))))))))) :
    Calls Tryz.prog 57 #[.int .i64 mode, .string input, .string info, .int .u64 blind, .agg #[.slice a n cap, .int .u64 pc, .int .u64 ps], .agg #[.int .u64 x1, .int .u64 y1, .bool c1, .int .u64 x2, .int .u64 y2, .bool c2], .agg #[.int .u64 x3, .int .u64 y3, .bool c3]] w fun e w' => e = .returned V ∧ Below w.heap.size w w' := by
  unfold flt sen zEvn at *
  obtain ⟨X, hX⟩ : ∃ X, X = ((w.alloc (Obj.cells #[.slice a n cap, .int .u64 pc, .int .u64 ps] 42)).alloc (Obj.cells #[.int .u64 x1, .int .u64 y1, .bool c1, .int .u64 x2, .int .u64 y2, .bool c2] 30)).alloc (Obj.cells #[.int .u64 x3, .int .u64 y3, .bool c3] 28) := ⟨_, rfl⟩
  have rE : Bk X 42 w.heap.size #[.slice a n cap, .int .u64 pc, .int .u64 ps] := by rw [hX]; exact ((Bk.new _ _ _).alloc _).alloc _
  have rB : Bk X 30 (w.heap.size + 1) #[.int .u64 x1, .int .u64 y1, .bool c1, .int .u64 x2, .int .u64 y2, .bool c2] := by rw [hX]; exact ((Bk.new _ _ _).at (by simp)).alloc _
  have rP : Bk X 28 (w.heap.size + 1 + 1) #[.int .u64 x3, .int .u64 y3, .bool c3] := by rw [hX]; exact (Bk.new _ _ _).at (by simp)
  have hb : Below w.heap.size w X := by rw [hX]; exact (((Below.refl _ w).alloc (Nat.le_refl _) _).alloc (by simp) _).alloc (by simp; omega) _
  rw [hX] at rE rB rP hb
  clear hX
  go_enter Tryz.func57, Tryz.ntmps57
  go_wp2_with fail
  rcases H with ⟨hV, FP⟩ | ⟨FP, H⟩
  · refine (FP _ hb).mono ?_
    rintro e w1 ⟨rfl, b1⟩
    replace hb := hb.trans (b1.mono hb.size)
    replace hb := hb.trans (((Below.refl _ w1).alloc (Nat.le_refl _) (Obj.cells #[.string ⟨#[]⟩, .string ⟨#[]⟩, .nilFunc, .nilFunc, .nilFunc, .nilFunc, .nilFunc, .nilFunc, .nilFunc] 144)).mono hb.size)
    clear FP b1
    go_wp2
    go_ret2
    exact ⟨by subst hV; rfl, hb⟩
  refine (FP _ hb).mono ?_
  rintro e w1 ⟨rfl, b1⟩
  have hal := (Below.refl _ w1).alloc (Nat.le_refl _) (Obj.cells #[.string cx, .string info, .func (.func F0) #[] #[], .func (.func F1) #[] #[], .func (.func F2) #[] #[], .func (.func F3) #[] #[], .func (.func F4) #[] #[], .func (.func F5) #[] #[], .func (.func F6) #[] #[]] 144)
  have r16 := Bk.new w1 144 #[.string cx, .string info, .func (.func F0) #[] #[], .func (.func F1) #[] #[], .func (.func F2) #[] #[], .func (.func F3) #[] #[], .func (.func F4) #[] #[], .func (.func F5) #[] #[], .func (.func F6) #[] #[]]
  replace rE := (rE.keep b1).keep hal
  replace rB := (rB.keep b1).keep hal
  replace rP := (rP.keep b1).keep hal
  replace hb := hb.trans (b1.mono hb.size)
  replace hb := hb.trans (hal.mono hb.size)
  clear FP b1 hal
  rcases H with ⟨hV, hl⟩ | ⟨hl, H⟩
  · have hl : (65535 : Int) < (input.size : Int) := by omega
    go_wp2
    generalize w1.alloc _ = w1' at *
    have g0 : w1'.drew.cell? ⟨0, 0, none⟩ = _ := (hs.keep hb).c0
    refine G.pool_list (W := w1') [] [.val (.iface 316 (.pointer (some a0))),
        .val (.agg #[.string ⟨#[105, 110, 112, 117, 116]⟩, .iface 316 (.pointer (some a0))]),
        .val (.iface 150 (.agg #[.string ⟨#[105, 110, 112, 117, 116]⟩, .iface 316 (.pointer (some a0))])),
        .val (.string ⟨#[]⟩),
        .val (.iface 150 (.agg #[.string ⟨#[105, 110, 112, 117, 116]⟩, .iface 316 (.pointer (some a0))]))] [[], [36], [37], [], [38]] (fun f => [(some 36, .iface 316 (.pointer (some a0))), (some 37, .agg #[.string ⟨#[105, 110, 112, 117, 116]⟩, .iface 316 (.pointer (some a0))]), (some 38, .iface 150 (.agg #[.string ⟨#[105, 110, 112, 117, 116]⟩, .iface 316 (.pointer (some a0))])), (some 14, .string ⟨#[]⟩), (some 15, .iface 150 (.agg #[.string ⟨#[105, 110, 112, 117, 116]⟩, .iface 316 (.pointer (some a0))]))]) (by kernel_rfl) (by kernel_rfl) (by kernel_rfl) (by kernel_rfl) (fun _ => by kernel_rfl) (G.last_of [] (fun F R hm => by simp at hm) (fun ob ob' k hm => by simp at hm) (fun b ob ob' hm => by simp at hm)) (fun b ob ob' hm => by simp at hm) ?_ ?_
    · intro ix hix
      match ix, hix with
      | 0, _ => exact G.ob_val [] rfl rfl (fun _ => by kernel_rfl) (fun A w _ hB => ld_err rfl (hB.cell g0 (by simp)))
      | 1, _ => exact G.ob_val [(36, .iface 316 (.pointer (some a0)))] rfl rfl (fun _ => by kernel_rfl) (fun A w ⟨e0, _⟩ hB => bu_flt rfl e0)
      | 2, _ => exact G.ob_val [(37, .agg #[.string ⟨#[105, 110, 112, 117, 116]⟩, .iface 316 (.pointer (some a0))])] rfl rfl (fun _ => by kernel_rfl) (fun A w ⟨e0, _⟩ hB => mi_flt e0)
      | 3, _ => exact G.ob_val [] rfl rfl (fun _ => by kernel_rfl) (fun A w _ hB => doV_assign rfl)
      | 4, _ => exact G.ob_val [(38, .iface 150 (.agg #[.string ⟨#[105, 110, 112, 117, 116]⟩, .iface 316 (.pointer (some a0))]))] rfl rfl (fun _ => by kernel_rfl) (fun A w ⟨e0, _⟩ hB => doV_assign e0)
      | ix + 5, h => exact absurd h (by simp)
    intro f W2 hS _ _ _ _
    replace hb := hb.drew.trans (hS.below.mono hb.size)
    clear hS g0
    simp only [puts, List.foldl, Act.put, List.setIfInBounds_toArray, List.set_cons_zero, List.set_cons_succ]
    go_wp2
    go_ret2
    exact ⟨by subst hV; rfl, hb⟩
  have hl : ¬ (65535 : Int) < (input.size : Int) := by omega
  go_wp2_with fail
  rcases H with ⟨hV, FF⟩ | ⟨FF, H⟩
  · refine (FF _ hb).mono ?_
    rintro e w2 ⟨rfl, b1⟩
    replace hb := hb.trans (b1.mono hb.size)
    replace hb := hb.trans (((Below.refl _ w2).alloc (Nat.le_refl _) (Obj.cells #[.int .u64 0] 117)).mono hb.size)
    clear FF b1
    go_wp2
    go_ret2
    exact ⟨by subst hV; rfl, hb⟩
  refine (FF _ hb).mono ?_
  rintro e w2 ⟨rfl, b1⟩
  have hal := (Below.refl _ w2).alloc (Nat.le_refl _) (Obj.cells #[.int .u64 blind] 117)
  have r18 := Bk.new w2 117 #[.int .u64 blind]
  replace rE := (rE.keep b1).keep hal
  replace rB := (rB.keep b1).keep hal
  replace rP := (rP.keep b1).keep hal
  replace r16 := (r16.keep b1).keep hal
  replace hb := hb.trans (b1.mono hb.size)
  replace hb := hb.trans (hal.mono hb.size)
  clear FF b1 hal
  have rEc0 := rE.cell (k := 0) rfl
  have rEc1 := rE.cell (k := 1) rfl
  have rEc2 := rE.cell (k := 2) rfl
  go_wp2_with fail
  rcases H with ⟨hV, EV⟩ | ⟨EV, H⟩
  · refine (EV _ hb).mono ?_
    rintro e w3 ⟨rfl, b1⟩
    replace hb := hb.trans (b1.mono hb.size)
    replace hb := hb.trans (((Below.refl _ w3).alloc (Nat.le_refl _) (Obj.cells #[.int .u64 0, .int .u64 0, .bool false, .int .u64 0, .int .u64 0] 167)).mono hb.size)
    clear EV b1 rEc0 rEc1 rEc2
    go_wp2
    go_ret2
    exact ⟨by subst hV; rfl, hb⟩
  refine (EV _ hb).mono ?_
  rintro e w3 ⟨rfl, b1⟩
  have hal := (Below.refl _ w3).alloc (Nat.le_refl _) (Obj.cells #[.int .u64 (px ev), .int .u64 (py ev), .bool (pb ev), .int .u64 c, .int .u64 s] 167)
  have r19 := Bk.new w3 167 #[.int .u64 (px ev), .int .u64 (py ev), .bool (pb ev), .int .u64 c, .int .u64 s]
  replace rB := (rB.keep b1).keep hal
  replace rP := (rP.keep b1).keep hal
  replace r16 := (r16.keep b1).keep hal
  replace r18 := (r18.keep b1).keep hal
  replace hb := hb.trans (b1.mono hb.size)
  replace hb := hb.trans (hal.mono hb.size)
  clear EV b1 hal rEc0 rEc1 rEc2 rE
  have rBc0 := rB.cell (k := 0) rfl
  have rBc1 := rB.cell (k := 1) rfl
  have rBc2 := rB.cell (k := 2) rfl
  go_wp2_with fail
  rcases H with ⟨hV, EL⟩ | ⟨EL, H⟩
  · refine (EL _ hb).mono ?_
    rintro e w4 ⟨rfl, b1⟩
    replace hb := hb.trans (b1.mono hb.size)
    replace hb := hb.trans (((Below.refl _ w4).alloc (Nat.le_refl _) (Obj.cells #[.int .u64 0, .int .u64 0, .bool true] 106)).mono hb.size)
    clear EL b1 rBc0 rBc1 rBc2
    go_wp2
    go_ret2
    exact ⟨by subst hV; rfl, hb⟩
  refine (EL _ hb).mono ?_
  rintro e w4 ⟨rfl, b1⟩
  have hal := (Below.refl _ w4).alloc (Nat.le_refl _) (Obj.cells #[.int .u64 (px el), .int .u64 (py el), .bool (pb el)] 106)
  have r20 := Bk.new w4 106 #[.int .u64 (px el), .int .u64 (py el), .bool (pb el)]
  replace rB := (rB.keep b1).keep hal
  replace rP := (rP.keep b1).keep hal
  replace r16 := (r16.keep b1).keep hal
  replace r18 := (r18.keep b1).keep hal
  replace r19 := (r19.keep b1).keep hal
  replace hb := hb.trans (b1.mono hb.size)
  replace hb := hb.trans (hal.mono hb.size)
  clear EL b1 hal rBc0 rBc1 rBc2
  have rPc0 := rP.cell (k := 0) rfl
  have rPc1 := rP.cell (k := 1) rfl
  have rPc2 := rP.cell (k := 2) rfl
  go_wp2_with fail
  rcases H with ⟨hV, PB⟩ | ⟨PB, H⟩
  · refine (PB _ hb).mono ?_
    rintro e w5 ⟨rfl, b1⟩
    replace hb := hb.trans (b1.mono hb.size)
    replace hb := hb.trans (((Below.refl _ w5).alloc (Nat.le_refl _) (Obj.cells #[.int .u64 0, .int .u64 0, .bool true] 106)).mono hb.size)
    clear PB b1 rPc0 rPc1 rPc2
    go_wp2
    go_ret2
    exact ⟨by subst hV; rfl, hb⟩
  refine (PB _ hb).mono ?_
  rintro e w5 ⟨rfl, b1⟩
  have hal := (Below.refl _ w5).alloc (Nat.le_refl _) (Obj.cells #[.int .u64 (px q), .int .u64 (py q), .bool (pb q)] 106)
  have r21 := Bk.new w5 106 #[.int .u64 (px q), .int .u64 (py q), .bool (pb q)]
  replace rB := (rB.keep b1).keep hal
  replace r16 := (r16.keep b1).keep hal
  replace r18 := (r18.keep b1).keep hal
  replace r19 := (r19.keep b1).keep hal
  replace r20 := (r20.keep b1).keep hal
  replace hb := hb.trans (b1.mono hb.size)
  replace hb := hb.trans (hal.mono hb.size)
  clear PB b1 hal rPc0 rPc1 rPc2 rP
  have r16c6 := r16.cell (k := 6) rfl
  have r21c0 := r21.cell (k := 0) rfl
  have r21c1 := r21.cell (k := 1) rfl
  have r21c2 := r21.cell (k := 2) rfl
  have rBc3 := rB.cell (k := 3) rfl
  have rBc4 := rB.cell (k := 4) rfl
  have rBc5 := rB.cell (k := 5) rfl
  go_wp2_with fail
  rcases H with ⟨hV, PV⟩ | ⟨PV, H⟩
  · refine (PV _ hb).mono ?_
    rintro e w6 ⟨rfl, b1⟩
    replace hb := hb.trans (b1.mono hb.size)
    replace hb := hb.trans (((Below.refl _ w6).alloc (Nat.le_refl _) (Obj.cells #[.int .u64 0, .int .u64 0, .bool true] 106)).mono hb.size)
    clear PV b1 r16c6 r21c0 r21c1 r21c2 rBc3 rBc4 rBc5
    go_wp2
    go_ret2
    exact ⟨by subst hV; rfl, hb⟩
  refine (PV _ hb).mono ?_
  rintro e w6 ⟨rfl, b1⟩
  have hal := (Below.refl _ w6).alloc (Nat.le_refl _) (Obj.cells #[.int .u64 (px b), .int .u64 (py b), .bool (pb b)] 106)
  have r22 := Bk.new w6 106 #[.int .u64 (px b), .int .u64 (py b), .bool (pb b)]
  replace r16 := (r16.keep b1).keep hal
  replace r18 := (r18.keep b1).keep hal
  replace r19 := (r19.keep b1).keep hal
  replace r20 := (r20.keep b1).keep hal
  replace hb := hb.trans (b1.mono hb.size)
  replace hb := hb.trans (hal.mono hb.size)
  clear PV b1 hal r16c6 r21c0 r21c1 r21c2 rBc3 rBc4 rBc5 rB r21
  have r16c0 := r16.cell (k := 0) rfl
  have r16c1 := r16.cell (k := 1) rfl
  have r16c2 := r16.cell (k := 2) rfl
  have r16c3 := r16.cell (k := 3) rfl
  have r16c4 := r16.cell (k := 4) rfl
  have r16c5 := r16.cell (k := 5) rfl
  have r16c6 := r16.cell (k := 6) rfl
  have r16c7 := r16.cell (k := 7) rfl
  have r16c8 := r16.cell (k := 8) rfl
  have r22c0 := r22.cell (k := 0) rfl
  have r22c1 := r22.cell (k := 1) rfl
  have r22c2 := r22.cell (k := 2) rfl
  have r20c0 := r20.cell (k := 0) rfl
  have r20c1 := r20.cell (k := 1) rfl
  have r20c2 := r20.cell (k := 2) rfl
  have r19c0 := r19.cell (k := 0) rfl
  have r19c1 := r19.cell (k := 1) rfl
  have r19c2 := r19.cell (k := 2) rfl
  have r19c3 := r19.cell (k := 3) rfl
  have r19c4 := r19.cell (k := 4) rfl
  go_wp2_with fail
  rcases H with ⟨hV, VE⟩ | ⟨VE, H⟩
  · refine (VE _ hb).mono ?_
    rintro e w7 ⟨rfl, b1⟩
    replace hb := hb.trans (b1.mono hb.size)
    clear VE b1 r16c0 r16c1 r16c2 r16c3 r16c4 r16c5 r16c6 r16c7 r16c8 r22c0 r22c1 r22c2 r20c0 r20c1 r20c2 r19c0 r19c1 r19c2 r19c3 r19c4
    go_wp2
    go_ret2
    exact ⟨by subst hV; rfl, hb⟩
  refine (VE _ hb).mono ?_
  rintro e w7 ⟨rfl, b1⟩
  replace r16 := r16.keep b1
  replace r18 := r18.keep b1
  replace r19 := r19.keep b1
  replace hb := hb.trans (b1.mono hb.size)
  clear VE b1  r16c0 r16c1 r16c2 r16c3 r16c4 r16c5 r16c6 r16c7 r16c8 r22c0 r22c1 r22c2 r20c0 r20c1 r20c2 r19c0 r19c1 r19c2 r19c3 r19c4 r20 r22
  obtain ⟨hV, IV, TM, OU⟩ := H
  go_wp2
  generalize w1.heap.size = BP at *
  generalize w2.heap.size = BF at *
  generalize w3.heap.size = BE at *
  have d0 : w7.drew.cell? ⟨BP, 0, none⟩ = _ := r16.cell (k := 0) rfl
  have d1 : w7.drew.cell? ⟨BP, 1, none⟩ = _ := r16.cell (k := 1) rfl
  have d2 : w7.drew.cell? ⟨BP, 2, none⟩ = _ := r16.cell (k := 2) rfl
  have d3 : w7.drew.cell? ⟨BP, 3, none⟩ = _ := r16.cell (k := 3) rfl
  have d4 : w7.drew.cell? ⟨BP, 4, none⟩ = _ := r16.cell (k := 4) rfl
  have d5 : w7.drew.cell? ⟨BP, 5, none⟩ = _ := r16.cell (k := 5) rfl
  have d6 : w7.drew.cell? ⟨BP, 6, none⟩ = _ := r16.cell (k := 6) rfl
  have d7 : w7.drew.cell? ⟨BP, 7, none⟩ = _ := r16.cell (k := 7) rfl
  have d8 : w7.drew.cell? ⟨BP, 8, none⟩ = _ := r16.cell (k := 8) rfl
  have m0 : w7.drew.cell? ⟨BE, 0, none⟩ = _ := r19.cell (k := 0) rfl
  have m1 : w7.drew.cell? ⟨BE, 1, none⟩ = _ := r19.cell (k := 1) rfl
  have m2 : w7.drew.cell? ⟨BE, 2, none⟩ = _ := r19.cell (k := 2) rfl
  have f0 : w7.drew.cell? ⟨BF, 0, none⟩ = _ := r18.cell (k := 0) rfl
  have OU' : ∀ w', G.Sides [] w7.drew w' → _ := fun w' h => OU w' (hb.drew.trans (h.below.mono hb.size))
  refine G.pool_list (W := w7) [] [.val (.agg #[.string cx, .string info, .func (.func F0) #[] #[], .func (.func F1) #[] #[], .func (.func F2) #[] #[], .func (.func F3) #[] #[], .func (.func F4) #[] #[], .func (.func F5) #[] #[], .func (.func F6) #[] #[]]),
      .val (.string input),
      .val (.pointer (some ⟨BE, 0, none⟩)),
      .val (.agg #[.int .u64 (px ev), .int .u64 (py ev), .bool (pb ev)]),
      .val (.agg #[.int .u64 blind]),
      .val (.agg #[.int .u64 iv]),
      .val (.int .u64 iv),
      .val (.agg #[.int .u64 (px u), .int .u64 (py u), .bool (pb u)]),
      .val (.string R),
      .val (.string R),
      .val (.nilIface)] [[16], [1], [19], [107], [18], [109], [110], [108, 111], [105, 106, 112], [113], []] (fun f => [(some 105, .agg #[.string cx, .string info, .func (.func F0) #[] #[], .func (.func F1) #[] #[], .func (.func F2) #[] #[], .func (.func F3) #[] #[], .func (.func F4) #[] #[], .func (.func F5) #[] #[], .func (.func F6) #[] #[]]), (some 106, .string input), (some 107, .pointer (some ⟨BE, 0, none⟩)), (some 108, .agg #[.int .u64 (px ev), .int .u64 (py ev), .bool (pb ev)]), (some 109, .agg #[.int .u64 blind]), (some 110, .agg #[.int .u64 iv]), (some 111, .int .u64 iv), (some 112, .agg #[.int .u64 (px u), .int .u64 (py u), .bool (pb u)]), (some 113, .string R), (some 14, .string R), (some 15, .nilIface)]) (by kernel_rfl) (by kernel_rfl) (by kernel_rfl) (by kernel_rfl) (fun _ => by kernel_rfl) (G.last_of [] (fun F R hm => by simp at hm) (fun ob ob' k hm => by simp at hm) (fun b ob ob' hm => by simp at hm)) (fun b ob ob' hm => by simp at hm) ?_ ?_
  · intro ix hix
    match ix, hix with
    | 0, _ => exact G.ob_val [(16, .pointer (some ⟨BP, 0, none⟩))] rfl rfl (fun _ => by kernel_rfl) (fun A w ⟨e0, _⟩ hB => ld_pro e0 (hB.cell d0 (by simp)) (hB.cell d1 (by simp)) (hB.cell d2 (by simp)) (hB.cell d3 (by simp)) (hB.cell d4 (by simp)) (hB.cell d5 (by simp)) (hB.cell d6 (by simp)) (hB.cell d7 (by simp)) (hB.cell d8 (by simp)))
    | 1, _ => exact G.ob_val [(1, .string input)] rfl rfl (fun _ => by kernel_rfl) (fun A w ⟨e0, _⟩ hB => doV_move e0)
    | 2, _ => exact G.ob_val [(19, .pointer (some ⟨BE, 0, none⟩))] rfl rfl (fun _ => by kernel_rfl) (fun A w ⟨e0, _⟩ hB => fa_evn0 e0)
    | 3, _ => exact G.ob_val [(107, .pointer (some ⟨BE, 0, none⟩))] rfl rfl (fun _ => by kernel_rfl) (fun A w ⟨e0, _⟩ hB => ld_cp e0 (hB.cell m0 (by simp)) (hB.cell m1 (by simp)) (hB.cell m2 (by simp)))
    | 4, _ => exact G.ob_val [(18, .pointer (some ⟨BF, 0, none⟩))] rfl rfl (fun _ => by kernel_rfl) (fun A w ⟨e0, _⟩ hB => ld_nN e0 (hB.cell f0 (by simp)))
    | 5, _ => exact G.ob_val [(109, .agg #[.int .u64 blind])] rfl rfl (fun _ => by kernel_rfl) (fun A w ⟨e0, _⟩ hB => cl1 cf_impl_number_impl_primeN_inverse e0 (IV w))
    | 6, _ => exact G.ob_val [(110, .agg #[.int .u64 iv])] rfl rfl (fun _ => by kernel_rfl) (fun A w ⟨e0, _⟩ hB => fl_nN1 e0)
    | 7, _ => exact G.ob_val [(108, .agg #[.int .u64 (px ev), .int .u64 (py ev), .bool (pb ev)]), (111, .int .u64 iv)] rfl rfl (fun _ => by kernel_rfl) (fun A w ⟨e0, e1, _⟩ hB => cl2 cf_impl_curvePoint_times e0 e1 (TM w))
    | 8, _ => exact G.ob_val [(105, .agg #[.string cx, .string info, .func (.func F0) #[] #[], .func (.func F1) #[] #[], .func (.func F2) #[] #[], .func (.func F3) #[] #[], .func (.func F4) #[] #[], .func (.func F5) #[] #[], .func (.func F6) #[] #[]]), (106, .string input), (112, .agg #[.int .u64 (px u), .int .u64 (py u), .bool (pb u)])] rfl rfl (fun _ => by kernel_rfl) (fun A w ⟨e0, e1, e2, _⟩ hB => cl3 cf_impl_protocol_output e0 e1 e2 (OU' w hB))
    | 9, _ => exact G.ob_val [(113, .string R)] rfl rfl (fun _ => by kernel_rfl) (fun A w ⟨e0, _⟩ hB => doV_assign e0)
    | 10, _ => exact G.ob_val [] rfl rfl (fun _ => by kernel_rfl) (fun A w _ hB => doV_assign rfl)
    | ix + 11, h => exact absurd h (by simp)
  intro f W8 hS _ _ _ _
  replace hb := hb.drew.trans (hS.below.mono hb.size)
  clear hS d0 d1 d2 d3 d4 d5 d6 d7 d8 m0 m1 m2 f0 OU'
  simp only [puts, List.foldl, Act.put, List.setIfInBounds_toArray, List.set_cons_zero, List.set_cons_succ]
  go_wp2
  go_ret2
  exact ⟨by subst hV; rfl, hb⟩
theorem fnlI_of (mode blind pc ps x1 y1 x2 y2 x3 y3 cd : Int) (c1 c2 c3 : Bool) (input info o o' : ByteArray) (a : Option Addr) (n cap : Nat) (v : Value) (w : World)
    (FI : ∀ w', Below w.heap.size w w' → Calls Tryz.prog 57 #[.int .i64 mode, .string input, .string info, .int .u64 blind, .agg #[.slice a n cap, .int .u64 pc, .int .u64 ps], .agg #[.int .u64 x1, .int .u64 y1, .bool c1, .int .u64 x2, .int .u64 y2, .bool c2], .agg #[.int .u64 x3, .int .u64 y3, .bool c3]] w' fun e w'' => e = .returned (.tuple #[.string o, v]) ∧ Below w'.heap.size w' w'')
    (AN : ∀ w', Below w.heap.size w w' → Calls Tryz.prog 38 #[.string o, v] w' fun e w'' => e = .returned (.tuple #[.string o', .int .i64 cd]) ∧ Below w'.heap.size w' w'') :
    Calls Tryz.prog 27 #[.int .i64 mode, .string input, .string info, .int .u64 blind, .agg #[.slice a n cap, .int .u64 pc, .int .u64 ps], .agg #[.int .u64 x1, .int .u64 y1, .bool c1, .int .u64 x2, .int .u64 y2, .bool c2], .agg #[.int .u64 x3, .int .u64 y3, .bool c3]] w fun e w' => e = .returned (.tuple #[.string o', .int .i64 cd]) ∧ Below w.heap.size w w' := by
  obtain ⟨X, hX⟩ : ∃ X, X = ((w.alloc (Obj.cells #[.slice a n cap, .int .u64 pc, .int .u64 ps] 42)).alloc (Obj.cells #[.int .u64 x1, .int .u64 y1, .bool c1, .int .u64 x2, .int .u64 y2, .bool c2] 30)).alloc (Obj.cells #[.int .u64 x3, .int .u64 y3, .bool c3] 28) := ⟨_, rfl⟩
  have rE : Bk X 42 w.heap.size #[.slice a n cap, .int .u64 pc, .int .u64 ps] := by rw [hX]; exact ((Bk.new _ _ _).alloc _).alloc _
  have rB : Bk X 30 (w.heap.size + 1) #[.int .u64 x1, .int .u64 y1, .bool c1, .int .u64 x2, .int .u64 y2, .bool c2] := by rw [hX]; exact ((Bk.new _ _ _).at (by simp)).alloc _
  have rP : Bk X 28 (w.heap.size + 1 + 1) #[.int .u64 x3, .int .u64 y3, .bool c3] := by rw [hX]; exact (Bk.new _ _ _).at (by simp)
  have hb : Below w.heap.size w X := by rw [hX]; exact (((Below.refl _ w).alloc (Nat.le_refl _) _).alloc (by simp) _).alloc (by simp; omega) _
  rw [hX] at rE rB rP hb
  clear hX
  have rEc0 := rE.cell (k := 0) rfl
  have rEc1 := rE.cell (k := 1) rfl
  have rEc2 := rE.cell (k := 2) rfl
  have rBc0 := rB.cell (k := 0) rfl
  have rBc1 := rB.cell (k := 1) rfl
  have rBc2 := rB.cell (k := 2) rfl
  have rBc3 := rB.cell (k := 3) rfl
  have rBc4 := rB.cell (k := 4) rfl
  have rBc5 := rB.cell (k := 5) rfl
  have rPc0 := rP.cell (k := 0) rfl
  have rPc1 := rP.cell (k := 1) rfl
  have rPc2 := rP.cell (k := 2) rfl
  go_enter Tryz.func27, Tryz.ntmps27
  go_wp2_with fail
  refine (FI _ hb).mono ?_
  rintro e w1 ⟨rfl, b1⟩
  replace hb := hb.trans (b1.mono hb.size)
  clear FI b1 rEc0 rEc1 rEc2 rBc0 rBc1 rBc2 rBc3 rBc4 rBc5 rPc0 rPc1 rPc2 rE rB rP
  go_wp2_with fail
  refine (AN _ hb).mono ?_
  rintro e w2 ⟨rfl, b1⟩
  replace hb := hb.trans (b1.mono hb.size)
  clear AN b1
  go_wp2
  go_ret2
  exact ⟨rfl, hb⟩
theorem eqP (x y : Int) (c : Bool) (w : World) :
    Calls Tryz.prog 47 #[.agg #[.int .u64 x, .int .u64 y, .bool c], .agg #[.int .u64 x, .int .u64 y, .bool c]] w fun e w' => e = .returned (.bool true) ∧ Below w.heap.size w w' := by
  go_enter Tryz.func47, Tryz.ntmps47
  go_wp2
  go_ret
  exact ⟨rfl, ((Below.refl _ w).alloc (Nat.le_refl _) _).alloc (by simp) _⟩
def Ars (W : World) (v : Value) (ps : List Tri) : Prop := ∃ a n cap, v = .slice a n cap ∧ ps.length = n ∧ (n = 0 ∨ ∃ g o, a = some ⟨g, o, none⟩ ∧ Pts W g o ps)
theorem Ars.keep {W W' : World} {v : Value} {ps : List Tri} (h : Ars W v ps) (hb : Below W.heap.size W W') : Ars W' v ps := by
  obtain ⟨a, n, cap, hv, hl, h0 | ⟨g, o, ha, hp⟩⟩ := h
  · exact ⟨a, n, cap, hv, hl, .inl h0⟩
  · exact ⟨a, n, cap, hv, hl, .inr ⟨g, o, ha, hp.keep hb⟩⟩
def InA (cur : Array Value) (ps : List Tri) : Prop := ∀ i (t : Tri), ps[i]? = some t → cur[i * 3]? = some (.int .u64 (t.1 : Int)) ∧ cur[i * 3 + 1]? = some (.int .u64 (t.2.1 : Int)) ∧ cur[i * 3 + 2]? = some (.bool t.2.2)
theorem InA.pts {W : World} {g : Nat} {T : TypeId} {cur : Array Value} {ps : List Tri} (h : InA cur ps) (hg : W.heap[g]? = some (.cells cur T)) : Pts W g 0 ps := by
  refine ⟨(Array.getElem?_eq_some_iff.1 hg).1, fun i t ht => ?_, fun i t ht => ?_, fun i t ht => ?_⟩
  · rw [cell_of_row _ _ _ _ _ _ hg, Nat.zero_add]; exact (h i t ht).1
  · rw [cell_of_row _ _ _ _ _ _ hg, Nat.zero_add]; exact (h i t ht).2.1
  · rw [cell_of_row _ _ _ _ _ _ hg, Nat.zero_add]; exact (h i t ht).2.2
theorem set3_at {W : World} {g k : Nat} {T : TypeId} {cur : Array Value} (hg : W.heap[g]? = some (.cells cur T)) (hk : k + 2 < cur.size) (v0 v1 v2 : Value) :
    ∃ cur', (((W.setCell ⟨g, k, none⟩ v0).setCell ⟨g, k + 1, none⟩ v1).setCell ⟨g, k + 2, none⟩ v2).heap[g]? = some (.cells cur' T) ∧ cur'.size = cur.size ∧ cur'[k]? = some v0 ∧ cur'[k + 1]? = some v1 ∧ cur'[k + 2]? = some v2 ∧ ∀ i, i < k → cur'[i]? = cur[i]? := by
  refine ⟨((cur.setIfInBounds k v0).setIfInBounds (k + 1) v1).setIfInBounds (k + 2) v2, ?_, by simp, ?_, ?_, ?_, fun i hi => ?_⟩
  · simp [World.setCell, Array.getElem?_modify, hg]
  · rw [Array.getElem?_setIfInBounds, if_neg (by omega), Array.getElem?_setIfInBounds, if_neg (by omega), Array.getElem?_setIfInBounds, if_pos rfl, if_pos (by omega)]
  · rw [Array.getElem?_setIfInBounds, if_neg (by omega), Array.getElem?_setIfInBounds, if_pos rfl, if_pos (by simp; omega)]
  · rw [Array.getElem?_setIfInBounds, if_pos rfl, if_pos (by simp; omega)]
  · rw [Array.getElem?_setIfInBounds, if_neg (by omega), Array.getElem?_setIfInBounds, if_neg (by omega), Array.getElem?_setIfInBounds, if_neg (by omega)]
theorem infoPt : (Tryz.prog.info? 28).map (fun i => (i.zero, i.size, i.bytes)) = some (some (.agg #[.int .u64 0, .int .u64 0, .bool false]), 3, 24) := by kernel_rfl
theorem toP5 (x y : Int) (c : Bool) (w : World) :
    Calls Tryz.prog 11 #[.agg #[.int .u64 x, .int .u64 y, .bool c]] w fun e w' => e = .returned (.agg #[.int .u64 x, .int .u64 y, .bool c]) ∧ Below w.heap.size w w' := by
  go_enter Tryz.func11, Tryz.ntmps11
  go_wp2
  refine bodyPost_ret (v := .agg #[.int .u64 x, .int .u64 y, .bool c]) (by simp [results, Tryz.results11, go_sem]) rfl ⟨rfl, ?_⟩
  exact (((Below.refl _ w).alloc (Nat.le_refl _) _).alloc (by simp) _).alloc (by simp; omega) _
def Mad (x : Nat) (ps : List Tri) (w : World) : Prop := ∃ cur, w.heap[x]? = some (.cells cur 28) ∧ InA cur ps
theorem Mad.pts {x : Nat} {ps : List Tri} {w : World} (h : Mad x ps w) : Pts w x 0 ps := by obtain ⟨cur, h1, h2⟩ := h; exact h2.pts h1
theorem Mad.keep {x : Nat} {ps : List Tri} {w w' : World} (h : Mad x ps w) (hb : Below w.heap.size w w') : Mad x ps w' := by
  obtain ⟨cur, h1, h2⟩ := h
  exact ⟨cur, (hb.block x (Array.getElem?_eq_some_iff.1 h1).1).trans h1, h2⟩
theorem tpsL_any (v : Value) (ps : List Tri) (w : World) (hA : Ars w v ps) (hn : ps.length ≤ 1048576) :
    Calls Tryz.prog 16 #[v] w fun e w' => ∃ x, e = .returned (.slice (some ⟨x, 0, none⟩) ps.length ps.length) ∧ Mad x ps w' ∧ Below w.heap.size w w' := by
  obtain ⟨a, n, cap, rfl, hl, hA⟩ := hA
  obtain ⟨i0, hi, hz0, hz1, hz2⟩ := info_parts infoPt
  rw [hl] at hn ⊢
  obtain ⟨w1, hmk, ⟨cur1, hg1, hs1⟩, hbl1⟩ : ∃ w1, (Instr.makeSlice 38 (.int .i64 n) (.int .i64 n)).run Tryz.prog w = .ok (.slice (some ⟨w.heap.size, 0, none⟩) n n) w1 ∧ (∃ cur, w1.heap[w.heap.size]? = some (.cells cur 28) ∧ cur.size = n * 3) ∧ Below w.heap.size w w1 := by
    obtain ⟨w1, hr, ho, hg⟩ := run_make_full (P := Tryz.prog) w w.heap.size 38 28 i0 (.agg #[.int .u64 0, .int .u64 0, .bool false]) 3 Tryz.underlying38 hi hz0 hz1 .i64 .i64 n (by rw [hz2]; omega) (by unfold maxLen; omega) (Nat.le_refl _)
    refine ⟨w1, hr, ?_, (Below.refl _ _).grown hg (Nat.le_refl _) (fun r hr => by cases hr)⟩
    rcases ho.2 with ⟨h0, _⟩ | ⟨g, cp, cur, hv, -, hcur, -, -, hsz, -⟩
    · cases h0
    · injection hv with e1 e2 e3
      injection e1 with e1
      injection e1 with e1
      subst e1 e3
      exact ⟨cur, hcur, hsz⟩
  have hT := toP5
  go_enter Tryz.func16, Tryz.ntmps16
  go_wp2
  go_loopw [4] (fun iv wr => ∃ (j : Nat) (cur : Array Value), j ≤ n ∧ iv = .int .i64 (j : Int) ∧ wr.heap[w.heap.size]? = some (.cells cur 28) ∧ cur.size = n * 3 ∧ InA cur (ps.take j) ∧ Below w.heap.size w wr) (fun i _ => n - (intOf i).toNat)
  case atStart => exact ⟨0, cur1, by omega, rfl, hg1, hs1, fun i t ht => by simp at ht, hbl1⟩
  case round =>
    clear hg1 hs1 hbl1 hmk
    obtain ⟨j, cur, hj, rfl, hg, hs, hin, hbl⟩ := hrel
    by_cases hlt : j < n
    · have hli : (j : Int) < (n : Int) := by omega
      obtain ⟨g, o, rfl, hp⟩ : ∃ g o, a = some ⟨g, o, none⟩ ∧ Pts w g o ps := by
        rcases hA with h0 | h
        · omega
        · exact h
      obtain ⟨t, ht⟩ : ∃ t, ps[j]? = some t := ⟨_, List.getElem?_eq_getElem (by omega)⟩
      have pp := hp.below hbl hp.lt
      have c0 := pp.c0 j t ht
      have c1 := pp.c1 j t ht
      have c2 := pp.c2 j t ht
      have htk : Hid (ps.take (j + 1) = ps.take j ++ [t]) := by simp only [Hid]; rw [List.take_add_one, ht]; rfl
      obtain ⟨tx, ty, tc⟩ := t
      dsimp only at c0 c1 c2
      have hl3 : (ps.take j).length = j := by rw [List.length_take]; omega
      clear ht pp hp hA
      go_wp2_with fail
      refine (hT _ _ _ _).mono ?_
      rintro e w2 ⟨rfl, b2⟩
      have hlt2 : w.heap.size < wr.heap.size := (Array.getElem?_eq_some_iff.1 hg).1
      replace hg := (b2.block _ hlt2).trans hg
      replace hbl := hbl.trans (b2.mono hbl.size)
      clear b2 c0 c1 c2 hlt2
      have d0 : w2.cell? ⟨w.heap.size, j * 3, none⟩ = some cur[j * 3] := by rw [cell_of_row _ _ _ _ _ _ hg]; exact Array.getElem?_eq_getElem (by omega)
      have d1 : w2.cell? ⟨w.heap.size, j * 3 + 1, none⟩ = some cur[j * 3 + 1] := by rw [cell_of_row _ _ _ _ _ _ hg]; exact Array.getElem?_eq_getElem (by omega)
      have d2 : w2.cell? ⟨w.heap.size, j * 3 + 2, none⟩ = some cur[j * 3 + 2] := by rw [cell_of_row _ _ _ _ _ _ hg]; exact Array.getElem?_eq_getElem (by omega)
      have f0 : ∀ i, w2.frozen? ⟨w.heap.size, i, none⟩ = false := fun i => frozen_of_row _ _ i _ _ hg
      generalize cur[j * 3] = u0 at *
      generalize cur[j * 3 + 1] = u1 at *
      generalize cur[j * 3 + 2] = u2 at *
      go_wp2
      obtain ⟨cur', q1, q2, q3, q4, q5, q6⟩ := set3_at hg (k := j * 3) (by omega) (.int .u64 (tx : Int)) (.int .u64 (ty : Int)) (.bool tc)
      have R1 : InA cur' (ps.take (j + 1)) := by
        rw [htk.out]
        intro i t ht
        by_cases hij : i < j
        · rw [List.getElem?_append_left (by omega)] at ht
          have := hin i t ht
          rw [q6 _ (by omega), q6 _ (by omega), q6 _ (by omega)]
          exact this
        · rw [List.getElem?_append_right (by omega), hl3] at ht
          have h0 : i = j := by
            have := (List.getElem?_eq_some_iff.1 ht).1
            simp at this
            omega
          subst h0
          simp at ht
          subst ht
          exact ⟨q3, q4, q5⟩
      have R2 : Below w.heap.size w (((w2.setCell ⟨w.heap.size, j * 3, none⟩ (.int .u64 (tx : Int))).setCell ⟨w.heap.size, j * 3 + 1, none⟩ (.int .u64 (ty : Int))).setCell ⟨w.heap.size, j * 3 + 2, none⟩ (.bool tc)) :=
        ((hbl.setCell (p := ⟨w.heap.size, j * 3, none⟩) (Nat.le_refl _) _).setCell (p := ⟨w.heap.size, j * 3 + 1, none⟩) (Nat.le_refl _) _).setCell (p := ⟨w.heap.size, j * 3 + 2, none⟩) (Nat.le_refl _) _
      rw [hs] at q2
      clear d0 d1 d2 f0 hin hg hbl q3 q4 q5 q6
      generalize ((w2.setCell ⟨w.heap.size, j * 3, none⟩ (.int .u64 (tx : Int))).setCell ⟨w.heap.size, j * 3 + 1, none⟩ (.int .u64 (ty : Int))).setCell ⟨w.heap.size, j * 3 + 2, none⟩ (.bool tc) = W3 at *
      go_roundw
      case rel =>
        first
          | exact ⟨j + 1, cur', by omega, by go_num, q1, q2, R1, R2⟩
          | ((repeat apply Exists.intro); exact ⟨⟨j + 1, cur', by omega, by go_num, q1, q2, R1, R2⟩, rfl⟩)
      case measure => simp [intOf]; omega
    · obtain rfl : j = n := by omega
      rw [List.take_of_length_le (by omega)] at hin
      go_wp2
      go_ret
      exact ⟨w.heap.size, rfl, ⟨cur, hg, hin⟩, hbl⟩
theorem szL_yes (a : Option Addr) (n cap : Nat) (left : Int) (w : World) (h : (n : Int) ≤ left) (hl : left ≤ 1048576) :
    Calls Tryz.prog 14 #[.slice a n cap, .int .i64 left] w fun e w' => e = .returned (.int .i64 (left - n)) ∧ w = w' := by
  have e : IntKind.i64.wrap (left - n) = left - n := i64_in _ (by omega) (by omega)
  have g : ¬ (left - n : Int) < 0 := by omega
  go_enter Tryz.func14, Tryz.ntmps14
  go_wp2
  go_ret
  exact ⟨rfl, rfl⟩
theorem szL_no (a : Option Addr) (n cap : Nat) (left : Int) (w : World) (h : left < (n : Int)) (hl : left ≤ 1048576) (h0 : 0 ≤ left) (hn : n ≤ maxLen) :
    Calls Tryz.prog 14 #[.slice a n cap, .int .i64 left] w fun e w' => e = .returned (.int .i64 (-1)) ∧ w = w' := by
  unfold maxLen at hn
  have e : IntKind.i64.wrap (left - n) = left - n := i64_in _ (by omega) (by omega)
  have g : (left - n : Int) < 0 := by omega
  go_enter Tryz.func14, Tryz.ntmps14
  go_wp2
  go_ret
  exact ⟨rfl, rfl⟩
theorem cf_eqPoint (args : Array Value) (w : World) : (callFunc 47 args).run Tryz.prog w = .ok (.enter 47 args) w := by kernel_rfl
theorem notT {A : Act} {w : World} {dst : Option Tmp} {ty : TypeId} {ps : String} {af : Array Edge} {gd : Option (Nat × Bool)} {x : Operand} (hx : A.eval x = .bool true) :
    Does Tryz.prog { dst := dst, op := .unOp .not 4 x, type := ty, pos := ps, after := af, guard := gd } A w fun v' w' => v' = .bool false ∧ Below w.heap.size w w' := by
  have h : (execOp A.eval { dst := dst, op := .unOp .not 4 x, type := ty, pos := ps, after := af, guard := gd }).run Tryz.prog w = .ok (.value (.bool false)) w := by generalize A.eval = ev at *; simp [execOp, hx, go_sem]
  exact does_value h ⟨rfl, Below.refl _ _⟩
theorem epsL_any (ps : List Tri) (x y : Nat) (w : World) (hx : Mad x ps w) (hy : Mad y ps w) (hn : ps.length ≤ 1048576) :
    Calls Tryz.prog 19 #[.slice (some ⟨x, 0, none⟩) ps.length ps.length, .slice (some ⟨y, 0, none⟩) ps.length ps.length] w fun e w' => e = .returned (.bool true) ∧ Below w.heap.size w w' := by
  have hX := hx.pts
  have hY := hy.pts
  obtain ⟨n, hl⟩ : ∃ n, ps.length = n := ⟨_, rfl⟩
  rw [hl] at hn ⊢
  clear hx hy
  go_enter Tryz.func19, Tryz.ntmps19
  go_wp2
  go_loopw [5] (fun iv wr => ∃ j : Nat, j ≤ n ∧ iv = .int .i64 (j : Int) ∧ Below w.heap.size w wr) (fun i _ => n - (intOf i).toNat)
  case atStart => exact ⟨0, by omega, rfl, Below.refl _ _⟩
  case round =>
    obtain ⟨j, hj, rfl, hbl⟩ := hrel
    by_cases hlt : j < n
    · have hli : (j : Int) < (n : Int) := by omega
      obtain ⟨t, ht⟩ : ∃ t, ps[j]? = some t := ⟨_, List.getElem?_eq_getElem (by omega)⟩
      have px' := (hX.below hbl hX.lt).drew
      have py' := (hY.below hbl hY.lt).drew
      have c0 := px'.c0 j t ht
      have c1 := px'.c1 j t ht
      have c2 := px'.c2 j t ht
      have d0 := py'.c0 j t ht
      have d1 := py'.c1 j t ht
      have d2 := py'.c2 j t ht
      have E := eqP (t.1 : Int) (t.2.1 : Int) t.2.2
      obtain ⟨tx, ty, tc⟩ := t
      dsimp only at c0 c1 c2 d0 d1 d2 E
      clear ht px' py'
      go_wp2
      refine pool_list [.val (.slice (some ⟨x, 0, none⟩) n n),
          .val (.int .i64 (j : Int)),
          .val (.pointer (some ⟨x, 0 + j * 3, none⟩)),
          .val (.agg #[.int .u64 (tx : Int), .int .u64 (ty : Int), .bool tc]),
          .val (.slice (some ⟨y, 0, none⟩) n n),
          .val (.int .i64 (j : Int)),
          .val (.pointer (some ⟨y, 0 + j * 3, none⟩)),
          .val (.agg #[.int .u64 (tx : Int), .int .u64 (ty : Int), .bool tc]),
          .val (.bool true),
          .val (.bool false)] [[0], [5], [17, 18], [19], [1], [5], [21, 22], [23], [20, 24], [25]] (fun f => [(some 17, .slice (some ⟨x, 0, none⟩) n n), (some 18, .int .i64 (j : Int)), (some 19, .pointer (some ⟨x, 0 + j * 3, none⟩)), (some 20, .agg #[.int .u64 (tx : Int), .int .u64 (ty : Int), .bool tc]), (some 21, .slice (some ⟨y, 0, none⟩) n n), (some 22, .int .i64 (j : Int)), (some 23, .pointer (some ⟨y, 0 + j * 3, none⟩)), (some 24, .agg #[.int .u64 (tx : Int), .int .u64 (ty : Int), .bool tc]), (some 25, .bool true), (some 26, .bool false)]) (by kernel_rfl) (by kernel_rfl) (by kernel_rfl) (by kernel_rfl) (fun _ => by kernel_rfl) ?_ ?_
      · intro ix hix
        match ix, hix with
        | 0, _ => exact ob_val [(0, .slice (some ⟨x, 0, none⟩) n n)] rfl rfl (fun _ => by kernel_rfl) (fun A w ⟨e0, _⟩ hB => doV_move e0)
        | 1, _ => exact ob_val [(5, .int .i64 (j : Int))] rfl rfl (fun _ => by kernel_rfl) (fun A w ⟨e0, _⟩ hB => doV_move e0)
        | 2, _ => exact ob_val [(17, .slice (some ⟨x, 0, none⟩) n n), (18, .int .i64 (j : Int))] rfl rfl (fun _ => by kernel_rfl) (fun A w ⟨e0, e1, _⟩ hB => ix_pts e0 e1 (by omega))
        | 3, _ => exact ob_val [(19, .pointer (some ⟨x, 0 + j * 3, none⟩))] rfl rfl (fun _ => by kernel_rfl) (fun A w ⟨e0, _⟩ hB => ld_pt e0 (keepC c0 hB) (keepC c1 hB) (keepC c2 hB))
        | 4, _ => exact ob_val [(1, .slice (some ⟨y, 0, none⟩) n n)] rfl rfl (fun _ => by kernel_rfl) (fun A w ⟨e0, _⟩ hB => doV_move e0)
        | 5, _ => exact ob_val [(5, .int .i64 (j : Int))] rfl rfl (fun _ => by kernel_rfl) (fun A w ⟨e0, _⟩ hB => doV_move e0)
        | 6, _ => exact ob_val [(21, .slice (some ⟨y, 0, none⟩) n n), (22, .int .i64 (j : Int))] rfl rfl (fun _ => by kernel_rfl) (fun A w ⟨e0, e1, _⟩ hB => ix_pts e0 e1 (by omega))
        | 7, _ => exact ob_val [(23, .pointer (some ⟨y, 0 + j * 3, none⟩))] rfl rfl (fun _ => by kernel_rfl) (fun A w ⟨e0, _⟩ hB => ld_pt e0 (keepC d0 hB) (keepC d1 hB) (keepC d2 hB))
        | 8, _ => exact ob_val [(20, .agg #[.int .u64 (tx : Int), .int .u64 (ty : Int), .bool tc]), (24, .agg #[.int .u64 (tx : Int), .int .u64 (ty : Int), .bool tc])] rfl rfl (fun _ => by kernel_rfl) (fun A w ⟨e0, e1, _⟩ hB => cl2 cf_eqPoint e0 e1 (E w))
        | 9, _ => exact ob_val [(25, .bool true)] rfl rfl (fun _ => by kernel_rfl) (fun A w ⟨e0, _⟩ hB => notT e0)
        | ix + 10, h => exact absurd h (by simp)
      intro f W2 hb2 _ _
      have hb2' : Below wr.heap.size wr W2 := (Below.refl _ wr).drew.trans hb2
      have R2 := hbl.trans (hb2'.mono hbl.size)
      clear c0 c1 c2 d0 d1 d2 E hb2 hb2' hbl
      simp only [puts, List.foldl, Act.put, List.setIfInBounds_toArray, List.set_cons_zero, List.set_cons_succ]
      go_wp2
      go_roundw
      case rel =>
        first
          | exact ⟨j + 1, by omega, by go_num, R2⟩
          | ((repeat apply Exists.intro); exact ⟨⟨j + 1, by omega, by go_num, R2⟩, rfl⟩)
      case measure => simp [intOf]; omega
    · obtain rfl : j = n := by omega
      go_wp2
      go_ret
      exact ⟨rfl, hbl⟩
end Go.Proofs.YtjmhmajfkdglnaaGreatDoor
namespace Go.Proofs.YtjmhmajfkdglnaaGreatDoor
open Go.RowKit
section
variable {A : Act} {w : World} {dst : Option Tmp} {ty : TypeId} {ps : String} {af : Array Edge} {gd : Option (Nat × Bool)} {x y : Operand} {b i : Nat}
theorem ld_lpt {v0 v1 v2 : Value} (hx : A.eval x = .pointer (some ⟨b, i, none⟩)) (h0 : w.cell? ⟨b, i, none⟩ = some v0) (h1 : w.cell? ⟨b, i + 1, none⟩ = some v1) (h2 : w.cell? ⟨b, i + 2, none⟩ = some v2) :
    Does Tryz.prog { dst := dst, op := .load 27 x, type := ty, pos := ps, after := af, guard := gd } A w fun v' w' => v' = .agg #[v0, v1, v2] ∧ Below w.heap.size w w' := by
  have h : (execOp A.eval { dst := dst, op := .load 27 x, type := ty, pos := ps, after := af, guard := gd }).run Tryz.prog w = .ok (.value (.agg #[v0, v1, v2])) w := by generalize A.eval = ev at *; simp [execOp, hx, h0, h1, h2, go_sem]
  exact does_value h ⟨rfl, Below.refl _ _⟩
theorem ld_prf {v0 v1 : Value} (hx : A.eval x = .pointer (some ⟨b, i, none⟩)) (h0 : w.cell? ⟨b, i, none⟩ = some v0) (h1 : w.cell? ⟨b, i + 1, none⟩ = some v1) :
    Does Tryz.prog { dst := dst, op := .load 40 x, type := ty, pos := ps, after := af, guard := gd } A w fun v' w' => v' = .agg #[v0, v1] ∧ Below w.heap.size w w' := by
  have h : (execOp A.eval { dst := dst, op := .load 40 x, type := ty, pos := ps, after := af, guard := gd }).run Tryz.prog w = .ok (.value (.agg #[v0, v1])) w := by generalize A.eval = ev at *; simp [execOp, hx, h0, h1, go_sem]
  exact does_value h ⟨rfl, Below.refl _ _⟩
theorem xt2_0 {u0 u1 : Value} (hx : A.eval x = .tuple #[u0, u1]) :
    Does Tryz.prog { dst := dst, op := .extract x 0, type := ty, pos := ps, after := af, guard := gd } A w fun v' w' => v' = u0 ∧ Below w.heap.size w w' := by
  have h : (execOp A.eval { dst := dst, op := .extract x 0, type := ty, pos := ps, after := af, guard := gd }).run Tryz.prog w = .ok (.value (u0)) w := by generalize A.eval = ev at *; simp [execOp, hx, go_sem]
  exact does_value h ⟨rfl, Below.refl _ _⟩
theorem xt2_1 {u0 u1 : Value} (hx : A.eval x = .tuple #[u0, u1]) :
    Does Tryz.prog { dst := dst, op := .extract x 1, type := ty, pos := ps, after := af, guard := gd } A w fun v' w' => v' = u1 ∧ Below w.heap.size w w' := by
  have h : (execOp A.eval { dst := dst, op := .extract x 1, type := ty, pos := ps, after := af, guard := gd }).run Tryz.prog w = .ok (.value (u1)) w := by generalize A.eval = ev at *; simp [execOp, hx, go_sem]
  exact does_value h ⟨rfl, Below.refl _ _⟩
end
theorem cf_laws_toPoint (args : Array Value) (w : World) : (callFunc 11 args).run Tryz.prog w = .ok (.enter 11 args) w := by kernel_rfl
theorem cf_spec_Check (args : Array Value) (w : World) : (callFunc 54 args).run Tryz.prog w = .ok (.enter 54 args) w := by kernel_rfl
theorem mad_lasts (ps : List Tri) (obs : List Obj) (hne : ∀ ob ∈ obs, ∃ cs T, ob = .cells cs T ∧ T ≠ 28) : G.Lasts (fun x w => Mad x ps w) obs :=
  ⟨fun x w w' h hb => h.keep hb, fun x w w' b ob ob' h hm hw hT => by
    obtain ⟨cs, T, rfl, hT'⟩ := hne ob hm
    obtain ⟨cur, h1, h2⟩ := h
    refine ⟨cur, ?_, h2⟩
    rw [hT.other x (fun e => ?_)]
    · exact h1
    · subst e
      rw [h1] at hw
      cases hw
      exact hT' rfl⟩
end Go.Proofs.YtjmhmajfkdglnaaGreatDoor
