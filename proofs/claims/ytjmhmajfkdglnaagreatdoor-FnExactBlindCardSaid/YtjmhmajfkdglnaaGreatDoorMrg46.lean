import Derived.Test.YtjmhmajfkdglnaaGreatDoorMrg45
import Derived.Test.YtjmhmajfkdglnaaGreatDoorMrg39
import Derived.Test.YtjmhmajfkdglnaaGreatDoorMrg42
import Derived.Test.YtjmhmajfkdglnaaGreatDoorMrg17
/-
  The program's Blind.
-/
namespace Go.Proofs.YtjmhmajfkdglnaaGreatDoor
open Go.RowKit M
set_option linter.unusedVariables false

theorem Bk.clash {W : World} {t t' : TypeId} {b : Nat} {cs cs' : Array Value} (h : Bk W t b cs) (h' : Bk W t' b cs') (hne : t ≠ t') : False := by
  unfold Bk at *
  rw [h] at h'
  cases h'
  exact hne rfl
section
variable (mode x y k : Int) (c : Bool) (input info cx : ByteArray) (q p s u : Pt) (F0 F1 F2 F3 F4 F5 F6 : FuncId) (T : TypeId) (z : Value) (a0 a2 : Addr) (w : World)
set_option maxRecDepth 100000 in
set_option maxHeartbeats 4000000 in
theorem biI_a
    (FP : ∀ w', Below w.heap.size w w' → Calls Tryz.prog 78 #[.int .i64 mode, .string info] w' fun e w'' => e = .returned (.tuple #[.agg #[.string ⟨#[]⟩, .string ⟨#[]⟩, .nilFunc, .nilFunc, .nilFunc, .nilFunc, .nilFunc, .nilFunc, .nilFunc], .iface T z]) ∧ Below w'.heap.size w' w'') :
    Calls Tryz.prog 46 #[.int .i64 mode, .string input, .string info, .agg #[.int .u64 x, .int .u64 y, .bool c], .int .u64 k] w fun e w' => e = .returned (.tuple #[.agg #[.int .u64 0, .int .u64 0, .bool false, .int .u64 0, .int .u64 0, .bool false], .iface T z]) ∧ Below w.heap.size w w' := by
  obtain ⟨X, hX⟩ : ∃ X, X = (w.alloc (Obj.cells #[.int .u64 x, .int .u64 y, .bool c] 28)).alloc (Obj.cells #[.int .u64 0, .int .u64 0, .bool false, .int .u64 0, .int .u64 0, .bool false] 30) := ⟨_, rfl⟩
  have r8 : Bk X 28 w.heap.size #[.int .u64 x, .int .u64 y, .bool c] := by rw [hX]; exact (Bk.new _ _ _).alloc _
  have r10 : Bk X 30 (w.heap.size + 1) #[.int .u64 0, .int .u64 0, .bool false, .int .u64 0, .int .u64 0, .bool false] := by rw [hX]; exact (Bk.new _ _ _).at (by simp)
  have hb : Below w.heap.size w X := by rw [hX]; exact ((Below.refl _ w).alloc (Nat.le_refl _) _).alloc (by simp) _
  rw [hX] at r8 r10 hb
  clear hX
  go_enter Tryz.func46, Tryz.ntmps46
  go_wp2_with fail
  refine (FP _ hb).mono ?_
  rintro e w1 ⟨rfl, b1⟩
  have hal := (Below.refl _ w1).alloc (Nat.le_refl _) (Obj.cells #[.string ⟨#[]⟩, .string ⟨#[]⟩, .nilFunc, .nilFunc, .nilFunc, .nilFunc, .nilFunc, .nilFunc, .nilFunc] 144)
  replace r8 := (r8.keep b1).keep hal
  replace r10 := (r10.keep b1).keep hal
  replace hb := hb.trans (b1.mono hb.size)
  replace hb := hb.trans (hal.mono hb.size)
  clear FP b1 hal
  have hth := r10.there 6 (by decide)
  go_wp2_with (refine wpList_store_mid rfl 30 _ _ rfl (w.heap.size + 1) 0 #[.int .u64 0, .int .u64 0, .bool false, .int .u64 0, .int .u64 0, .bool false] rfl rfl hth sizeBld (by kernel_rfl) ?_)
  exact bodyPost_ret (v := .tuple #[.agg #[.int .u64 0, .int .u64 0, .bool false, .int .u64 0, .int .u64 0, .bool false], .iface T z]) (bk_res2 (fn := Tryz.f46) (p := 10) (u := 11) Tryz.results46 _ rfl (r10.sets _ rfl) Tryz.underlying30 rfl sizeBld) rfl ⟨rfl, below_setCells hb (by omega) _ _⟩
variable (FP : ∀ w', Below w.heap.size w w' → Calls Tryz.prog 78 #[.int .i64 mode, .string info] w' fun e w'' => e = .returned (.tuple #[.agg #[.string cx, .string info, .func (.func F0) #[] #[], .func (.func F1) #[] #[], .func (.func F2) #[] #[], .func (.func F3) #[] #[], .func (.func F4) #[] #[], .func (.func F5) #[] #[], .func (.func F6) #[] #[]], .nilIface]) ∧ Below w'.heap.size w' w'')
include FP
set_option maxRecDepth 100000 in
set_option maxHeartbeats 4000000 in
theorem biI_b
    (EL : ∀ w', Below w.heap.size w w' → Calls Tryz.prog 85 #[.agg #[.int .u64 x, .int .u64 y, .bool c]] w' fun e w'' => e = .returned (.tuple #[.agg #[.int .u64 0, .int .u64 0, .bool true], sen a0]) ∧ Below w'.heap.size w' w'') :
    Calls Tryz.prog 46 #[.int .i64 mode, .string input, .string info, .agg #[.int .u64 x, .int .u64 y, .bool c], .int .u64 k] w fun e w' => e = .returned (.tuple #[.agg #[.int .u64 0, .int .u64 0, .bool false, .int .u64 0, .int .u64 0, .bool false], flt ⟨#[112, 117, 98, 108, 105, 99]⟩ (sen a0)]) ∧ Below w.heap.size w w' := by
  unfold flt sen at *
  obtain ⟨X, hX⟩ : ∃ X, X = (w.alloc (Obj.cells #[.int .u64 x, .int .u64 y, .bool c] 28)).alloc (Obj.cells #[.int .u64 0, .int .u64 0, .bool false, .int .u64 0, .int .u64 0, .bool false] 30) := ⟨_, rfl⟩
  have r8 : Bk X 28 w.heap.size #[.int .u64 x, .int .u64 y, .bool c] := by rw [hX]; exact (Bk.new _ _ _).alloc _
  have r10 : Bk X 30 (w.heap.size + 1) #[.int .u64 0, .int .u64 0, .bool false, .int .u64 0, .int .u64 0, .bool false] := by rw [hX]; exact (Bk.new _ _ _).at (by simp)
  have hb : Below w.heap.size w X := by rw [hX]; exact ((Below.refl _ w).alloc (Nat.le_refl _) _).alloc (by simp) _
  rw [hX] at r8 r10 hb
  clear hX
  go_enter Tryz.func46, Tryz.ntmps46
  go_wp2_with fail
  refine (FP _ hb).mono ?_
  rintro e w1 ⟨rfl, b1⟩
  have hal := (Below.refl _ w1).alloc (Nat.le_refl _) (Obj.cells #[.string cx, .string info, .func (.func F0) #[] #[], .func (.func F1) #[] #[], .func (.func F2) #[] #[], .func (.func F3) #[] #[], .func (.func F4) #[] #[], .func (.func F5) #[] #[], .func (.func F6) #[] #[]] 144)
  have r12 := Bk.new w1 144 #[.string cx, .string info, .func (.func F0) #[] #[], .func (.func F1) #[] #[], .func (.func F2) #[] #[], .func (.func F3) #[] #[], .func (.func F4) #[] #[], .func (.func F5) #[] #[], .func (.func F6) #[] #[]]
  replace r8 := (r8.keep b1).keep hal
  replace r10 := (r10.keep b1).keep hal
  replace hb := hb.trans (b1.mono hb.size)
  replace hb := hb.trans (hal.mono hb.size)
  clear FP b1 hal
  have p0 := r8.cell (k := 0) rfl
  have p1 := r8.cell (k := 1) rfl
  have p2 := r8.cell (k := 2) rfl
  go_wp2_with fail
  refine (EL _ hb).mono ?_
  rintro e w2 ⟨rfl, b1⟩
  have hal := (Below.refl _ w2).alloc (Nat.le_refl _) (Obj.cells #[.int .u64 0, .int .u64 0, .bool true] 106)
  replace r10 := (r10.keep b1).keep hal
  replace hb := hb.trans (b1.mono hb.size)
  replace hb := hb.trans (hal.mono hb.size)
  clear EL p0 p1 p2 b1 hal
  have hth := r10.there 6 (by decide)
  go_wp2_with (refine wpList_store_mid rfl 30 _ _ rfl (w.heap.size + 1) 0 #[.int .u64 0, .int .u64 0, .bool false, .int .u64 0, .int .u64 0, .bool false] rfl rfl hth sizeBld (by kernel_rfl) ?_)
  exact bodyPost_ret (v := .tuple #[.agg #[.int .u64 0, .int .u64 0, .bool false, .int .u64 0, .int .u64 0, .bool false], flt ⟨#[112, 117, 98, 108, 105, 99]⟩ (sen a0)]) (bk_res2 (fn := Tryz.f46) (p := 10) (u := 11) Tryz.results46 _ rfl (r10.sets _ rfl) Tryz.underlying30 rfl sizeBld) rfl ⟨rfl, below_setCells hb (by omega) _ _⟩
variable (EL : ∀ w', Below w.heap.size w w' → Calls Tryz.prog 85 #[.agg #[.int .u64 x, .int .u64 y, .bool c]] w' fun e w'' => e = .returned (.tuple #[.agg #[.int .u64 (px q), .int .u64 (py q), .bool (pb q)], .nilIface]) ∧ Below w'.heap.size w' w'')
include EL
set_option maxRecDepth 100000 in
set_option maxHeartbeats 4000000 in
theorem biI_c
    (FF : ∀ w', Below w.heap.size w w' → Calls Tryz.prog 79 #[.int .u64 k] w' fun e w'' => e = .returned (.tuple #[.agg #[.int .u64 0], sen a0]) ∧ Below w'.heap.size w' w'') :
    Calls Tryz.prog 46 #[.int .i64 mode, .string input, .string info, .agg #[.int .u64 x, .int .u64 y, .bool c], .int .u64 k] w fun e w' => e = .returned (.tuple #[.agg #[.int .u64 0, .int .u64 0, .bool false, .int .u64 0, .int .u64 0, .bool false], flt ⟨#[98, 108, 105, 110, 100]⟩ (sen a0)]) ∧ Below w.heap.size w w' := by
  unfold flt sen at *
  obtain ⟨X, hX⟩ : ∃ X, X = (w.alloc (Obj.cells #[.int .u64 x, .int .u64 y, .bool c] 28)).alloc (Obj.cells #[.int .u64 0, .int .u64 0, .bool false, .int .u64 0, .int .u64 0, .bool false] 30) := ⟨_, rfl⟩
  have r8 : Bk X 28 w.heap.size #[.int .u64 x, .int .u64 y, .bool c] := by rw [hX]; exact (Bk.new _ _ _).alloc _
  have r10 : Bk X 30 (w.heap.size + 1) #[.int .u64 0, .int .u64 0, .bool false, .int .u64 0, .int .u64 0, .bool false] := by rw [hX]; exact (Bk.new _ _ _).at (by simp)
  have hb : Below w.heap.size w X := by rw [hX]; exact ((Below.refl _ w).alloc (Nat.le_refl _) _).alloc (by simp) _
  rw [hX] at r8 r10 hb
  clear hX
  go_enter Tryz.func46, Tryz.ntmps46
  go_wp2_with fail
  refine (FP _ hb).mono ?_
  rintro e w1 ⟨rfl, b1⟩
  have hal := (Below.refl _ w1).alloc (Nat.le_refl _) (Obj.cells #[.string cx, .string info, .func (.func F0) #[] #[], .func (.func F1) #[] #[], .func (.func F2) #[] #[], .func (.func F3) #[] #[], .func (.func F4) #[] #[], .func (.func F5) #[] #[], .func (.func F6) #[] #[]] 144)
  have r12 := Bk.new w1 144 #[.string cx, .string info, .func (.func F0) #[] #[], .func (.func F1) #[] #[], .func (.func F2) #[] #[], .func (.func F3) #[] #[], .func (.func F4) #[] #[], .func (.func F5) #[] #[], .func (.func F6) #[] #[]]
  replace r8 := (r8.keep b1).keep hal
  replace r10 := (r10.keep b1).keep hal
  replace hb := hb.trans (b1.mono hb.size)
  replace hb := hb.trans (hal.mono hb.size)
  clear FP b1 hal
  have p0 := r8.cell (k := 0) rfl
  have p1 := r8.cell (k := 1) rfl
  have p2 := r8.cell (k := 2) rfl
  go_wp2_with fail
  refine (EL _ hb).mono ?_
  rintro e w2 ⟨rfl, b1⟩
  have hal := (Below.refl _ w2).alloc (Nat.le_refl _) (Obj.cells #[.int .u64 (px q), .int .u64 (py q), .bool (pb q)] 106)
  have r14 := Bk.new w2 106 #[.int .u64 (px q), .int .u64 (py q), .bool (pb q)]
  replace r10 := (r10.keep b1).keep hal
  replace r12 := (r12.keep b1).keep hal
  replace hb := hb.trans (b1.mono hb.size)
  replace hb := hb.trans (hal.mono hb.size)
  clear EL p0 p1 p2 b1 hal
  go_wp2_with fail
  refine (FF _ hb).mono ?_
  rintro e w3 ⟨rfl, b1⟩
  have hal := (Below.refl _ w3).alloc (Nat.le_refl _) (Obj.cells #[.int .u64 0] 117)
  replace r10 := (r10.keep b1).keep hal
  replace hb := hb.trans (b1.mono hb.size)
  replace hb := hb.trans (hal.mono hb.size)
  clear FF b1 hal
  have hth := r10.there 6 (by decide)
  go_wp2_with (refine wpList_store_mid rfl 30 _ _ rfl (w.heap.size + 1) 0 #[.int .u64 0, .int .u64 0, .bool false, .int .u64 0, .int .u64 0, .bool false] rfl rfl hth sizeBld (by kernel_rfl) ?_)
  exact bodyPost_ret (v := .tuple #[.agg #[.int .u64 0, .int .u64 0, .bool false, .int .u64 0, .int .u64 0, .bool false], flt ⟨#[98, 108, 105, 110, 100]⟩ (sen a0)]) (bk_res2 (fn := Tryz.f46) (p := 10) (u := 11) Tryz.results46 _ rfl (r10.sets _ rfl) Tryz.underlying30 rfl sizeBld) rfl ⟨rfl, below_setCells hb (by omega) _ _⟩
variable (FF : ∀ w', Below w.heap.size w w' → Calls Tryz.prog 79 #[.int .u64 k] w' fun e w'' => e = .returned (.tuple #[.agg #[.int .u64 k], .nilIface]) ∧ Below w'.heap.size w' w'')
include FF
set_option maxRecDepth 100000 in
set_option maxHeartbeats 4000000 in
theorem biI_d
    (GR : ∀ w', Below w.heap.size w w' → Calls Tryz.prog 80 #[.agg #[.string cx, .string info, .func (.func F0) #[] #[], .func (.func F1) #[] #[], .func (.func F2) #[] #[], .func (.func F3) #[] #[], .func (.func F4) #[] #[], .func (.func F5) #[] #[], .func (.func F6) #[] #[]], .string input] w' fun e w'' => e = .returned (.tuple #[.agg #[.int .u64 (px p), .int .u64 (py p), .bool (pb p)], .iface T z]) ∧ Below w'.heap.size w' w'') :
    Calls Tryz.prog 46 #[.int .i64 mode, .string input, .string info, .agg #[.int .u64 x, .int .u64 y, .bool c], .int .u64 k] w fun e w' => e = .returned (.tuple #[.agg #[.int .u64 0, .int .u64 0, .bool false, .int .u64 0, .int .u64 0, .bool false], .iface T z]) ∧ Below w.heap.size w w' := by
  obtain ⟨X, hX⟩ : ∃ X, X = (w.alloc (Obj.cells #[.int .u64 x, .int .u64 y, .bool c] 28)).alloc (Obj.cells #[.int .u64 0, .int .u64 0, .bool false, .int .u64 0, .int .u64 0, .bool false] 30) := ⟨_, rfl⟩
  have r8 : Bk X 28 w.heap.size #[.int .u64 x, .int .u64 y, .bool c] := by rw [hX]; exact (Bk.new _ _ _).alloc _
  have r10 : Bk X 30 (w.heap.size + 1) #[.int .u64 0, .int .u64 0, .bool false, .int .u64 0, .int .u64 0, .bool false] := by rw [hX]; exact (Bk.new _ _ _).at (by simp)
  have hb : Below w.heap.size w X := by rw [hX]; exact ((Below.refl _ w).alloc (Nat.le_refl _) _).alloc (by simp) _
  rw [hX] at r8 r10 hb
  clear hX
  go_enter Tryz.func46, Tryz.ntmps46
  go_wp2_with fail
  refine (FP _ hb).mono ?_
  rintro e w1 ⟨rfl, b1⟩
  have hal := (Below.refl _ w1).alloc (Nat.le_refl _) (Obj.cells #[.string cx, .string info, .func (.func F0) #[] #[], .func (.func F1) #[] #[], .func (.func F2) #[] #[], .func (.func F3) #[] #[], .func (.func F4) #[] #[], .func (.func F5) #[] #[], .func (.func F6) #[] #[]] 144)
  have r12 := Bk.new w1 144 #[.string cx, .string info, .func (.func F0) #[] #[], .func (.func F1) #[] #[], .func (.func F2) #[] #[], .func (.func F3) #[] #[], .func (.func F4) #[] #[], .func (.func F5) #[] #[], .func (.func F6) #[] #[]]
  replace r8 := (r8.keep b1).keep hal
  replace r10 := (r10.keep b1).keep hal
  replace hb := hb.trans (b1.mono hb.size)
  replace hb := hb.trans (hal.mono hb.size)
  clear FP b1 hal
  have p0 := r8.cell (k := 0) rfl
  have p1 := r8.cell (k := 1) rfl
  have p2 := r8.cell (k := 2) rfl
  go_wp2_with fail
  refine (EL _ hb).mono ?_
  rintro e w2 ⟨rfl, b1⟩
  have hal := (Below.refl _ w2).alloc (Nat.le_refl _) (Obj.cells #[.int .u64 (px q), .int .u64 (py q), .bool (pb q)] 106)
  have r14 := Bk.new w2 106 #[.int .u64 (px q), .int .u64 (py q), .bool (pb q)]
  replace r10 := (r10.keep b1).keep hal
  replace r12 := (r12.keep b1).keep hal
  replace hb := hb.trans (b1.mono hb.size)
  replace hb := hb.trans (hal.mono hb.size)
  clear EL p0 p1 p2 b1 hal
  go_wp2_with fail
  refine (FF _ hb).mono ?_
  rintro e w3 ⟨rfl, b1⟩
  have hal := (Below.refl _ w3).alloc (Nat.le_refl _) (Obj.cells #[.int .u64 k] 117)
  have r15 := Bk.new w3 117 #[.int .u64 k]
  replace r10 := (r10.keep b1).keep hal
  replace r12 := (r12.keep b1).keep hal
  replace r14 := (r14.keep b1).keep hal
  replace hb := hb.trans (b1.mono hb.size)
  replace hb := hb.trans (hal.mono hb.size)
  clear FF b1 hal
  have d0 := r12.cell (k := 0) rfl
  have d1 := r12.cell (k := 1) rfl
  have d2 := r12.cell (k := 2) rfl
  have d3 := r12.cell (k := 3) rfl
  have d4 := r12.cell (k := 4) rfl
  have d5 := r12.cell (k := 5) rfl
  have d6 := r12.cell (k := 6) rfl
  have d7 := r12.cell (k := 7) rfl
  have d8 := r12.cell (k := 8) rfl
  go_wp2_with fail
  refine (GR _ hb).mono ?_
  rintro e w4 ⟨rfl, b1⟩
  have hal := (Below.refl _ w4).alloc (Nat.le_refl _) (Obj.cells #[.int .u64 (px p), .int .u64 (py p), .bool (pb p)] 106)
  replace r10 := (r10.keep b1).keep hal
  replace hb := hb.trans (b1.mono hb.size)
  replace hb := hb.trans (hal.mono hb.size)
  clear GR d0 d1 d2 d3 d4 d5 d6 d7 d8 b1 hal
  have hth := r10.there 6 (by decide)
  go_wp2_with (refine wpList_store_mid rfl 30 _ _ rfl (w.heap.size + 1) 0 #[.int .u64 0, .int .u64 0, .bool false, .int .u64 0, .int .u64 0, .bool false] rfl rfl hth sizeBld (by kernel_rfl) ?_)
  exact bodyPost_ret (v := .tuple #[.agg #[.int .u64 0, .int .u64 0, .bool false, .int .u64 0, .int .u64 0, .bool false], .iface T z]) (bk_res2 (fn := Tryz.f46) (p := 10) (u := 11) Tryz.results46 _ rfl (r10.sets _ rfl) Tryz.underlying30 rfl sizeBld) rfl ⟨rfl, below_setCells hb (by omega) _ _⟩
variable (GR : ∀ w', Below w.heap.size w w' → Calls Tryz.prog 80 #[.agg #[.string cx, .string info, .func (.func F0) #[] #[], .func (.func F1) #[] #[], .func (.func F2) #[] #[], .func (.func F3) #[] #[], .func (.func F4) #[] #[], .func (.func F5) #[] #[], .func (.func F6) #[] #[]], .string input] w' fun e w'' => e = .returned (.tuple #[.agg #[.int .u64 (px p), .int .u64 (py p), .bool (pb p)], .nilIface]) ∧ Below w'.heap.size w' w'')
    (E3 : ∀ (args : Array Value) (w : World), (callFunc F3 args).run Tryz.prog w = .ok (.enter F3 args) w)
include GR E3
set_option maxRecDepth 100000 in
set_option maxHeartbeats 4000000 in
theorem biI_e
    (TW : ∀ w', Below w.heap.size w w' → Calls Tryz.prog F3 #[.agg #[.string cx, .string info], .agg #[.int .u64 (px q), .int .u64 (py q), .bool (pb q)]] w' fun e w'' => e = .returned (.tuple #[.agg #[.int .u64 (px s), .int .u64 (py s), .bool (pb s)], sen a2]) ∧ Below w'.heap.size w' w'') :
    Calls Tryz.prog 46 #[.int .i64 mode, .string input, .string info, .agg #[.int .u64 x, .int .u64 y, .bool c], .int .u64 k] w fun e w' => e = .returned (.tuple #[.agg #[.int .u64 0, .int .u64 0, .bool false, .int .u64 0, .int .u64 0, .bool false], flt ⟨#[112, 117, 98, 108, 105, 99, 32, 97, 110, 100, 32, 105, 110, 102, 111]⟩ (sen a2)]) ∧ Below w.heap.size w w' := by
  unfold flt sen at *
  obtain ⟨X, hX⟩ : ∃ X, X = (w.alloc (Obj.cells #[.int .u64 x, .int .u64 y, .bool c] 28)).alloc (Obj.cells #[.int .u64 0, .int .u64 0, .bool false, .int .u64 0, .int .u64 0, .bool false] 30) := ⟨_, rfl⟩
  have r8 : Bk X 28 w.heap.size #[.int .u64 x, .int .u64 y, .bool c] := by rw [hX]; exact (Bk.new _ _ _).alloc _
  have r10 : Bk X 30 (w.heap.size + 1) #[.int .u64 0, .int .u64 0, .bool false, .int .u64 0, .int .u64 0, .bool false] := by rw [hX]; exact (Bk.new _ _ _).at (by simp)
  have hb : Below w.heap.size w X := by rw [hX]; exact ((Below.refl _ w).alloc (Nat.le_refl _) _).alloc (by simp) _
  rw [hX] at r8 r10 hb
  clear hX
  go_enter Tryz.func46, Tryz.ntmps46
  go_wp2_with fail
  refine (FP _ hb).mono ?_
  rintro e w1 ⟨rfl, b1⟩
  have hal := (Below.refl _ w1).alloc (Nat.le_refl _) (Obj.cells #[.string cx, .string info, .func (.func F0) #[] #[], .func (.func F1) #[] #[], .func (.func F2) #[] #[], .func (.func F3) #[] #[], .func (.func F4) #[] #[], .func (.func F5) #[] #[], .func (.func F6) #[] #[]] 144)
  have r12 := Bk.new w1 144 #[.string cx, .string info, .func (.func F0) #[] #[], .func (.func F1) #[] #[], .func (.func F2) #[] #[], .func (.func F3) #[] #[], .func (.func F4) #[] #[], .func (.func F5) #[] #[], .func (.func F6) #[] #[]]
  replace r8 := (r8.keep b1).keep hal
  replace r10 := (r10.keep b1).keep hal
  replace hb := hb.trans (b1.mono hb.size)
  replace hb := hb.trans (hal.mono hb.size)
  clear FP b1 hal
  have p0 := r8.cell (k := 0) rfl
  have p1 := r8.cell (k := 1) rfl
  have p2 := r8.cell (k := 2) rfl
  go_wp2_with fail
  refine (EL _ hb).mono ?_
  rintro e w2 ⟨rfl, b1⟩
  have hal := (Below.refl _ w2).alloc (Nat.le_refl _) (Obj.cells #[.int .u64 (px q), .int .u64 (py q), .bool (pb q)] 106)
  have r14 := Bk.new w2 106 #[.int .u64 (px q), .int .u64 (py q), .bool (pb q)]
  replace r10 := (r10.keep b1).keep hal
  replace r12 := (r12.keep b1).keep hal
  replace hb := hb.trans (b1.mono hb.size)
  replace hb := hb.trans (hal.mono hb.size)
  clear EL p0 p1 p2 b1 hal
  go_wp2_with fail
  refine (FF _ hb).mono ?_
  rintro e w3 ⟨rfl, b1⟩
  have hal := (Below.refl _ w3).alloc (Nat.le_refl _) (Obj.cells #[.int .u64 k] 117)
  have r15 := Bk.new w3 117 #[.int .u64 k]
  replace r10 := (r10.keep b1).keep hal
  replace r12 := (r12.keep b1).keep hal
  replace r14 := (r14.keep b1).keep hal
  replace hb := hb.trans (b1.mono hb.size)
  replace hb := hb.trans (hal.mono hb.size)
  clear FF b1 hal
  have d0 := r12.cell (k := 0) rfl
  have d1 := r12.cell (k := 1) rfl
  have d2 := r12.cell (k := 2) rfl
  have d3 := r12.cell (k := 3) rfl
  have d4 := r12.cell (k := 4) rfl
  have d5 := r12.cell (k := 5) rfl
  have d6 := r12.cell (k := 6) rfl
  have d7 := r12.cell (k := 7) rfl
  have d8 := r12.cell (k := 8) rfl
  go_wp2_with fail
  refine (GR _ hb).mono ?_
  rintro e w4 ⟨rfl, b1⟩
  have hal := (Below.refl _ w4).alloc (Nat.le_refl _) (Obj.cells #[.int .u64 (px p), .int .u64 (py p), .bool (pb p)] 106)
  have r16 := Bk.new w4 106 #[.int .u64 (px p), .int .u64 (py p), .bool (pb p)]
  replace r10 := (r10.keep b1).keep hal
  replace r12 := (r12.keep b1).keep hal
  replace r14 := (r14.keep b1).keep hal
  replace r15 := (r15.keep b1).keep hal
  replace hb := hb.trans (b1.mono hb.size)
  replace hb := hb.trans (hal.mono hb.size)
  clear GR d0 d1 d2 d3 d4 d5 d6 d7 d8 b1 hal
  have d0 := r12.cell (k := 0) rfl
  have d1 := r12.cell (k := 1) rfl
  have d5 := r12.cell (k := 5) rfl
  have q0 := r14.cell (k := 0) rfl
  have q1 := r14.cell (k := 1) rfl
  have q2 := r14.cell (k := 2) rfl
  go_wp2_with fail
  refine (TW _ hb).mono ?_
  rintro e w5 ⟨rfl, b1⟩
  have hal := (Below.refl _ w5).alloc (Nat.le_refl _) (Obj.cells #[.int .u64 (px s), .int .u64 (py s), .bool (pb s)] 106)
  replace r10 := (r10.keep b1).keep hal
  replace hb := hb.trans (b1.mono hb.size)
  replace hb := hb.trans (hal.mono hb.size)
  clear TW d0 d1 d5 q0 q1 q2 b1 hal
  have hth := r10.there 6 (by decide)
  go_wp2_with (refine wpList_store_mid rfl 30 _ _ rfl (w.heap.size + 1) 0 #[.int .u64 0, .int .u64 0, .bool false, .int .u64 0, .int .u64 0, .bool false] rfl rfl hth sizeBld (by kernel_rfl) ?_)
  exact bodyPost_ret (v := .tuple #[.agg #[.int .u64 0, .int .u64 0, .bool false, .int .u64 0, .int .u64 0, .bool false], flt ⟨#[112, 117, 98, 108, 105, 99, 32, 97, 110, 100, 32, 105, 110, 102, 111]⟩ (sen a2)]) (bk_res2 (fn := Tryz.f46) (p := 10) (u := 11) Tryz.results46 _ rfl (r10.sets _ rfl) Tryz.underlying30 rfl sizeBld) rfl ⟨rfl, below_setCells hb (by omega) _ _⟩
set_option maxRecDepth 100000 in
set_option maxHeartbeats 4000000 in
theorem biI_f
    (TW : ∀ w', Below w.heap.size w w' → Calls Tryz.prog F3 #[.agg #[.string cx, .string info], .agg #[.int .u64 (px q), .int .u64 (py q), .bool (pb q)]] w' fun e w'' => e = .returned (.tuple #[.agg #[.int .u64 (px s), .int .u64 (py s), .bool (pb s)], .nilIface]) ∧ Below w'.heap.size w' w'')
    (TM : ∀ w, Calls Tryz.prog 68 #[.agg #[.int .u64 (px p), .int .u64 (py p), .bool (pb p)], .int .u64 k] w fun e w' => e = .returned (.agg #[.int .u64 (px u), .int .u64 (py u), .bool (pb u)]) ∧ Below w.heap.size w w') :
    Calls Tryz.prog 46 #[.int .i64 mode, .string input, .string info, .agg #[.int .u64 x, .int .u64 y, .bool c], .int .u64 k] w fun e w' => e = .returned (.tuple #[.agg #[.int .u64 (px u), .int .u64 (py u), .bool (pb u), .int .u64 (px s), .int .u64 (py s), .bool (pb s)], .nilIface]) ∧ Below w.heap.size w w' := by
  obtain ⟨X, hX⟩ : ∃ X, X = (w.alloc (Obj.cells #[.int .u64 x, .int .u64 y, .bool c] 28)).alloc (Obj.cells #[.int .u64 0, .int .u64 0, .bool false, .int .u64 0, .int .u64 0, .bool false] 30) := ⟨_, rfl⟩
  have r8 : Bk X 28 w.heap.size #[.int .u64 x, .int .u64 y, .bool c] := by rw [hX]; exact (Bk.new _ _ _).alloc _
  have r10 : Bk X 30 (w.heap.size + 1) #[.int .u64 0, .int .u64 0, .bool false, .int .u64 0, .int .u64 0, .bool false] := by rw [hX]; exact (Bk.new _ _ _).at (by simp)
  have hb : Below w.heap.size w X := by rw [hX]; exact ((Below.refl _ w).alloc (Nat.le_refl _) _).alloc (by simp) _
  rw [hX] at r8 r10 hb
  clear hX
  go_enter Tryz.func46, Tryz.ntmps46
  go_wp2_with fail
  refine (FP _ hb).mono ?_
  rintro e w1 ⟨rfl, b1⟩
  have hal := (Below.refl _ w1).alloc (Nat.le_refl _) (Obj.cells #[.string cx, .string info, .func (.func F0) #[] #[], .func (.func F1) #[] #[], .func (.func F2) #[] #[], .func (.func F3) #[] #[], .func (.func F4) #[] #[], .func (.func F5) #[] #[], .func (.func F6) #[] #[]] 144)
  have r12 := Bk.new w1 144 #[.string cx, .string info, .func (.func F0) #[] #[], .func (.func F1) #[] #[], .func (.func F2) #[] #[], .func (.func F3) #[] #[], .func (.func F4) #[] #[], .func (.func F5) #[] #[], .func (.func F6) #[] #[]]
  replace r8 := (r8.keep b1).keep hal
  replace r10 := (r10.keep b1).keep hal
  replace hb := hb.trans (b1.mono hb.size)
  replace hb := hb.trans (hal.mono hb.size)
  clear FP b1 hal
  have p0 := r8.cell (k := 0) rfl
  have p1 := r8.cell (k := 1) rfl
  have p2 := r8.cell (k := 2) rfl
  go_wp2_with fail
  refine (EL _ hb).mono ?_
  rintro e w2 ⟨rfl, b1⟩
  have hal := (Below.refl _ w2).alloc (Nat.le_refl _) (Obj.cells #[.int .u64 (px q), .int .u64 (py q), .bool (pb q)] 106)
  have r14 := Bk.new w2 106 #[.int .u64 (px q), .int .u64 (py q), .bool (pb q)]
  replace r10 := (r10.keep b1).keep hal
  replace r12 := (r12.keep b1).keep hal
  replace hb := hb.trans (b1.mono hb.size)
  replace hb := hb.trans (hal.mono hb.size)
  clear EL p0 p1 p2 b1 hal
  go_wp2_with fail
  refine (FF _ hb).mono ?_
  rintro e w3 ⟨rfl, b1⟩
  have hal := (Below.refl _ w3).alloc (Nat.le_refl _) (Obj.cells #[.int .u64 k] 117)
  have r15 := Bk.new w3 117 #[.int .u64 k]
  replace r10 := (r10.keep b1).keep hal
  replace r12 := (r12.keep b1).keep hal
  replace r14 := (r14.keep b1).keep hal
  replace hb := hb.trans (b1.mono hb.size)
  replace hb := hb.trans (hal.mono hb.size)
  clear FF b1 hal
  have d0 := r12.cell (k := 0) rfl
  have d1 := r12.cell (k := 1) rfl
  have d2 := r12.cell (k := 2) rfl
  have d3 := r12.cell (k := 3) rfl
  have d4 := r12.cell (k := 4) rfl
  have d5 := r12.cell (k := 5) rfl
  have d6 := r12.cell (k := 6) rfl
  have d7 := r12.cell (k := 7) rfl
  have d8 := r12.cell (k := 8) rfl
  go_wp2_with fail
  refine (GR _ hb).mono ?_
  rintro e w4 ⟨rfl, b1⟩
  have hal := (Below.refl _ w4).alloc (Nat.le_refl _) (Obj.cells #[.int .u64 (px p), .int .u64 (py p), .bool (pb p)] 106)
  have r16 := Bk.new w4 106 #[.int .u64 (px p), .int .u64 (py p), .bool (pb p)]
  replace r10 := (r10.keep b1).keep hal
  replace r12 := (r12.keep b1).keep hal
  replace r14 := (r14.keep b1).keep hal
  replace r15 := (r15.keep b1).keep hal
  replace hb := hb.trans (b1.mono hb.size)
  replace hb := hb.trans (hal.mono hb.size)
  clear GR d0 d1 d2 d3 d4 d5 d6 d7 d8 b1 hal
  have d0 := r12.cell (k := 0) rfl
  have d1 := r12.cell (k := 1) rfl
  have d5 := r12.cell (k := 5) rfl
  have q0 := r14.cell (k := 0) rfl
  have q1 := r14.cell (k := 1) rfl
  have q2 := r14.cell (k := 2) rfl
  go_wp2_with fail
  refine (TW _ hb).mono ?_
  rintro e w5 ⟨rfl, b1⟩
  have hal := (Below.refl _ w5).alloc (Nat.le_refl _) (Obj.cells #[.int .u64 (px s), .int .u64 (py s), .bool (pb s)] 106)
  have r17 := Bk.new w5 106 #[.int .u64 (px s), .int .u64 (py s), .bool (pb s)]
  replace r10 := (r10.keep b1).keep hal
  replace r15 := (r15.keep b1).keep hal
  replace r16 := (r16.keep b1).keep hal
  replace hb := hb.trans (b1.mono hb.size)
  replace hb := hb.trans (hal.mono hb.size)
  clear TW d0 d1 d5 q0 q1 q2 b1 hal
  have y0 := r15.cell (k := 0) rfl
  go_wp2
  clear y0
  generalize w5.alloc _ = W5 at *
  have m15 := r15
  generalize w3.heap.size = BF at *
  generalize w4.heap.size = BG at *
  generalize w5.heap.size = BT at *
  have q0 : W5.drew.cell? ⟨BG, 0, none⟩ = _ := r16.cell (k := 0) rfl
  have q1 : W5.drew.cell? ⟨BG, 1, none⟩ = _ := r16.cell (k := 1) rfl
  have q2 : W5.drew.cell? ⟨BG, 2, none⟩ = _ := r16.cell (k := 2) rfl
  have t0 : W5.drew.cell? ⟨BT, 0, none⟩ = _ := r17.cell (k := 0) rfl
  have t1 : W5.drew.cell? ⟨BT, 1, none⟩ = _ := r17.cell (k := 1) rfl
  have t2 : W5.drew.cell? ⟨BT, 2, none⟩ = _ := r17.cell (k := 2) rfl
  have y0 : W5.drew.cell? ⟨BF, 0, none⟩ = _ := r15.cell (k := 0) rfl
  have nG : BG ∉ [w.heap.size + 1] := fun h => by have e := List.mem_singleton.1 h; subst e; exact Bk.clash r10 r16 (by decide)
  have nT : BT ∉ [w.heap.size + 1] := fun h => by have e := List.mem_singleton.1 h; subst e; exact Bk.clash r10 r17 (by decide)
  have nF : BF ∉ [w.heap.size + 1] := fun h => by have e := List.mem_singleton.1 h; subst e; exact Bk.clash r10 r15 (by decide)
  have l1 : w.heap.size + 1 < W5.drew.heap.size := r10.lt
  refine G.pool_list (W := W5) [w.heap.size + 1] [.val (.agg #[.int .u64 (px p), .int .u64 (py p), .bool (pb p)]),
      .val (.pointer (some ⟨BF, 0, none⟩)),
      .val (.int .u64 k),
      .val (.agg #[.int .u64 (px u), .int .u64 (py u), .bool (pb u)]),
      .val (.agg #[.int .u64 (px u), .int .u64 (py u), .bool (pb u)]),
      .val (.pointer (some ⟨BT, 0, none⟩)),
      .val (.agg #[.int .u64 (px s), .int .u64 (py s), .bool (pb s)]),
      .val (.agg #[.int .u64 (px u), .int .u64 (py u), .bool (pb u), .int .u64 (px s), .int .u64 (py s), .bool (pb s)]),
      .set (w.heap.size + 1) (.cells #[.int .u64 0, .int .u64 0, .bool false, .int .u64 0, .int .u64 0, .bool false] 30) (.cells #[.int .u64 (px u), .int .u64 (py u), .bool (pb u), .int .u64 (px s), .int .u64 (py s), .bool (pb s)] 30),
      .val (.nilIface)] [[16], [15], [77], [76, 78], [79], [17], [81], [80, 82], [10, 83], []] (fun f => [(some 76, .agg #[.int .u64 (px p), .int .u64 (py p), .bool (pb p)]), (some 77, .pointer (some ⟨BF, 0, none⟩)), (some 78, .int .u64 k), (some 79, .agg #[.int .u64 (px u), .int .u64 (py u), .bool (pb u)]), (some 80, .agg #[.int .u64 (px u), .int .u64 (py u), .bool (pb u)]), (some 81, .pointer (some ⟨BT, 0, none⟩)), (some 82, .agg #[.int .u64 (px s), .int .u64 (py s), .bool (pb s)]), (some 83, .agg #[.int .u64 (px u), .int .u64 (py u), .bool (pb u), .int .u64 (px s), .int .u64 (py s), .bool (pb s)]), (none, undef), (some 11, .nilIface)]) (by kernel_rfl) (by kernel_rfl) (by kernel_rfl) (by kernel_rfl) (fun _ => by kernel_rfl) (G.last_of [.cells #[.int .u64 0, .int .u64 0, .bool false, .int .u64 0, .int .u64 0, .bool false] 30] (fun F R hm => by simp at hm) (fun ob ob' k hm => by simp at hm) (fun b ob ob' hm => by simp at hm; simp [hm])) (fun b ob ob' hm => by simp at hm; obtain ⟨rfl, rfl, -⟩ := hm; exact r10) ?_ ?_
  · intro ix hix
    match ix, hix with
    | 0, _ => exact G.ob_val [(16, .pointer (some ⟨BG, 0, none⟩))] rfl rfl (fun _ => by kernel_rfl) (fun A w ⟨e0, _⟩ hB => ld_cp e0 (hB.cell q0 nG) (hB.cell q1 nG) (hB.cell q2 nG))
    | 1, _ => exact G.ob_val [(15, .pointer (some ⟨BF, 0, none⟩))] rfl rfl (fun _ => by kernel_rfl) (fun A w ⟨e0, _⟩ hB => fa_nN1 e0)
    | 2, _ => exact G.ob_val [(77, .pointer (some ⟨BF, 0, none⟩))] rfl rfl (fun _ => by kernel_rfl) (fun A w ⟨e0, _⟩ hB => ld_u64 e0 (hB.cell y0 nF))
    | 3, _ => exact G.ob_val [(76, .agg #[.int .u64 (px p), .int .u64 (py p), .bool (pb p)]), (78, .int .u64 k)] rfl rfl (fun _ => by kernel_rfl) (fun A w ⟨e0, e1, _⟩ hB => cl2 cf_impl_curvePoint_times e0 e1 (TM w))
    | 4, _ => exact G.ob_val [(79, .agg #[.int .u64 (px u), .int .u64 (py u), .bool (pb u)])] rfl rfl (fun _ => by kernel_rfl) (fun A w ⟨e0, _⟩ hB => fl_cp0 e0)
    | 5, _ => exact G.ob_val [(17, .pointer (some ⟨BT, 0, none⟩))] rfl rfl (fun _ => by kernel_rfl) (fun A w ⟨e0, _⟩ hB => fa_cpt0 e0)
    | 6, _ => exact G.ob_val [(81, .pointer (some ⟨BT, 0, none⟩))] rfl rfl (fun _ => by kernel_rfl) (fun A w ⟨e0, _⟩ hB => ld_pt e0 (hB.cell t0 nT) (hB.cell t1 nT) (hB.cell t2 nT))
    | 7, _ => exact G.ob_val [(80, .agg #[.int .u64 (px u), .int .u64 (py u), .bool (pb u)]), (82, .agg #[.int .u64 (px s), .int .u64 (py s), .bool (pb s)])] rfl rfl (fun _ => by kernel_rfl) (fun A w ⟨e0, e1, _⟩ hB => bu_bld e0 e1)
    | 8, _ => exact G.ob_set (fun f => [(10, .pointer (some ⟨w.heap.size + 1, 0, none⟩)), (83, .agg #[.int .u64 (px u), .int .u64 (py u), .bool (pb u), .int .u64 (px s), .int .u64 (py s), .bool (pb s)])]) rfl rfl rfl (by simp) l1 (fun j ob1 ob2 h => by (rcases j with _ | _ | _ | _ | _ | _ | _ | _ | _ | _ | j) <;> simp [G.kindOf] at h ⊢ <;> omega) (fun _ => by kernel_rfl) (fun f A w ⟨e0, e1, _⟩ hh hr => pu_any e0 e1 hr rfl size_bld (by kernel_rfl))
    | 9, _ => exact G.ob_val [] rfl rfl (fun _ => by kernel_rfl) (fun A w _ hB => doV_assign rfl)
    | ix + 10, h => exact absurd h (by simp)
  intro f W6 hS _ _ _ hset
  have s10 : Bk W6 30 (w.heap.size + 1) #[.int .u64 (px u), .int .u64 (py u), .bool (pb u), .int .u64 (px s), .int .u64 (py s), .bool (pb s)] := hset 8 _ _ _ rfl (by decide)
  have hb6 : Below w.heap.size w W6 := hS.under hb.drew (by intro b h; rw [List.mem_singleton.1 h]; omega) hb.size
  clear hset hS q0 q1 q2 t0 t1 t2 y0
  simp only [puts, List.foldl, Act.put, List.setIfInBounds_toArray, List.set_cons_zero, List.set_cons_succ]
  go_wp2
  exact bodyPost_ret (v := .tuple #[.agg #[.int .u64 (px u), .int .u64 (py u), .bool (pb u), .int .u64 (px s), .int .u64 (py s), .bool (pb s)], .nilIface]) (bk_res2 (fn := Tryz.f46) (p := 10) (u := 11) Tryz.results46 _ rfl s10 Tryz.underlying30 rfl sizeBld) rfl ⟨rfl, hb6⟩
end
set_option maxRecDepth 100000 in
set_option maxHeartbeats 4000000 in
theorem ansB_ok (v0 v1 v3 v4 : Int) (v2 v5 : Bool) (w : World) :
    Calls Tryz.prog 45 #[.agg #[.int .u64 v0, .int .u64 v1, .bool v2, .int .u64 v3, .int .u64 v4, .bool v5], .nilIface] w fun e w' => e = .returned (.tuple #[.agg #[.int .u64 v0, .int .u64 v1, .bool v2, .int .u64 v3, .int .u64 v4, .bool v5], .int .i64 0]) ∧ Below w.heap.size w w' := by
  obtain ⟨X, hX⟩ : ∃ X, X = (w.alloc (Obj.cells #[.int .u64 v0, .int .u64 v1, .bool v2, .int .u64 v3, .int .u64 v4, .bool v5] 30)).alloc (Obj.cells #[.int .u64 0, .int .u64 0, .bool false, .int .u64 0, .int .u64 0, .bool false] 30) := ⟨_, rfl⟩
  have r2 : Bk X 30 w.heap.size #[.int .u64 v0, .int .u64 v1, .bool v2, .int .u64 v3, .int .u64 v4, .bool v5] := by rw [hX]; exact (Bk.new _ _ _).alloc _
  have r4 : Bk X 30 (w.heap.size + 1) #[.int .u64 0, .int .u64 0, .bool false, .int .u64 0, .int .u64 0, .bool false] := by rw [hX]; exact (Bk.new _ _ _).at (by simp)
  have hb : Below w.heap.size w X := by rw [hX]; exact ((Below.refl _ w).alloc (Nat.le_refl _) _).alloc (by simp) _
  rw [hX] at r2 r4 hb
  clear hX
  have z0 := r2.cell (k := 0) rfl
  have z1 := r2.cell (k := 1) rfl
  have z2 := r2.cell (k := 2) rfl
  have z3 := r2.cell (k := 3) rfl
  have z4 := r2.cell (k := 4) rfl
  have z5 := r2.cell (k := 5) rfl
  have hth := r4.there 6 (by decide)
  go_enter Tryz.func45, Tryz.ntmps45
  go_wp2_with (refine wpList_store_mid rfl 30 _ _ rfl (w.heap.size + 1) 0 #[.int .u64 v0, .int .u64 v1, .bool v2, .int .u64 v3, .int .u64 v4, .bool v5] rfl rfl hth sizeBld (by kernel_rfl) ?_)
  exact bodyPost_ret (v := .tuple #[.agg #[.int .u64 v0, .int .u64 v1, .bool v2, .int .u64 v3, .int .u64 v4, .bool v5], .int .i64 0]) (bk_res2 (fn := Tryz.f45) (p := 4) (u := 5) Tryz.results45 _ rfl (r4.sets _ rfl) Tryz.underlying30 rfl sizeBld) rfl ⟨rfl, below_setCells hb (by omega) _ _⟩
set_option maxRecDepth 100000 in
set_option maxHeartbeats 4000000 in
theorem ansB_err (v0 v1 v3 v4 cd : Int) (v2 v5 : Bool) (v : Value) (a0 a1 a2 a3 : Addr) (w : World) (hs : Sn w a0 a1 a2 a3) (hv : Er a0 a1 a2 a3 v cd) :
    Calls Tryz.prog 45 #[.agg #[.int .u64 v0, .int .u64 v1, .bool v2, .int .u64 v3, .int .u64 v4, .bool v5], v] w fun e w' => e = .returned (.tuple #[.agg #[.int .u64 0, .int .u64 0, .bool false, .int .u64 0, .int .u64 0, .bool false], .int .i64 cd]) ∧ Below w.heap.size w w' := by
  obtain ⟨⟨T, x, rfl⟩, C⟩ := hv
  obtain ⟨X, hX⟩ : ∃ X, X = ((w.alloc (Obj.cells #[.int .u64 v0, .int .u64 v1, .bool v2, .int .u64 v3, .int .u64 v4, .bool v5] 30)).alloc (Obj.cells #[.int .u64 0, .int .u64 0, .bool false, .int .u64 0, .int .u64 0, .bool false] 30)).alloc (Obj.cells #[.int .u64 0, .int .u64 0, .bool false, .int .u64 0, .int .u64 0, .bool false] 30) := ⟨_, rfl⟩
  have r4 : Bk X 30 (w.heap.size + 1) #[.int .u64 0, .int .u64 0, .bool false, .int .u64 0, .int .u64 0, .bool false] := by rw [hX]; exact ((Bk.new _ _ _).at (by simp)).alloc _
  have r6 : Bk X 30 (w.heap.size + 1 + 1) #[.int .u64 0, .int .u64 0, .bool false, .int .u64 0, .int .u64 0, .bool false] := by rw [hX]; exact (Bk.new _ _ _).at (by simp)
  have hb : Below w.heap.size w X := by rw [hX]; exact (((Below.refl _ w).alloc (Nat.le_refl _) _).alloc (by simp) _).alloc (by simp; omega) _
  go_enter Tryz.func45, Tryz.ntmps45
  go_wp2
  rw [← hX]
  clear hX
  have d0 : X.drew.cell? ⟨w.heap.size + 1 + 1, 0, none⟩ = _ := r6.cell (k := 0) rfl
  have d1 : X.drew.cell? ⟨w.heap.size + 1 + 1, 1, none⟩ = _ := r6.cell (k := 1) rfl
  have d2 : X.drew.cell? ⟨w.heap.size + 1 + 1, 2, none⟩ = _ := r6.cell (k := 2) rfl
  have d3 : X.drew.cell? ⟨w.heap.size + 1 + 1, 3, none⟩ = _ := r6.cell (k := 3) rfl
  have d4 : X.drew.cell? ⟨w.heap.size + 1 + 1, 4, none⟩ = _ := r6.cell (k := 4) rfl
  have d5 : X.drew.cell? ⟨w.heap.size + 1 + 1, 5, none⟩ = _ := r6.cell (k := 5) rfl
  have n0 : w.heap.size + 1 + 1 ∉ [w.heap.size + 1] := fun h => absurd (List.mem_singleton.1 h) (by omega)
  have l1 : w.heap.size + 1 < X.drew.heap.size := r4.lt
  have C' : ∀ w', G.Sides [w.heap.size + 1] X.drew w' → Calls Tryz.prog 77 #[.iface T x] w' fun e w'' => e = .returned (.int .i64 cd) ∧ Below w'.heap.size w' w'' := fun w' h => C w' (hs.keep (h.under hb.drew (by intro b hm; rw [List.mem_singleton.1 hm]; omega) hb.size))
  refine G.pool_list (W := X) [w.heap.size + 1] [.val (.agg #[.int .u64 0, .int .u64 0, .bool false, .int .u64 0, .int .u64 0, .bool false]),
      .val (.iface T x),
      .val (.int .i64 cd),
      .set (w.heap.size + 1) (.cells #[.int .u64 0, .int .u64 0, .bool false, .int .u64 0, .int .u64 0, .bool false] 30) (.cells #[.int .u64 0, .int .u64 0, .bool false, .int .u64 0, .int .u64 0, .bool false] 30),
      .val (.int .i64 cd)] [[6], [1], [11], [4, 10], [12]] (fun f => [(some 10, .agg #[.int .u64 0, .int .u64 0, .bool false, .int .u64 0, .int .u64 0, .bool false]), (some 11, .iface T x), (some 12, .int .i64 cd), (none, undef), (some 5, .int .i64 cd)]) (by kernel_rfl) (by kernel_rfl) (by kernel_rfl) (by kernel_rfl) (fun _ => by kernel_rfl) (G.last_of [.cells #[.int .u64 0, .int .u64 0, .bool false, .int .u64 0, .int .u64 0, .bool false] 30] (fun F R hm => by simp at hm) (fun ob ob' k hm => by simp at hm) (fun b ob ob' hm => by simp at hm; simp [hm])) (fun b ob ob' hm => by simp at hm; obtain ⟨rfl, rfl, -⟩ := hm; exact r4) ?_ ?_
  · intro ix hix
    match ix, hix with
    | 0, _ => exact G.ob_val [(6, .pointer (some ⟨w.heap.size + 1 + 1, 0, none⟩))] rfl rfl (fun _ => by kernel_rfl) (fun A w ⟨e0, _⟩ hB => ld_bld e0 (hB.cell d0 n0) (hB.cell d1 n0) (hB.cell d2 n0) (hB.cell d3 n0) (hB.cell d4 n0) (hB.cell d5 n0))
    | 1, _ => exact G.ob_val [(1, .iface T x)] rfl rfl (fun _ => by kernel_rfl) (fun A w ⟨e0, _⟩ hB => doV_move e0)
    | 2, _ => exact G.ob_val [(11, .iface T x)] rfl rfl (fun _ => by kernel_rfl) (fun A w ⟨e0, _⟩ hB => cl1 cf_impl_codeOf e0 (C' w hB))
    | 3, _ => exact G.ob_set (fun f => [(4, .pointer (some ⟨w.heap.size + 1, 0, none⟩)), (10, .agg #[.int .u64 0, .int .u64 0, .bool false, .int .u64 0, .int .u64 0, .bool false])]) rfl rfl rfl (by simp) l1 (fun j ob1 ob2 h => by (rcases j with _ | _ | _ | _ | _ | j) <;> simp [G.kindOf] at h ⊢ <;> omega) (fun _ => by kernel_rfl) (fun f A w ⟨e0, e1, _⟩ hh hr => pu_any e0 e1 hr rfl size_bld (by kernel_rfl))
    | 4, _ => exact G.ob_val [(12, .int .i64 cd)] rfl rfl (fun _ => by kernel_rfl) (fun A w ⟨e0, _⟩ hB => doV_assign e0)
    | ix + 5, h => exact absurd h (by simp)
  intro f W3 hS _ _ _ hset
  have q1 : Bk W3 30 (w.heap.size + 1) #[.int .u64 0, .int .u64 0, .bool false, .int .u64 0, .int .u64 0, .bool false] := hset 3 _ _ _ rfl (by decide)
  have hb3 : Below w.heap.size w W3 := hS.under hb.drew (by intro b h; rw [List.mem_singleton.1 h]; omega) hb.size
  clear hset hS d0 d1 d2 d3 d4 d5
  simp only [puts, List.foldl, Act.put, List.setIfInBounds_toArray, List.set_cons_zero, List.set_cons_succ]
  go_wp2
  exact bodyPost_ret (v := .tuple #[.agg #[.int .u64 0, .int .u64 0, .bool false, .int .u64 0, .int .u64 0, .bool false], .int .i64 cd]) (bk_res2 (fn := Tryz.f45) (p := 4) (u := 5) Tryz.results45 _ rfl q1 Tryz.underlying30 rfl sizeBld) rfl ⟨rfl, hb3⟩
set_option maxRecDepth 100000 in
set_option maxHeartbeats 4000000 in
theorem bliI_of (mode x y k v0 v1 v3 v4 u0 u1 u3 u4 cd : Int) (c v2 v5 u2 u5 : Bool) (input info : ByteArray) (v : Value) (w : World)
    (BI : ∀ w', Below w.heap.size w w' → Calls Tryz.prog 46 #[.int .i64 mode, .string input, .string info, .agg #[.int .u64 x, .int .u64 y, .bool c], .int .u64 k] w' fun e w'' => e = .returned (.tuple #[.agg #[.int .u64 v0, .int .u64 v1, .bool v2, .int .u64 v3, .int .u64 v4, .bool v5], v]) ∧ Below w'.heap.size w' w'')
    (AN : ∀ w', Below w.heap.size w w' → Calls Tryz.prog 45 #[.agg #[.int .u64 v0, .int .u64 v1, .bool v2, .int .u64 v3, .int .u64 v4, .bool v5], v] w' fun e w'' => e = .returned (.tuple #[.agg #[.int .u64 u0, .int .u64 u1, .bool u2, .int .u64 u3, .int .u64 u4, .bool u5], .int .i64 cd]) ∧ Below w'.heap.size w' w'') :
    Calls Tryz.prog 12 #[.int .i64 mode, .string input, .string info, .agg #[.int .u64 x, .int .u64 y, .bool c], .int .u64 k] w fun e w' => e = .returned (.tuple #[.agg #[.int .u64 u0, .int .u64 u1, .bool u2, .int .u64 u3, .int .u64 u4, .bool u5], .int .i64 cd]) ∧ Below w.heap.size w w' := by
  obtain ⟨X, hX⟩ : ∃ X, X = (w.alloc (Obj.cells #[.int .u64 x, .int .u64 y, .bool c] 28)).alloc (Obj.cells #[.int .u64 0, .int .u64 0, .bool false, .int .u64 0, .int .u64 0, .bool false] 30) := ⟨_, rfl⟩
  have r8 : Bk X 28 w.heap.size #[.int .u64 x, .int .u64 y, .bool c] := by rw [hX]; exact (Bk.new _ _ _).alloc _
  have r10 : Bk X 30 (w.heap.size + 1) #[.int .u64 0, .int .u64 0, .bool false, .int .u64 0, .int .u64 0, .bool false] := by rw [hX]; exact (Bk.new _ _ _).at (by simp)
  have hb : Below w.heap.size w X := by rw [hX]; exact ((Below.refl _ w).alloc (Nat.le_refl _) _).alloc (by simp) _
  rw [hX] at r8 r10 hb
  clear hX
  have p0 := r8.cell (k := 0) rfl
  have p1 := r8.cell (k := 1) rfl
  have p2 := r8.cell (k := 2) rfl
  go_enter Tryz.func12, Tryz.ntmps12
  go_wp2_with fail
  refine (BI _ hb).mono ?_
  rintro e w1 ⟨rfl, b1⟩
  replace r10 := r10.keep b1
  replace hb := hb.trans (b1.mono hb.size)
  clear BI b1 p0 p1 p2 r8
  go_wp2_with fail
  refine (AN _ hb).mono ?_
  rintro e w2 ⟨rfl, b1⟩
  replace r10 := r10.keep b1
  replace hb := hb.trans (b1.mono hb.size)
  clear AN b1
  have hth := r10.there 6 (by decide)
  go_wp2_with (refine wpList_store_mid rfl 30 _ _ rfl (w.heap.size + 1) 0 #[.int .u64 u0, .int .u64 u1, .bool u2, .int .u64 u3, .int .u64 u4, .bool u5] rfl rfl hth sizeBld (by kernel_rfl) ?_)
  exact bodyPost_ret (v := .tuple #[.agg #[.int .u64 u0, .int .u64 u1, .bool u2, .int .u64 u3, .int .u64 u4, .bool u5], .int .i64 cd]) (bk_res2 (fn := Tryz.f12) (p := 10) (u := 11) Tryz.results12 _ rfl (r10.sets _ rfl) Tryz.underlying30 rfl sizeBld) rfl ⟨rfl, below_setCells hb (by omega) _ _⟩
end Go.Proofs.YtjmhmajfkdglnaaGreatDoor

/-
  The rules' tweaked keys; the program's Blind and the model's, put together.
-/
namespace Go.Proofs.YtjmhmajfkdglnaaGreatDoor
open Go.RowKit M
set_option linter.unusedVariables false

/-- the rules of mode k, with what it makes of a public key -/
structure Rt (k : Nat) (F0 F1 F2 F3 F4 F5 F6 : FuncId) : Prop where
  rl : Rl k F0 F1 F2 F3 F4 F5 F6
  e3 : Ent F3
  tweaked : ∀ (info : ByteArray) (t : Tri) (a0 a1 a2 a3 : Addr) (w : World), TabK w → Sn w a0 a1 a2 a3 → info.size ≤ 60000 →
    Calls Tryz.prog F3 #[.agg #[.string (ctxB k), .string info], .agg #[.int .u64 (px (asT t)), .int .u64 (py (asT t)), .bool (pb (asT t))]] w fun e w' => e = .returned (.tuple #[.agg #[.int .u64 (px (bldT k info t)), .int .u64 (py (bldT k info t)), .bool (pb (bldT k info t))], if (k : Int) = 2 ∧ twp info t = none then sen a2 else .nilIface]) ∧ Below w.heap.size w w'
theorem enNT : Ent 153 := fun _ _ => by kernel_rfl
theorem enPT : Ent 161 := fun _ _ => by kernel_rfl
theorem twk_no {k : Nat} (hk : ¬ k = 2) (info : ByteArray) (t : Tri) (a0 a1 a2 a3 : Addr) (w : World) :
    Calls Tryz.prog 153 #[.agg #[.string (ctxB k), .string info], .agg #[.int .u64 (px (asT t)), .int .u64 (py (asT t)), .bool (pb (asT t))]] w fun e w' => e = .returned (.tuple #[.agg #[.int .u64 (px (bldT k info t)), .int .u64 (py (bldT k info t)), .bool (pb (bldT k info t))], if (k : Int) = 2 ∧ twp info t = none then sen a2 else .nilIface]) ∧ Below w.heap.size w w' := by
  have e : bldT k info t = none := if_neg (by omega)
  rw [e, if_neg (fun h => hk (by have := h.1; omega))]
  exact ntwI _ _ _ _ _ w
theorem twk_two (info : ByteArray) (t : Tri) (a0 a1 a2 a3 : Addr) (w : World) (hT : TabK w) (hs : Sn w a0 a1 a2 a3) (hi : info.size ≤ 60000) :
    Calls Tryz.prog 161 #[.agg #[.string (ctxB 2), .string info], .agg #[.int .u64 (px (asT t)), .int .u64 (py (asT t)), .bool (pb (asT t))]] w fun e w' => e = .returned (.tuple #[.agg #[.int .u64 (px (bldT (2 : Nat) info t)), .int .u64 (py (bldT (2 : Nat) info t)), .bool (pb (bldT (2 : Nat) info t))], if ((2 : Nat) : Int) = 2 ∧ twp info t = none then sen a2 else .nilIface]) ∧ Below w.heap.size w w' := by
  have hgw : 6 < w.heap.size := World.block_lt_of_cell? w _ (hT 0 (by omega))
  have h := patI_of (ctxB 2) info ((twk info : Nat) : Int) (asT t) (nt (twk info) gG) (twp info t) a0 a1 a2 a3 w hs (fun w' hb => twkI_any info w' (keepT hT hgw hb) hi) (fun w => cplT gG_on (twk info) (twk_lt info) w) (fun w => cplX (nt_on gG_on _) (asT_on t) w)
  have e : bldT (2 : Nat) info t = twp info t := if_pos rfl
  rw [e]
  by_cases hz : twp info t = none
  · rw [if_pos ⟨rfl, hz⟩]
    rw [if_pos ((pb_none _).2 hz)] at h
    exact h
  · rw [if_neg (fun h => hz h.2)]
    rw [if_neg (fun h => hz ((pb_none _).1 h))] at h
    exact h
theorem rut_any (k : Nat) (hk : k < 3) : ∃ F0 F1 F2 F3 F4 F5 F6, Rt k F0 F1 F2 F3 F4 F5 F6 := by
  rcases (show k = 0 ∨ k = 1 ∨ k = 2 by omega) with rfl | rfl | rfl
  · exact ⟨_, _, _, _, _, _, _, rul_0, enNT, fun info t a0 a1 a2 a3 w _ _ _ => twk_no (by omega) info t a0 a1 a2 a3 w⟩
  · exact ⟨_, _, _, _, _, _, _, rul_1, enNT, fun info t a0 a1 a2 a3 w _ _ _ => twk_no (by omega) info t a0 a1 a2 a3 w⟩
  · exact ⟨_, _, _, _, _, _, _, rul_2, enPT, fun info t a0 a1 a2 a3 w hT hs hi => twk_two info t a0 a1 a2 a3 w hT hs hi⟩
/-- the model's Blind -/
theorem bldS_any (mode : Int) (input info : ByteArray) (t : Tri) (blind : Nat) (w : World) :
    Calls Tryz.prog 10 #[.int .i64 mode, .string input, .string info, .agg #[.int .u64 (t.1 : Int), .int .u64 (t.2.1 : Int), .bool t.2.2], .int .u64 blind] w fun e w' => e = .returned (.tuple #[.agg (bldA mode input info t blind), .int .i64 (bldC mode input info t blind)]) ∧ Below w.heap.size w w' := by
  have T := txtS_any mode input info
  have E := elS_any t
  have K := fun w => keyS_any (blind : Int) blind rfl w
  have bad : ¬ (txtB mode input.size info.size = true ∧ elT t = true ∧ keyB blind = true) → bldC mode input info t blind = 1 ∧ bldA mode input info t blind = zBld := fun h => by
    have e : bldC mode input info t blind = 1 := if_neg h
    exact ⟨e, by unfold bldA; rw [e, if_neg (by decide)]; rfl⟩
  cases h1 : txtB mode input.size info.size with
  | false =>
    rw [h1] at T
    obtain ⟨e1, e2⟩ := bad (by simp [h1])
    rw [e1, e2]
    exact bldS_a mode _ _ blind _ input info w T
  | true =>
    rw [h1] at T
    cases h2 : elT t with
    | false =>
      rw [h2] at E
      obtain ⟨e1, e2⟩ := bad (by simp [h2])
      rw [e1, e2]
      exact bldS_b mode _ _ blind _ input info w T E
    | true =>
      rw [h2] at E
      cases h3 : keyB blind with
      | false =>
        rw [h3] at K
        obtain ⟨e1, e2⟩ := bad (by simp [h3])
        rw [e1, e2]
        exact bldS_c mode _ _ blind _ input info w T E K
      | true =>
        rw [h3] at K
        obtain ⟨⟨m1, m2⟩, z1, z2, -⟩ := txtB_iff.1 h1
        obtain ⟨-, kl⟩ := keyB_iff.1 h3
        have hC : bldC mode input info t blind = if hsh mode input = none then 2 else if mode = 2 ∧ twp info t = none then 3 else 0 := if_pos ⟨h1, h2, h3⟩
        have H := fun w => hshS_any mode input w m1 m2 z1
        by_cases hz : hsh mode input = none
        · rw [if_pos hz] at hC
          have hA : bldA mode input info t blind = zBld := by unfold bldA; rw [hC, if_neg (by decide)]; rfl
          rw [hC, hA]
          rw [(pb_none _).2 hz] at H
          exact bldS_d mode _ _ blind _ input info w _ _ T E K H
        · rw [if_neg hz] at hC
          have hp : pb (hsh mode input) = false := by
            cases hq : pb (hsh mode input) with
            | false => rfl
            | true => exact absurd ((pb_none _).1 hq) hz
          have TM := fun w => tiS_pt (hsh_on mode input) blind (by omega) w
          rw [hp] at H TM
          by_cases hm : mode = 2
          · have hw := fun w => sumS_xyz (nt (twk info) gG) (asT t) w
            obtain ⟨g1, g2, g3⟩ := triW_px (elT_on h2)
            rw [← g1, ← g2, ← g3] at hw
            have h := bldS_f mode _ _ blind _ input info w _ _ _ _ _ _ _ _ _ _ _ _ hm T E K H TM (fun w => twkS_any info w z2) (fun w => tiS_pt gG_on (twk info) (Nat.lt_trans (twk_lt info) (by decide)) w) hw
            have e : bldT mode info t = twp info t := if_pos hm
            by_cases ht : twp info t = none
            · rw [if_pos ⟨hm, ht⟩] at hC
              have hA : bldA mode input info t blind = zBld := by unfold bldA; rw [hC, if_neg (by decide)]; rfl
              rw [hC, hA]
              change Calls _ _ _ _ (fun e w' => e = .returned (.tuple #[.agg (if pb (twp info t) = true then _ else _), .int .i64 (if pb (twp info t) = true then 3 else 0)]) ∧ _) at h
              rw [if_pos ((pb_none _).2 ht), if_pos ((pb_none _).2 ht)] at h
              exact h
            · rw [if_neg (fun h => ht h.2)] at hC
              have hA : bldA mode input info t blind = #[.int .u64 (px (nt blind (hsh mode input))), .int .u64 (py (nt blind (hsh mode input))), .bool (pb (nt blind (hsh mode input))), .int .u64 (px (twp info t)), .int .u64 (py (twp info t)), .bool (pb (twp info t))] := by unfold bldA; rw [hC, if_pos rfl, e]
              rw [hC, hA]
              change Calls _ _ _ _ (fun e w' => e = .returned (.tuple #[.agg (if pb (twp info t) = true then _ else _), .int .i64 (if pb (twp info t) = true then 3 else 0)]) ∧ _) at h
              have hp2 : ¬ pb (twp info t) = true := fun h => ht ((pb_none _).1 h)
              rw [if_neg hp2, if_neg hp2] at h
              exact h
          · rw [if_neg (fun h => hm h.1)] at hC
            have e : bldT mode info t = none := if_neg hm
            have hA : bldA mode input info t blind = #[.int .u64 (px (nt blind (hsh mode input))), .int .u64 (py (nt blind (hsh mode input))), .bool (pb (nt blind (hsh mode input))), .int .u64 0, .int .u64 0, .bool true] := by unfold bldA; rw [hC, if_pos rfl, e]; rfl
            rw [hC, hA]
            exact bldS_e mode _ _ blind _ input info w _ _ _ _ _ (by simpa using hm) T E K H TM
/-- the program's Blind -/
theorem bliI_any (mode : Int) (input info : ByteArray) (t : Tri) (blind : Nat) (a0 a1 a2 a3 : Addr) (w : World) (hT : TabK w) (hs : Sn w a0 a1 a2 a3) :
    Calls Tryz.prog 12 #[.int .i64 mode, .string input, .string info, .agg #[.int .u64 (t.1 : Int), .int .u64 (t.2.1 : Int), .bool t.2.2], .int .u64 blind] w fun e w' => e = .returned (.tuple #[.agg (bldA mode input info t blind), .int .i64 (bldC mode input info t blind)]) ∧ Below w.heap.size w w' := by
  have hgw : 6 < w.heap.size := World.block_lt_of_cell? w _ (hT 0 (by omega))
  have bad : ∀ cd : Int, bldC mode input info t blind = cd → ¬ cd = 0 → bldA mode input info t blind = zBld := fun cd h h0 => by
    unfold bldA; rw [h, if_neg h0]; rfl
  have err : ∀ (cd : Int) (v : Value), bldC mode input info t blind = cd → ¬ cd = 0 → Er a0 a1 a2 a3 v cd → (∀ w', Below w.heap.size w w' → Calls Tryz.prog 46 #[.int .i64 mode, .string input, .string info, .agg #[.int .u64 (t.1 : Int), .int .u64 (t.2.1 : Int), .bool t.2.2], .int .u64 blind] w' fun e w'' => e = .returned (.tuple #[.agg zBld, v]) ∧ Below w'.heap.size w' w'') →
      Calls Tryz.prog 12 #[.int .i64 mode, .string input, .string info, .agg #[.int .u64 (t.1 : Int), .int .u64 (t.2.1 : Int), .bool t.2.2], .int .u64 blind] w fun e w' => e = .returned (.tuple #[.agg (bldA mode input info t blind), .int .i64 (bldC mode input info t blind)]) ∧ Below w.heap.size w w' := fun cd v h h0 hv hB => by
    rw [bad cd h h0, h]
    exact bliI_of mode _ _ blind 0 0 0 0 0 0 0 0 cd _ false false false false input info v w hB (fun w' hb => ansB_err 0 0 0 0 cd false false v a0 a1 a2 a3 w' (hs.keep hb) hv)
  by_cases hm : 0 ≤ mode ∧ mode ≤ 2
  · obtain ⟨hk, hk'⟩ := md_of hm.1 hm.2
    obtain ⟨F0, F1, F2, F3, F4, F5, F6, hR⟩ := rut_any mode.toNat hk
    have hfind := hR.rl.find
    have hbad := hR.rl.bad
    have htw := hR.tweaked
    have e3 := hR.e3
    rw [hk'] at hfind hbad htw
    have okE := okI_iff hm (info := info)
    by_cases ho : okI mode.toNat info
    · have hFP : ∀ {w1 : World}, Below w.heap.size w w1 → ∀ w', Below w1.heap.size w1 w' → _ := fun {w1} hb1 w' hb => hfind info a0 a1 a2 a3 w' ((hs.keep hb1).keep hb) ho
      by_cases hel : elT t = true
      · have hEL : ∀ {w1 : World}, Below w.heap.size w w1 → ∀ w', Below w1.heap.size w1 w' → Calls Tryz.prog 85 #[.agg #[.int .u64 (t.1 : Int), .int .u64 (t.2.1 : Int), .bool t.2.2]] w' fun e w'' => e = .returned (.tuple #[.agg #[.int .u64 (px (asT t)), .int .u64 (py (asT t)), .bool (pb (asT t))], .nilIface]) ∧ Below w'.heap.size w' w'' := fun {w1} hb1 w' hb => by
          have := eleI_any t a0 a1 a2 a3 w' ((hs.keep hb1).keep hb)
          rwa [if_pos hel] at this
        by_cases hkey : keyB blind = true
        · have hFF : ∀ {w1 : World}, Below w.heap.size w w1 → ∀ w', Below w1.heap.size w1 w' → Calls Tryz.prog 79 #[.int .u64 blind] w' fun e w'' => e = .returned (.tuple #[.agg #[.int .u64 (blind : Int)], .nilIface]) ∧ Below w'.heap.size w' w'' := fun {w1} hb1 w' hb => by
            have := facI_any blind a0 a1 a2 a3 w' ((hs.keep hb1).keep hb)
            rwa [if_pos hkey, if_pos hkey] at this
          have hkl := (keyB_iff.1 hkey).2
          have T := fun w => tagI_any (ctxB mode.toNat) grpW w (by rw [ctxB_size _ hk]; omega) (by decide)
          rw [← tagB_ctx] at T
          have hzt := tagG_size _ hk
          by_cases hin : input.size ≤ 65535
          · have htx : txtB mode input.size info.size = true := txtB_iff.2 ⟨hm, hin, (okE.1 ho).1, (okE.1 ho).2⟩
            have hC : bldC mode input info t blind = if hsh mode input = none then 2 else if mode = 2 ∧ twp info t = none then 3 else 0 := if_pos ⟨htx, hel, hkey⟩
            have hG : ∀ {w1 : World}, Below w.heap.size w w1 → ∀ w', Below w1.heap.size w1 w' → _ := fun {w1} hb1 w' hb => grpI_yes (ctxB mode.toNat) info input (tagB grpW mode.toNat) F0 F1 F2 F3 F4 F5 F6 (hsh mode input) a0 a1 a2 a3 w' ((hs.keep hb1).keep hb) T (fun w'' hb' => h2gN_yes input (tagB grpW mode.toNat) w'' (keepT hT hgw ((hb1.trans (hb.mono hb1.size)).trans (hb'.mono (Nat.le_trans hb1.size hb.size)))) ⟨by omega, by omega, hin⟩)
            by_cases hz : hsh mode input = none
            · rw [if_pos hz] at hC
              refine err 2 (flt ⟨#[105, 110, 112, 117, 116]⟩ (sen a1)) hC (by decide) (er_group _) (fun w1 hb1 => biI_d mode _ _ blind _ input info (ctxB mode.toNat) (asT t) (hsh mode input) F0 F1 F2 F3 F4 F5 F6 150 (.agg #[.string ⟨#[105, 110, 112, 117, 116]⟩, sen a1]) w1 (hFP hb1) (hEL hb1) (hFF hb1) (fun w' hb => ?_))
              have := hG hb1 w' hb
              rw [if_pos ((pb_none _).2 hz)] at this
              exact this
            · rw [if_neg hz] at hC
              have hG' : ∀ {w1 : World}, Below w.heap.size w w1 → ∀ w', Below w1.heap.size w1 w' → Calls Tryz.prog 80 #[.agg #[.string (ctxB mode.toNat), .string info, .func (.func F0) #[] #[], .func (.func F1) #[] #[], .func (.func F2) #[] #[], .func (.func F3) #[] #[], .func (.func F4) #[] #[], .func (.func F5) #[] #[], .func (.func F6) #[] #[]], .string input] w' fun e w'' => e = .returned (.tuple #[.agg #[.int .u64 (px (hsh mode input)), .int .u64 (py (hsh mode input)), .bool (pb (hsh mode input))], .nilIface]) ∧ Below w'.heap.size w' w'' := fun {w1} hb1 w' hb => by
                have := hG hb1 w' hb
                rw [if_neg (fun h => hz ((pb_none _).1 h))] at this
                exact this
              have hTW := fun {w1 : World} (hb1 : Below w.heap.size w w1) w' (hb : Below w1.heap.size w1 w') => htw info t a0 a1 a2 a3 w' (keepT hT hgw (hb1.trans (hb.mono hb1.size))) ((hs.keep hb1).keep hb) (okE.1 ho).1
              by_cases ht : mode = 2 ∧ twp info t = none
              · rw [if_pos ht] at hC
                refine err 3 _ hC (by decide) (er_inv _) (fun w1 hb1 => biI_e mode _ _ blind _ input info (ctxB mode.toNat) (asT t) (hsh mode input) (bldT mode info t) F0 F1 F2 F3 F4 F5 F6 a2 w1 (hFP hb1) (hEL hb1) (hFF hb1) (hG' hb1) e3 (fun w' hb => ?_))
                have := hTW hb1 w' hb
                rw [if_pos ht] at this
                exact this
              · rw [if_neg ht] at hC
                have hA : bldA mode input info t blind = #[.int .u64 (px (nt blind (hsh mode input))), .int .u64 (py (nt blind (hsh mode input))), .bool (pb (nt blind (hsh mode input))), .int .u64 (px (bldT mode info t)), .int .u64 (py (bldT mode info t)), .bool (pb (bldT mode info t))] := by unfold bldA; rw [hC, if_pos rfl]
                rw [hC, hA]
                refine bliI_of mode _ _ blind _ _ _ _ _ _ _ _ 0 _ _ _ _ _ input info .nilIface w (fun w1 hb1 => biI_f mode _ _ blind _ input info (ctxB mode.toNat) (asT t) (hsh mode input) (bldT mode info t) (nt blind (hsh mode input)) F0 F1 F2 F3 F4 F5 F6 w1 (hFP hb1) (hEL hb1) (hFF hb1) (hG' hb1) e3 (fun w' hb => ?_) (fun w => cplT (hsh_on mode input) blind hkl w)) (fun w' hb => ansB_ok _ _ _ _ _ _ w')
                have := hTW hb1 w' hb
                rw [if_neg ht] at this
                exact this
          · have hC : bldC mode input info t blind = 1 := if_neg (fun h => hin (txtB_iff.1 h.1).2.1)
            refine err 1 (flt ⟨#[105, 110, 112, 117, 116]⟩ (sen a0)) hC (by decide) (er_args _) (fun w1 hb1 => biI_d mode _ _ blind _ input info (ctxB mode.toNat) (asT t) none F0 F1 F2 F3 F4 F5 F6 150 (.agg #[.string ⟨#[105, 110, 112, 117, 116]⟩, sen a0]) w1 (hFP hb1) (hEL hb1) (hFF hb1) (fun w' hb => ?_))
            exact grpI_no (ctxB mode.toNat) info input (tagB grpW mode.toNat) F0 F1 F2 F3 F4 F5 F6 none a0 a1 a2 a3 w' ((hs.keep hb1).keep hb) T (fun w'' _ => h2gN_no input (tagB grpW mode.toNat) w'' (fun h => hin h.2.2))
        · have hC : bldC mode input info t blind = 1 := if_neg (fun h => hkey h.2.2)
          refine err 1 _ hC (by decide) (er_args _) (fun w1 hb1 => biI_c mode _ _ blind _ input info (ctxB mode.toNat) (asT t) F0 F1 F2 F3 F4 F5 F6 a0 w1 (hFP hb1) (hEL hb1) (fun w' hb => ?_))
          have := facI_any blind a0 a1 a2 a3 w' ((hs.keep hb1).keep hb)
          rwa [if_neg hkey, if_neg hkey] at this
      · have hC : bldC mode input info t blind = 1 := if_neg (fun h => hel h.2.1)
        refine err 1 _ hC (by decide) (er_args _) (fun w1 hb1 => biI_b mode _ _ blind _ input info (ctxB mode.toNat) F0 F1 F2 F3 F4 F5 F6 a0 w1 (hFP hb1) (fun w' hb => ?_))
        have := eleI_any t a0 a1 a2 a3 w' ((hs.keep hb1).keep hb)
        rwa [if_neg hel] at this
    · have hC : bldC mode input info t blind = 1 := if_neg (fun h => ho (okE.2 ⟨(txtB_iff.1 h.1).2.2.1, (txtB_iff.1 h.1).2.2.2⟩))
      exact err 1 _ hC (by decide) (er_args _) (fun w1 hb1 => biI_a mode _ _ blind _ input info _ _ w1 (fun w' hb => hbad info a0 a1 a2 a3 w' ((hs.keep hb1).keep hb) ho))
  · have hC : bldC mode input info t blind = 1 := if_neg (fun h => hm (txtB_iff.1 h.1).1)
    exact err 1 _ hC (by decide) (er_args _) (fun w1 hb1 => biI_a mode _ _ blind _ input info _ _ w1 (fun w' hb => proI_no mode _ info a0 a1 a2 a3 w' ((hs.keep hb1).keep hb) (fun w => ctxI_no mode w hm)))
end Go.Proofs.YtjmhmajfkdglnaaGreatDoor

namespace Go.Proofs.YtjmhmajfkdglnaaGreatDoor
open Go.RowKit M
set_option linter.unusedVariables false

set_option maxRecDepth 100000 in
set_option maxHeartbeats 2000000 in
theorem eqP (x y : Int) (c : Bool) (w : World) :
    Calls Tryz.prog 47 #[.agg #[.int .u64 x, .int .u64 y, .bool c], .agg #[.int .u64 x, .int .u64 y, .bool c]] w fun e w' => e = .returned (.bool true) ∧ Below w.heap.size w w' := by
  go_enter Tryz.func47, Tryz.ntmps47
  go_wp2
  go_ret
  exact ⟨rfl, ((Below.refl _ w).alloc (Nat.le_refl _) _).alloc (by simp) _⟩
end Go.Proofs.YtjmhmajfkdglnaaGreatDoor
