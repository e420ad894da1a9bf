import Derived.Test.YtagnikeaellbiaaGreatDoorMrg22
import Derived.Test.YtagnikeaellbiaaGreatDoorMrg25
import Derived.Test.YtagnikeaellbiaaGreatDoorMrg15
import Derived.Test.YtagnikeaellbiaaGreatDoorMrg17
import Derived.Test.YtagnikeaellbiaaGreatDoorMrg1
import Derived.Test.YtagnikeaellbiaaGreatDoorChecked
import Derived.Shelf.Strings.Repeat
import Derived.KernelRfl
import Derived.Below
namespace Go.Proofs.YtagnikeaellbiaaGreatDoor
open Go.RowKit M
set_option linter.unusedVariables false

theorem cp_ct {W : World} {b : Nat} {x y : Int} {c : Bool} {fn : Func} {p u : Tmp} (h : fn.results = #[.cell p 62, .tmp u]) (tmps : Array Value)
    (hp : tmps.getD p undef = .pointer (some ⟨b, 0, none⟩)) (hc : K3 W 62 b x y c) :
    (results fn tmps).run Tryz.prog W = .ok (.tuple #[.agg #[.int .u64 x, .int .u64 y, .bool c], tmps.getD u undef]) W := by
  have hp' : tmps[p]?.getD undef = .pointer (some ⟨b, 0, none⟩) := by simpa using hp
  simp [results, h, hp', asAddr, run_loadVar_mid W b 0 62 [.int .u64 x, .int .u64 y, .bool c] _ hc.range Tryz.underlying62 rfl (by kernel_rfl)]

set_option maxRecDepth 100000 in
set_option maxHeartbeats 2000000 in
theorem fndP_zero (w : World) :
    Calls Tryz.prog 36 #[.agg #[.int .u64 0, .int .u64 0, .bool true]] w fun e w' => e = .returned (.tuple #[.agg #[.int .u64 0, .int .u64 0, .bool true], .bool true]) ∧ Below w.heap.size w w' := by
  obtain ⟨X, hX⟩ : ∃ X, X = ((w.alloc (Obj.cells #[.int .u64 0, .int .u64 0, .bool true] 27)).alloc (Obj.cells #[.int .u64 0, .int .u64 0, .bool false] 62)).alloc (Obj.cells #[.int .u64 0, .int .u64 0, .bool true] 62) := ⟨_, rfl⟩
  have hf : K3 X 62 (w.heap.size + 1 + 1) 0 0 true := by rw [hX]; exact (K3.new _ _ _ _ _).at (by simp)
  have hr : K3 X 62 (w.heap.size + 1) 0 0 false := by rw [hX]; exact ((K3.new _ _ 0 0 false).at (by simp)).alloc _
  have hb : Below w.heap.size w X := by rw [hX]; exact (((Below.refl _ w).alloc (Nat.le_refl _) _).alloc (by simp) _).alloc (by simp; omega) _
  rw [hX] at hf hr hb
  clear hX
  have c0 := hf.drew.c0
  have c1 := hf.drew.c1
  have c2 := hf.drew.c2
  go_enter Tryz.func36, Tryz.ntmps36
  go_wp2
  go_region_held3 (fun w' => w'.cell? ⟨w.heap.size + 1 + 1, 0, none⟩ = some (.int .u64 0) ∧ w'.cell? ⟨w.heap.size + 1 + 1, 1, none⟩ = some (.int .u64 0) ∧ w'.cell? ⟨w.heap.size + 1 + 1, 2, none⟩ = some (.bool true)) (first | exact ⟨c0, c1, c2⟩ | exact ⟨keepC c0 b1, keepC c1 b1, keepC c2 b1⟩ | go_keep) ((go_at_call 58; refine (zpP _).mono ?_; rintro e w1 ⟨rfl, b1⟩))
  replace hf := (hf.drew).keep b1
  replace hr := (hr.drew).keep b1
  replace hb := keepB hb.drew hb.size b1
  clear b1 c0 c1 c2
  have c0 := hf.c0
  have c1 := hf.c1
  have c2 := hf.c2
  have d0 := hr.c0
  have d1 := hr.c1
  have d2 := hr.c2
  have f0 := hr.frz 0
  have f1 := hr.frz 1
  have f2 := hr.frz 2
  go_wp2
  exact bodyPost_ret (v := .tuple #[.agg #[.int .u64 0, .int .u64 0, .bool true], .bool true]) (cp_ct (fn := Tryz.f36) (p := 2) (u := 3) Tryz.results36 _ rfl (hr.set _ _ _)) rfl ⟨rfl, set3_below hb (by omega)⟩


set_option maxRecDepth 100000 in
set_option maxHeartbeats 2000000 in
theorem fndP_inf1 (x y z1 z2 : Int) (b1 b2 : Bool) (w : World) (hx : (x == 0) = false)
    (E1 : ∀ w, Calls Tryz.prog 59 #[.int .u64 x, .agg #[]] w fun e w' => e = .returned (.tuple #[.agg #[.int .u64 z1], .bool b1]) ∧ Below w.heap.size w w')
    (E2 : ∀ w, Calls Tryz.prog 59 #[.int .u64 y, .agg #[]] w fun e w' => e = .returned (.tuple #[.agg #[.int .u64 z2], .bool b2]) ∧ Below w.heap.size w w') :
    Calls Tryz.prog 36 #[.agg #[.int .u64 x, .int .u64 y, .bool true]] w fun e w' => e = .returned (.tuple #[.agg #[.int .u64 0, .int .u64 0, .bool true], .bool false]) ∧ Below w.heap.size w w' := by
  obtain ⟨X, hX⟩ : ∃ X, X = ((w.alloc (Obj.cells #[.int .u64 x, .int .u64 y, .bool true] 27)).alloc (Obj.cells #[.int .u64 0, .int .u64 0, .bool false] 62)).alloc (Obj.cells #[.int .u64 x, .int .u64 y, .bool true] 62) := ⟨_, rfl⟩
  have hp : K3 X 27 w.heap.size x y true := by rw [hX]; exact ((K3.new w _ _ _ _).alloc _).alloc _
  have hf : K3 X 62 (w.heap.size + 1 + 1) x y true := by rw [hX]; exact (K3.new _ _ _ _ _).at (by simp)
  have hr : K3 X 62 (w.heap.size + 1) 0 0 false := by rw [hX]; exact ((K3.new _ _ 0 0 false).at (by simp)).alloc _
  have hb : Below w.heap.size w X := by rw [hX]; exact (((Below.refl _ w).alloc (Nat.le_refl _) _).alloc (by simp) _).alloc (by simp; omega) _
  rw [hX] at hp hf hr hb
  clear hX
  have c0 := hf.drew.c0
  have c1 := hf.drew.c1
  have c2 := hf.drew.c2
  go_enter Tryz.func36, Tryz.ntmps36
  go_wp2
  go_region_held3 (fun w' => w'.cell? ⟨w.heap.size + 1 + 1, 0, none⟩ = some (.int .u64 x) ∧ w'.cell? ⟨w.heap.size + 1 + 1, 1, none⟩ = some (.int .u64 y) ∧ w'.cell? ⟨w.heap.size + 1 + 1, 2, none⟩ = some (.bool true)) (first | exact ⟨c0, c1, c2⟩ | exact ⟨keepC c0 b3, keepC c1 b3, keepC c2 b3⟩ | go_keep) ((go_at_call 58; refine (zpP _).mono ?_; rintro e w1 ⟨rfl, b3⟩))
  replace hp := (hp.drew).keep b3
  replace hr := (hr.drew).keep b3
  replace hb := keepB hb.drew hb.size b3
  clear b3 c0 c1 c2 hf
  have c0 := hp.c0
  go_wp2_with fail
  refine (E1 _).mono ?_
  rintro e w2 ⟨rfl, b4⟩
  replace hp := (hp.keep b4).alloc (Obj.cells #[.int .u64 z1] 105)
  replace hr := (hr.keep b4).alloc (Obj.cells #[.int .u64 z1] 105)
  replace hb := keepB hb hb.size b4
  replace hb := hb.alloc hb.size (Obj.cells #[.int .u64 z1] 105)
  have n1 := R1.new w2 z1
  clear b4 c0 E1
  have c1 := hp.c1
  go_wp2_with fail
  refine (E2 _).mono ?_
  rintro e w3 ⟨rfl, b5⟩
  replace hp := (hp.keep b5).alloc (Obj.cells #[.int .u64 z2] 105)
  replace hr := (hr.keep b5).alloc (Obj.cells #[.int .u64 z2] 105)
  replace n1 := (n1.keep b5).alloc (Obj.cells #[.int .u64 z2] 105)
  replace hb := keepB hb hb.size b5
  replace hb := hb.alloc hb.size (Obj.cells #[.int .u64 z2] 105)
  have n2 := R1.new w3 z2
  clear b5 c1 E2
  have c2 := hp.drew.c2
  have m1 := n1.drew.cell
  have m2 := n2.drew.cell
  go_wp2
  go_region
  clear c2 m1 m2
  go_wp2_with fail
  refine (zpP _).mono ?_
  rintro e w9 ⟨rfl, b9⟩
  replace hr := (hr.drew).keep b9
  replace hb := keepB hb.drew hb.size b9
  have d0 := hr.c0
  have d1 := hr.c1
  have d2 := hr.c2
  have f0 := hr.frz 0
  have f1 := hr.frz 1
  have f2 := hr.frz 2
  go_wp2
  exact bodyPost_ret (v := .tuple #[.agg #[.int .u64 0, .int .u64 0, .bool true], .bool false]) (cp_ct (fn := Tryz.f36) (p := 2) (u := 3) Tryz.results36 _ rfl (hr.set _ _ _)) rfl ⟨rfl, set3_below hb (by omega)⟩

set_option maxRecDepth 100000 in
set_option maxHeartbeats 2000000 in
theorem fndP_inf2 (y z1 z2 : Int) (b1 b2 : Bool) (w : World) (hy : (y == 0) = false)
    (E1 : ∀ w, Calls Tryz.prog 59 #[.int .u64 0, .agg #[]] w fun e w' => e = .returned (.tuple #[.agg #[.int .u64 z1], .bool b1]) ∧ Below w.heap.size w w')
    (E2 : ∀ w, Calls Tryz.prog 59 #[.int .u64 y, .agg #[]] w fun e w' => e = .returned (.tuple #[.agg #[.int .u64 z2], .bool b2]) ∧ Below w.heap.size w w') :
    Calls Tryz.prog 36 #[.agg #[.int .u64 0, .int .u64 y, .bool true]] w fun e w' => e = .returned (.tuple #[.agg #[.int .u64 0, .int .u64 0, .bool true], .bool false]) ∧ Below w.heap.size w w' := by
  obtain ⟨X, hX⟩ : ∃ X, X = ((w.alloc (Obj.cells #[.int .u64 0, .int .u64 y, .bool true] 27)).alloc (Obj.cells #[.int .u64 0, .int .u64 0, .bool false] 62)).alloc (Obj.cells #[.int .u64 0, .int .u64 y, .bool true] 62) := ⟨_, rfl⟩
  have hp : K3 X 27 w.heap.size 0 y true := by rw [hX]; exact ((K3.new w _ _ _ _).alloc _).alloc _
  have hf : K3 X 62 (w.heap.size + 1 + 1) 0 y true := by rw [hX]; exact (K3.new _ _ _ _ _).at (by simp)
  have hr : K3 X 62 (w.heap.size + 1) 0 0 false := by rw [hX]; exact ((K3.new _ _ 0 0 false).at (by simp)).alloc _
  have hb : Below w.heap.size w X := by rw [hX]; exact (((Below.refl _ w).alloc (Nat.le_refl _) _).alloc (by simp) _).alloc (by simp; omega) _
  rw [hX] at hp hf hr hb
  clear hX
  have c0 := hf.drew.c0
  have c1 := hf.drew.c1
  have c2 := hf.drew.c2
  go_enter Tryz.func36, Tryz.ntmps36
  go_wp2
  go_region_held3 (fun w' => w'.cell? ⟨w.heap.size + 1 + 1, 0, none⟩ = some (.int .u64 0) ∧ w'.cell? ⟨w.heap.size + 1 + 1, 1, none⟩ = some (.int .u64 y) ∧ w'.cell? ⟨w.heap.size + 1 + 1, 2, none⟩ = some (.bool true)) (first | exact ⟨c0, c1, c2⟩ | exact ⟨keepC c0 b3, keepC c1 b3, keepC c2 b3⟩ | go_keep) ((go_at_call 58; refine (zpP _).mono ?_; rintro e w1 ⟨rfl, b3⟩))
  replace hp := (hp.drew).keep b3
  replace hr := (hr.drew).keep b3
  replace hb := keepB hb.drew hb.size b3
  clear b3 c0 c1 c2 hf
  have c0 := hp.c0
  go_wp2_with fail
  refine (E1 _).mono ?_
  rintro e w2 ⟨rfl, b4⟩
  replace hp := (hp.keep b4).alloc (Obj.cells #[.int .u64 z1] 105)
  replace hr := (hr.keep b4).alloc (Obj.cells #[.int .u64 z1] 105)
  replace hb := keepB hb hb.size b4
  replace hb := hb.alloc hb.size (Obj.cells #[.int .u64 z1] 105)
  have n1 := R1.new w2 z1
  clear b4 c0 E1
  have c1 := hp.c1
  go_wp2_with fail
  refine (E2 _).mono ?_
  rintro e w3 ⟨rfl, b5⟩
  replace hp := (hp.keep b5).alloc (Obj.cells #[.int .u64 z2] 105)
  replace hr := (hr.keep b5).alloc (Obj.cells #[.int .u64 z2] 105)
  replace n1 := (n1.keep b5).alloc (Obj.cells #[.int .u64 z2] 105)
  replace hb := keepB hb hb.size b5
  replace hb := hb.alloc hb.size (Obj.cells #[.int .u64 z2] 105)
  have n2 := R1.new w3 z2
  clear b5 c1 E2
  have c2 := hp.drew.c2
  have m1 := n1.drew.cell
  have m2 := n2.drew.cell
  go_wp2
  go_region
  clear c2 m1 m2
  go_wp2_with fail
  refine (zpP _).mono ?_
  rintro e w9 ⟨rfl, b9⟩
  replace hr := (hr.drew).keep b9
  replace hb := keepB hb.drew hb.size b9
  have d0 := hr.c0
  have d1 := hr.c1
  have d2 := hr.c2
  have f0 := hr.frz 0
  have f1 := hr.frz 1
  have f2 := hr.frz 2
  go_wp2
  exact bodyPost_ret (v := .tuple #[.agg #[.int .u64 0, .int .u64 0, .bool true], .bool false]) (cp_ct (fn := Tryz.f36) (p := 2) (u := 3) Tryz.results36 _ rfl (hr.set _ _ _)) rfl ⟨rfl, set3_below hb (by omega)⟩

set_option maxRecDepth 100000 in
set_option maxHeartbeats 2000000 in
theorem fndP_bigx (x y z1 z2 : Int) (b2 : Bool) (w : World) 
    (E1 : ∀ w, Calls Tryz.prog 59 #[.int .u64 x, .agg #[]] w fun e w' => e = .returned (.tuple #[.agg #[.int .u64 z1], .bool false]) ∧ Below w.heap.size w w')
    (E2 : ∀ w, Calls Tryz.prog 59 #[.int .u64 y, .agg #[]] w fun e w' => e = .returned (.tuple #[.agg #[.int .u64 z2], .bool b2]) ∧ Below w.heap.size w w') :
    Calls Tryz.prog 36 #[.agg #[.int .u64 x, .int .u64 y, .bool false]] w fun e w' => e = .returned (.tuple #[.agg #[.int .u64 0, .int .u64 0, .bool true], .bool false]) ∧ Below w.heap.size w w' := by
  obtain ⟨X, hX⟩ : ∃ X, X = ((w.alloc (Obj.cells #[.int .u64 x, .int .u64 y, .bool false] 27)).alloc (Obj.cells #[.int .u64 0, .int .u64 0, .bool false] 62)).alloc (Obj.cells #[.int .u64 x, .int .u64 y, .bool false] 62) := ⟨_, rfl⟩
  have hp : K3 X 27 w.heap.size x y false := by rw [hX]; exact ((K3.new w _ _ _ _).alloc _).alloc _
  have hf : K3 X 62 (w.heap.size + 1 + 1) x y false := by rw [hX]; exact (K3.new _ _ _ _ _).at (by simp)
  have hr : K3 X 62 (w.heap.size + 1) 0 0 false := by rw [hX]; exact ((K3.new _ _ 0 0 false).at (by simp)).alloc _
  have hb : Below w.heap.size w X := by rw [hX]; exact (((Below.refl _ w).alloc (Nat.le_refl _) _).alloc (by simp) _).alloc (by simp; omega) _
  rw [hX] at hp hf hr hb
  clear hX
  have c0 := hf.drew.c0
  have c1 := hf.drew.c1
  have c2 := hf.drew.c2
  go_enter Tryz.func36, Tryz.ntmps36
  go_wp2
  go_region_held3 (fun w' => w'.cell? ⟨w.heap.size + 1 + 1, 0, none⟩ = some (.int .u64 x) ∧ w'.cell? ⟨w.heap.size + 1 + 1, 1, none⟩ = some (.int .u64 y) ∧ w'.cell? ⟨w.heap.size + 1 + 1, 2, none⟩ = some (.bool false)) (first | exact ⟨c0, c1, c2⟩ | exact ⟨keepC c0 b3, keepC c1 b3, keepC c2 b3⟩ | go_keep) ((go_at_call 58; refine (zpP _).mono ?_; rintro e w1 ⟨rfl, b3⟩))
  replace hp := (hp.drew).keep b3
  replace hr := (hr.drew).keep b3
  replace hb := keepB hb.drew hb.size b3
  clear b3 c0 c1 c2 hf
  have c0 := hp.c0
  go_wp2_with fail
  refine (E1 _).mono ?_
  rintro e w2 ⟨rfl, b4⟩
  replace hp := (hp.keep b4).alloc (Obj.cells #[.int .u64 z1] 105)
  replace hr := (hr.keep b4).alloc (Obj.cells #[.int .u64 z1] 105)
  replace hb := keepB hb hb.size b4
  replace hb := hb.alloc hb.size (Obj.cells #[.int .u64 z1] 105)
  have n1 := R1.new w2 z1
  clear b4 c0 E1
  have c1 := hp.c1
  go_wp2_with fail
  refine (E2 _).mono ?_
  rintro e w3 ⟨rfl, b5⟩
  replace hp := (hp.keep b5).alloc (Obj.cells #[.int .u64 z2] 105)
  replace hr := (hr.keep b5).alloc (Obj.cells #[.int .u64 z2] 105)
  replace n1 := (n1.keep b5).alloc (Obj.cells #[.int .u64 z2] 105)
  replace hb := keepB hb hb.size b5
  replace hb := hb.alloc hb.size (Obj.cells #[.int .u64 z2] 105)
  have n2 := R1.new w3 z2
  clear b5 c1 E2
  have c2 := hp.drew.c2
  have m1 := n1.drew.cell
  have m2 := n2.drew.cell
  go_wp2
  go_region
  clear c2 m1 m2
  go_wp2_with fail
  refine (zpP _).mono ?_
  rintro e w9 ⟨rfl, b9⟩
  replace hr := (hr.drew).keep b9
  replace hb := keepB hb.drew hb.size b9
  have d0 := hr.c0
  have d1 := hr.c1
  have d2 := hr.c2
  have f0 := hr.frz 0
  have f1 := hr.frz 1
  have f2 := hr.frz 2
  go_wp2
  exact bodyPost_ret (v := .tuple #[.agg #[.int .u64 0, .int .u64 0, .bool true], .bool false]) (cp_ct (fn := Tryz.f36) (p := 2) (u := 3) Tryz.results36 _ rfl (hr.set _ _ _)) rfl ⟨rfl, set3_below hb (by omega)⟩

set_option maxRecDepth 100000 in
set_option maxHeartbeats 2000000 in
theorem fndP_bigy (x y z1 z2 : Int) (w : World) 
    (E1 : ∀ w, Calls Tryz.prog 59 #[.int .u64 x, .agg #[]] w fun e w' => e = .returned (.tuple #[.agg #[.int .u64 z1], .bool true]) ∧ Below w.heap.size w w')
    (E2 : ∀ w, Calls Tryz.prog 59 #[.int .u64 y, .agg #[]] w fun e w' => e = .returned (.tuple #[.agg #[.int .u64 z2], .bool false]) ∧ Below w.heap.size w w') :
    Calls Tryz.prog 36 #[.agg #[.int .u64 x, .int .u64 y, .bool false]] w fun e w' => e = .returned (.tuple #[.agg #[.int .u64 0, .int .u64 0, .bool true], .bool false]) ∧ Below w.heap.size w w' := by
  obtain ⟨X, hX⟩ : ∃ X, X = ((w.alloc (Obj.cells #[.int .u64 x, .int .u64 y, .bool false] 27)).alloc (Obj.cells #[.int .u64 0, .int .u64 0, .bool false] 62)).alloc (Obj.cells #[.int .u64 x, .int .u64 y, .bool false] 62) := ⟨_, rfl⟩
  have hp : K3 X 27 w.heap.size x y false := by rw [hX]; exact ((K3.new w _ _ _ _).alloc _).alloc _
  have hf : K3 X 62 (w.heap.size + 1 + 1) x y false := by rw [hX]; exact (K3.new _ _ _ _ _).at (by simp)
  have hr : K3 X 62 (w.heap.size + 1) 0 0 false := by rw [hX]; exact ((K3.new _ _ 0 0 false).at (by simp)).alloc _
  have hb : Below w.heap.size w X := by rw [hX]; exact (((Below.refl _ w).alloc (Nat.le_refl _) _).alloc (by simp) _).alloc (by simp; omega) _
  rw [hX] at hp hf hr hb
  clear hX
  have c0 := hf.drew.c0
  have c1 := hf.drew.c1
  have c2 := hf.drew.c2
  go_enter Tryz.func36, Tryz.ntmps36
  go_wp2
  go_region_held3 (fun w' => w'.cell? ⟨w.heap.size + 1 + 1, 0, none⟩ = some (.int .u64 x) ∧ w'.cell? ⟨w.heap.size + 1 + 1, 1, none⟩ = some (.int .u64 y) ∧ w'.cell? ⟨w.heap.size + 1 + 1, 2, none⟩ = some (.bool false)) (first | exact ⟨c0, c1, c2⟩ | exact ⟨keepC c0 b3, keepC c1 b3, keepC c2 b3⟩ | go_keep) ((go_at_call 58; refine (zpP _).mono ?_; rintro e w1 ⟨rfl, b3⟩))
  replace hp := (hp.drew).keep b3
  replace hr := (hr.drew).keep b3
  replace hb := keepB hb.drew hb.size b3
  clear b3 c0 c1 c2 hf
  have c0 := hp.c0
  go_wp2_with fail
  refine (E1 _).mono ?_
  rintro e w2 ⟨rfl, b4⟩
  replace hp := (hp.keep b4).alloc (Obj.cells #[.int .u64 z1] 105)
  replace hr := (hr.keep b4).alloc (Obj.cells #[.int .u64 z1] 105)
  replace hb := keepB hb hb.size b4
  replace hb := hb.alloc hb.size (Obj.cells #[.int .u64 z1] 105)
  have n1 := R1.new w2 z1
  clear b4 c0 E1
  have c1 := hp.c1
  go_wp2_with fail
  refine (E2 _).mono ?_
  rintro e w3 ⟨rfl, b5⟩
  replace hp := (hp.keep b5).alloc (Obj.cells #[.int .u64 z2] 105)
  replace hr := (hr.keep b5).alloc (Obj.cells #[.int .u64 z2] 105)
  replace n1 := (n1.keep b5).alloc (Obj.cells #[.int .u64 z2] 105)
  replace hb := keepB hb hb.size b5
  replace hb := hb.alloc hb.size (Obj.cells #[.int .u64 z2] 105)
  have n2 := R1.new w3 z2
  clear b5 c1 E2
  have c2 := hp.drew.c2
  have m1 := n1.drew.cell
  have m2 := n2.drew.cell
  go_wp2
  go_region
  clear c2 m1 m2
  go_wp2_with fail
  refine (zpP _).mono ?_
  rintro e w9 ⟨rfl, b9⟩
  replace hr := (hr.drew).keep b9
  replace hb := keepB hb.drew hb.size b9
  have d0 := hr.c0
  have d1 := hr.c1
  have d2 := hr.c2
  have f0 := hr.frz 0
  have f1 := hr.frz 1
  have f2 := hr.frz 2
  go_wp2
  exact bodyPost_ret (v := .tuple #[.agg #[.int .u64 0, .int .u64 0, .bool true], .bool false]) (cp_ct (fn := Tryz.f36) (p := 2) (u := 3) Tryz.results36 _ rfl (hr.set _ _ _)) rfl ⟨rfl, set3_below hb (by omega)⟩

set_option maxRecDepth 100000 in
set_option maxHeartbeats 2000000 in
theorem fndP_off (x y z1 z2 : Int) (w : World) (hz : (z1 == z2) = false)
    (T1 : ∀ w, Calls Tryz.prog 60 #[.agg #[.int .u64 y], .agg #[.int .u64 y]] w fun e w' => e = .returned (.agg #[.int .u64 z1]) ∧ Below w.heap.size w w')
    (T2 : ∀ w, Calls Tryz.prog 61 #[.agg #[.int .u64 x]] w fun e w' => e = .returned (.agg #[.int .u64 z2]) ∧ Below w.heap.size w w')
    (E1 : ∀ w, Calls Tryz.prog 59 #[.int .u64 x, .agg #[]] w fun e w' => e = .returned (.tuple #[.agg #[.int .u64 x], .bool true]) ∧ Below w.heap.size w w')
    (E2 : ∀ w, Calls Tryz.prog 59 #[.int .u64 y, .agg #[]] w fun e w' => e = .returned (.tuple #[.agg #[.int .u64 y], .bool true]) ∧ Below w.heap.size w w') :
    Calls Tryz.prog 36 #[.agg #[.int .u64 x, .int .u64 y, .bool false]] w fun e w' => e = .returned (.tuple #[.agg #[.int .u64 0, .int .u64 0, .bool true], .bool false]) ∧ Below w.heap.size w w' := by
  obtain ⟨X, hX⟩ : ∃ X, X = ((w.alloc (Obj.cells #[.int .u64 x, .int .u64 y, .bool false] 27)).alloc (Obj.cells #[.int .u64 0, .int .u64 0, .bool false] 62)).alloc (Obj.cells #[.int .u64 x, .int .u64 y, .bool false] 62) := ⟨_, rfl⟩
  have hp : K3 X 27 w.heap.size x y false := by rw [hX]; exact ((K3.new w _ _ _ _).alloc _).alloc _
  have hf : K3 X 62 (w.heap.size + 1 + 1) x y false := by rw [hX]; exact (K3.new _ _ _ _ _).at (by simp)
  have hr : K3 X 62 (w.heap.size + 1) 0 0 false := by rw [hX]; exact ((K3.new _ _ 0 0 false).at (by simp)).alloc _
  have hb : Below w.heap.size w X := by rw [hX]; exact (((Below.refl _ w).alloc (Nat.le_refl _) _).alloc (by simp) _).alloc (by simp; omega) _
  rw [hX] at hp hf hr hb
  clear hX
  have c0 := hf.drew.c0
  have c1 := hf.drew.c1
  have c2 := hf.drew.c2
  go_enter Tryz.func36, Tryz.ntmps36
  go_wp2
  go_region_held3 (fun w' => w'.cell? ⟨w.heap.size + 1 + 1, 0, none⟩ = some (.int .u64 x) ∧ w'.cell? ⟨w.heap.size + 1 + 1, 1, none⟩ = some (.int .u64 y) ∧ w'.cell? ⟨w.heap.size + 1 + 1, 2, none⟩ = some (.bool false)) (first | exact ⟨c0, c1, c2⟩ | exact ⟨keepC c0 b3, keepC c1 b3, keepC c2 b3⟩ | go_keep) ((go_at_call 58; refine (zpP _).mono ?_; rintro e w1 ⟨rfl, b3⟩))
  replace hp := (hp.drew).keep b3
  replace hr := (hr.drew).keep b3
  replace hb := keepB hb.drew hb.size b3
  clear b3 c0 c1 c2 hf
  have c0 := hp.c0
  go_wp2_with fail
  refine (E1 _).mono ?_
  rintro e w2 ⟨rfl, b4⟩
  replace hp := (hp.keep b4).alloc (Obj.cells #[.int .u64 x] 105)
  replace hr := (hr.keep b4).alloc (Obj.cells #[.int .u64 x] 105)
  replace hb := keepB hb hb.size b4
  replace hb := hb.alloc hb.size (Obj.cells #[.int .u64 x] 105)
  have n1 := R1.new w2 x
  clear b4 c0 E1
  have c1 := hp.c1
  go_wp2_with fail
  refine (E2 _).mono ?_
  rintro e w3 ⟨rfl, b5⟩
  replace hp := (hp.keep b5).alloc (Obj.cells #[.int .u64 y] 105)
  replace hr := (hr.keep b5).alloc (Obj.cells #[.int .u64 y] 105)
  replace n1 := (n1.keep b5).alloc (Obj.cells #[.int .u64 y] 105)
  replace hb := keepB hb hb.size b5
  replace hb := hb.alloc hb.size (Obj.cells #[.int .u64 y] 105)
  have n2 := R1.new w3 y
  clear b5 c1 E2
  have c2 := hp.drew.c2
  have m1 := n1.drew.cell
  have m2 := n2.drew.cell
  go_wp2
  go_region_held3 (fun w' => w'.cell? ⟨w.heap.size, 2, none⟩ = some (.bool false) ∧ w'.cell? ⟨w2.heap.size, 0, none⟩ = some (.int .u64 x) ∧ w'.cell? ⟨w3.heap.size, 0, none⟩ = some (.int .u64 y)) (first | exact ⟨c2, m1, m2⟩ | exact ⟨keepC c2 b6, keepC m1 b6, keepC m2 b6⟩ | exact ⟨keepC (keepC c2 b6) b7, keepC (keepC m1 b6) b7, keepC (keepC m2 b6) b7⟩ | go_keep) (first
    | (go_at_call 60; refine (T1 _).mono ?_; rintro e w6 ⟨rfl, b6⟩)
    | (go_at_call 61; refine (T2 _).mono ?_; rintro e w7 ⟨rfl, b7⟩))
  clear c2 m1 m2
  go_wp2_with fail
  refine (zpP _).mono ?_
  rintro e w9 ⟨rfl, b9⟩
  replace hr := (((hr.drew).keep b6).keep b7).keep b9
  replace hb := keepB (keepB (keepB hb.drew hb.size b6) (Nat.le_trans hb.size b6.size) b7) (Nat.le_trans hb.size (Nat.le_trans b6.size b7.size)) b9
  have d0 := hr.c0
  have d1 := hr.c1
  have d2 := hr.c2
  have f0 := hr.frz 0
  have f1 := hr.frz 1
  have f2 := hr.frz 2
  go_wp2
  exact bodyPost_ret (v := .tuple #[.agg #[.int .u64 0, .int .u64 0, .bool true], .bool false]) (cp_ct (fn := Tryz.f36) (p := 2) (u := 3) Tryz.results36 _ rfl (hr.set _ _ _)) rfl ⟨rfl, set3_below hb (by omega)⟩

set_option maxRecDepth 100000 in
set_option maxHeartbeats 2000000 in
theorem fndP_on (x y z1 z2 : Int) (w : World) (hz : (z1 == z2) = true)
    (T1 : ∀ w, Calls Tryz.prog 60 #[.agg #[.int .u64 y], .agg #[.int .u64 y]] w fun e w' => e = .returned (.agg #[.int .u64 z1]) ∧ Below w.heap.size w w')
    (T2 : ∀ w, Calls Tryz.prog 61 #[.agg #[.int .u64 x]] w fun e w' => e = .returned (.agg #[.int .u64 z2]) ∧ Below w.heap.size w w')
    (E1 : ∀ w, Calls Tryz.prog 59 #[.int .u64 x, .agg #[]] w fun e w' => e = .returned (.tuple #[.agg #[.int .u64 x], .bool true]) ∧ Below w.heap.size w w')
    (E2 : ∀ w, Calls Tryz.prog 59 #[.int .u64 y, .agg #[]] w fun e w' => e = .returned (.tuple #[.agg #[.int .u64 y], .bool true]) ∧ Below w.heap.size w w') :
    Calls Tryz.prog 36 #[.agg #[.int .u64 x, .int .u64 y, .bool false]] w fun e w' => e = .returned (.tuple #[.agg #[.int .u64 x, .int .u64 y, .bool false], .bool true]) ∧ Below w.heap.size w w' := by
  obtain ⟨X, hX⟩ : ∃ X, X = ((w.alloc (Obj.cells #[.int .u64 x, .int .u64 y, .bool false] 27)).alloc (Obj.cells #[.int .u64 0, .int .u64 0, .bool false] 62)).alloc (Obj.cells #[.int .u64 x, .int .u64 y, .bool false] 62) := ⟨_, rfl⟩
  have hp : K3 X 27 w.heap.size x y false := by rw [hX]; exact ((K3.new w _ _ _ _).alloc _).alloc _
  have hf : K3 X 62 (w.heap.size + 1 + 1) x y false := by rw [hX]; exact (K3.new _ _ _ _ _).at (by simp)
  have hr : K3 X 62 (w.heap.size + 1) 0 0 false := by rw [hX]; exact ((K3.new _ _ 0 0 false).at (by simp)).alloc _
  have hb : Below w.heap.size w X := by rw [hX]; exact (((Below.refl _ w).alloc (Nat.le_refl _) _).alloc (by simp) _).alloc (by simp; omega) _
  rw [hX] at hp hf hr hb
  clear hX
  have c0 := hf.drew.c0
  have c1 := hf.drew.c1
  have c2 := hf.drew.c2
  go_enter Tryz.func36, Tryz.ntmps36
  go_wp2
  go_region_held3 (fun w' => w'.cell? ⟨w.heap.size + 1 + 1, 0, none⟩ = some (.int .u64 x) ∧ w'.cell? ⟨w.heap.size + 1 + 1, 1, none⟩ = some (.int .u64 y) ∧ w'.cell? ⟨w.heap.size + 1 + 1, 2, none⟩ = some (.bool false)) (first | exact ⟨c0, c1, c2⟩ | exact ⟨keepC c0 b3, keepC c1 b3, keepC c2 b3⟩ | go_keep) ((go_at_call 58; refine (zpP _).mono ?_; rintro e w1 ⟨rfl, b3⟩))
  replace hp := (hp.drew).keep b3
  replace hr := (hr.drew).keep b3
  replace hb := keepB hb.drew hb.size b3
  clear b3 c0 c1 c2 hf
  have c0 := hp.c0
  go_wp2_with fail
  refine (E1 _).mono ?_
  rintro e w2 ⟨rfl, b4⟩
  replace hp := (hp.keep b4).alloc (Obj.cells #[.int .u64 x] 105)
  replace hr := (hr.keep b4).alloc (Obj.cells #[.int .u64 x] 105)
  replace hb := keepB hb hb.size b4
  replace hb := hb.alloc hb.size (Obj.cells #[.int .u64 x] 105)
  have n1 := R1.new w2 x
  clear b4 c0 E1
  have c1 := hp.c1
  go_wp2_with fail
  refine (E2 _).mono ?_
  rintro e w3 ⟨rfl, b5⟩
  replace hp := (hp.keep b5).alloc (Obj.cells #[.int .u64 y] 105)
  replace hr := (hr.keep b5).alloc (Obj.cells #[.int .u64 y] 105)
  replace n1 := (n1.keep b5).alloc (Obj.cells #[.int .u64 y] 105)
  replace hb := keepB hb hb.size b5
  replace hb := hb.alloc hb.size (Obj.cells #[.int .u64 y] 105)
  have n2 := R1.new w3 y
  clear b5 c1 E2
  have c2 := hp.drew.c2
  have m1 := n1.drew.cell
  have m2 := n2.drew.cell
  go_wp2
  go_region_held3 (fun w' => w'.cell? ⟨w.heap.size, 2, none⟩ = some (.bool false) ∧ w'.cell? ⟨w2.heap.size, 0, none⟩ = some (.int .u64 x) ∧ w'.cell? ⟨w3.heap.size, 0, none⟩ = some (.int .u64 y)) (first | exact ⟨c2, m1, m2⟩ | exact ⟨keepC c2 b6, keepC m1 b6, keepC m2 b6⟩ | exact ⟨keepC (keepC c2 b6) b7, keepC (keepC m1 b6) b7, keepC (keepC m2 b6) b7⟩ | go_keep) (first
    | (go_at_call 60; refine (T1 _).mono ?_; rintro e w6 ⟨rfl, b6⟩)
    | (go_at_call 61; refine (T2 _).mono ?_; rintro e w7 ⟨rfl, b7⟩))
  replace hr := ((hr.drew).keep b6).keep b7
  replace hp := ((hp.drew).keep b6).keep b7
  replace hb := keepB (keepB hb.drew hb.size b6) (Nat.le_trans hb.size b6.size) b7
  clear c2 m1 m2
  have c0 := hp.c0
  have c1 := hp.c1
  have c2 := hp.c2
  have d0 := hr.c0
  have d1 := hr.c1
  have d2 := hr.c2
  have f0 := hr.frz 0
  have f1 := hr.frz 1
  have f2 := hr.frz 2
  go_wp2
  exact bodyPost_ret (v := .tuple #[.agg #[.int .u64 x, .int .u64 y, .bool false], .bool true]) (cp_ct (fn := Tryz.f36) (p := 2) (u := 3) Tryz.results36 _ rfl (hr.set _ _ _)) rfl ⟨rfl, set3_below hb (by omega)⟩

/-- what is found of three fields -/
theorem fndV (x y : Nat) (c : Bool) (w : World) :
    Calls Tryz.prog 36 #[.agg #[.int .u64 x, .int .u64 y, .bool c]] w fun e w' => e = .returned (.tuple #[ptW (asPt x y c), .bool (toPt x y c).isSome]) ∧ Below w.heap.size w w' := by
  have E : ∀ n : Nat, ∃ (z : Int) (b : Bool), (∀ w, Calls Tryz.prog 59 #[.int .u64 n, .agg #[]] w fun e w' => e = .returned (.tuple #[.agg #[.int .u64 z], .bool b]) ∧ Below w.heap.size w w') ∧
      ((b = true ∧ z = n ∧ n < 2305843009213693951) ∨ (b = false ∧ ¬ n < 2305843009213693951)) := fun n => by
    by_cases h : n < 2305843009213693951
    · exact ⟨n, true, fun w => exP_less n w (by omega), .inl ⟨rfl, rfl, h⟩⟩
    · exact ⟨0, false, fun w => exP_more n w (by omega), .inr ⟨rfl, h⟩⟩
  obtain ⟨zx, bx, E1, hx⟩ := E x
  obtain ⟨zy, by_, E2, hy⟩ := E y
  cases c with
  | true =>
    by_cases h0 : x = 0 ∧ y = 0
    · obtain ⟨rfl, rfl⟩ := h0
      have e1 : toPt 0 0 true = some none := by unfold toPt; rw [if_pos rfl, if_pos ⟨rfl, rfl⟩]
      rw [asPt_some e1, e1]
      exact fndP_zero w
    · have e1 : toPt x y true = none := by unfold toPt; rw [if_pos rfl, if_neg h0]
      have e2 : asPt x y true = none := by unfold asPt; rw [e1]; rfl
      rw [e1, e2]
      by_cases hx0 : x = 0
      · subst hx0
        exact fndP_inf2 y zx zy bx by_ w (by simp; omega) E1 E2
      · exact fndP_inf1 x y zx zy bx by_ w (by simp; omega) E1 E2
  | false =>
    rcases hx with ⟨rfl, rfl, hx⟩ | ⟨rfl, hx⟩
    · rcases hy with ⟨rfl, rfl, hy⟩ | ⟨rfl, hy⟩
      · have T1 := tmV ⟨y, hy⟩ ⟨y, hy⟩
        have T2 := csqV ⟨x, hx⟩
        have e0 : toPt x y false = if (⟨y, hy⟩ : Fp) * ⟨y, hy⟩ = crv ⟨x, hx⟩ then some (some (⟨x, hx⟩, ⟨y, hy⟩)) else none := by
          unfold toPt
          rw [if_neg (by decide), dif_pos ⟨hx, hy⟩]
        by_cases h : (⟨y, hy⟩ : Fp) * ⟨y, hy⟩ = crv ⟨x, hx⟩
        · rw [if_pos h] at e0
          rw [asPt_some e0, e0]
          exact fndP_on x y _ _ w (by rw [fv_eq]; simp [h]) T1 T2 E1 E2
        · rw [if_neg h] at e0
          have e2 : asPt x y false = none := by unfold asPt; rw [e0]; rfl
          rw [e0, e2]
          exact fndP_off x y _ _ w (by rw [fv_eq]; simp [h]) T1 T2 E1 E2
      · have e0 : toPt x y false = none := by
          unfold toPt
          rw [if_neg (by decide), dif_neg (fun h => hy h.2)]
        have e2 : asPt x y false = none := by unfold asPt; rw [e0]; rfl
        rw [e0, e2]
        exact fndP_bigy x y x zy w E1 E2
    · have e0 : toPt x y false = none := by
        unfold toPt
        rw [if_neg (by decide), dif_neg (fun h => hx h.1)]
      have e2 : asPt x y false = none := by unfold asPt; rw [e0]; rfl
      rw [e0, e2]
      exact fndP_bigx x y zx zy by_ w E1 E2
end Go.Proofs.YtagnikeaellbiaaGreatDoor

namespace Go.Proofs.YtagnikeaellbiaaGreatDoor
open Go.RowKit M
set_option linter.unusedVariables false

/-- the program's functions of points, whatever the fields are -/
theorem fndW (x y : Nat) (c : Bool) (w : World) :
    Calls Tryz.prog 36 #[.agg #[.int .u64 x, .int .u64 y, .bool c]] w fun e w' => e = .returned (.tuple #[.agg #[.int .u64 (px (asPt x y c)), .int .u64 (py (asPt x y c)), .bool (pb (asPt x y c))], .bool (toPt x y c).isSome]) ∧ Below w.heap.size w w' := by
  have := fndV x y c w
  rwa [ptW_eq] at this
end Go.Proofs.YtagnikeaellbiaaGreatDoor

/-
  strings.Repeat, by the shelf's contract, laid at this program.
-/
namespace Go.Proofs.YtagnikeaellbiaaGreatDoor
open Go.RowKit Go.Shelf
set_option linter.unusedVariables false

def renRepeat : Go.Shelf.Ren := ⟨fun | 105 => 135 | 212 => 138 | 99 => 139 | 165 => 140 | 166 => 100 | 170 => 141 | 169 => 101 | 263 => 142 | 264 => 85 | 206 => 143 | 240 => 113 | 241 => 144 | 276 => 122 | 277 => 145 | n => n, fun | 9 => 9 | 3 => 3 | 4 => 4 | 20 => 20 | 0 => 0 | 46 => 84 | 109 => 200 | 5 => 5 | 72 => 159 | 76 => 162 | 51 => 120 | 146 => 205 | 53 => 22 | 148 => 135 | 70 => 157 | 37 => 46 | 75 => 161 | 127 => 178 | 164 => 187 | 80 => 155 | n => n, fun | n => n⟩
theorem laysRepeat : Go.Proofs.Lays.n105 Tryz.prog renRepeat := {
  mixed := by kernel_rfl
  f99 := Tryz.func139.trans (congrArg some (by kernel_rfl))
  f105 := Tryz.func135.trans (congrArg some (by kernel_rfl))
  f165 := Tryz.func140.trans (congrArg some (by kernel_rfl))
  f166 := Tryz.func100.trans (congrArg some (by kernel_rfl))
  f169 := Tryz.func101.trans (congrArg some (by kernel_rfl))
  f170 := Tryz.func141.trans (congrArg some (by kernel_rfl))
  f206 := Tryz.func143.trans (congrArg some (by kernel_rfl))
  f212 := Tryz.func138.trans (congrArg some (by kernel_rfl))
  f240 := Tryz.func113.trans (congrArg some (by kernel_rfl))
  f241 := Tryz.func144.trans (congrArg some (by kernel_rfl))
  f263 := Tryz.func142.trans (congrArg some (by kernel_rfl))
  f264 := Tryz.func85.trans (congrArg some (by kernel_rfl))
  f276 := Tryz.func122.trans (congrArg some (by kernel_rfl))
  f277 := Tryz.func145.trans (congrArg some (by kernel_rfl))
  t0 := Tryz.underlying0
  a0 := Tryz.isAgg0
  z0 := Tryz.sizeOf0
  v0 := Tryz.zeroValue0
  t3 := Tryz.underlying3
  a3 := Tryz.isAgg3
  z3 := Tryz.sizeOf3
  v3 := Tryz.zeroValue3
  t4 := Tryz.underlying4
  a4 := Tryz.isAgg4
  z4 := Tryz.sizeOf4
  v4 := Tryz.zeroValue4
  t5 := Tryz.underlying5
  a5 := Tryz.isAgg5
  z5 := Tryz.sizeOf5
  v5 := Tryz.zeroValue5
  t9 := Tryz.underlying9
  a9 := Tryz.isAgg9
  z9 := Tryz.sizeOf9
  v9 := Tryz.zeroValue9
  t20 := Tryz.underlying20
  a20 := Tryz.isAgg20
  z20 := Tryz.sizeOf20
  v20 := Tryz.zeroValue20
  t37 := Tryz.underlying46
  a37 := Tryz.isAgg46
  z37 := Tryz.sizeOf46
  v37 := Tryz.zeroValue46
  t46 := Tryz.underlying84
  a46 := Tryz.isAgg84
  z46 := Tryz.sizeOf84
  v46 := Tryz.zeroValue84
  t51 := Tryz.underlying120
  a51 := Tryz.isAgg120
  z51 := Tryz.sizeOf120
  v51 := Tryz.zeroValue120
  t53 := Tryz.underlying22
  a53 := Tryz.isAgg22
  z53 := Tryz.sizeOf22
  v53 := Tryz.zeroValue22
  t70 := Tryz.underlying157
  a70 := Tryz.isAgg157
  z70 := Tryz.sizeOf157
  v70 := Tryz.zeroValue157
  t72 := Tryz.underlying159
  a72 := Tryz.isAgg159
  z72 := Tryz.sizeOf159
  v72 := Tryz.zeroValue159
  t75 := Tryz.underlying161
  a75 := Tryz.isAgg161
  z75 := Tryz.sizeOf161
  v75 := Tryz.zeroValue161
  t76 := Tryz.underlying162
  a76 := Tryz.isAgg162
  z76 := Tryz.sizeOf162
  v76 := Tryz.zeroValue162
  t109 := Tryz.underlying200
  a109 := Tryz.isAgg200
  z109 := Tryz.sizeOf200
  v109 := Tryz.zeroValue200
  t127 := Tryz.underlying178
  a127 := Tryz.isAgg178
  z127 := Tryz.sizeOf178
  v127 := Tryz.zeroValue178
  t146 := Tryz.underlying205
  a146 := Tryz.isAgg205
  z146 := Tryz.sizeOf205
  v146 := Tryz.zeroValue205
  t148 := Tryz.underlying135
  a148 := Tryz.isAgg135
  z148 := Tryz.sizeOf135
  v148 := Tryz.zeroValue135
  t164 := Tryz.underlying187
  a164 := Tryz.isAgg187
  z164 := Tryz.sizeOf187
  v164 := Tryz.zeroValue187 }
theorem extraRepeat : Builder.Extra Tryz.prog renRepeat := {
  sizeBuilder := by kernel_rfl
  liesBuilder := by kernel_rfl
  t5 := laysRepeat.t5
  a5 := laysRepeat.a5
  z5 := laysRepeat.z5
  v5 := laysRepeat.v5
  infoByte := by kernel_rfl
  cellsByte := by kernel_rfl
  sizeByte := by kernel_rfl
  neB5 := by decide }
theorem eq64 : (⟨(Lib.repeatL (⟨#[0]⟩ : ByteArray).data.toList 64).toArray⟩ : ByteArray) = strOfNums (List.replicate 64 0) := by kernel_rfl
theorem rep64 (w : World) : Calls Tryz.prog 135 #[.string ⟨#[0]⟩, .int .i64 64] w fun e w' => e = .returned (.string (strOfNums (List.replicate 64 0))) ∧ Below w.heap.size w w' :=
  (Any.strings_Repeat laysRepeat extraRepeat ⟨#[0]⟩ 64 w (by decide) (by decide)).mono fun e w' ⟨h, h'⟩ => ⟨h.trans (by rw [eq64]), h'⟩
theorem eq32 : (⟨(Lib.repeatL (⟨#[0]⟩ : ByteArray).data.toList 32).toArray⟩ : ByteArray) = strOfNums (List.replicate 32 0) := by kernel_rfl
theorem rep32 (w : World) : Calls Tryz.prog 135 #[.string ⟨#[0]⟩, .int .i64 32] w fun e w' => e = .returned (.string (strOfNums (List.replicate 32 0))) ∧ Below w.heap.size w w' :=
  (Any.strings_Repeat laysRepeat extraRepeat ⟨#[0]⟩ 32 w (by decide) (by decide)).mono fun e w' ⟨h, h'⟩ => ⟨h.trans (by rw [eq32]), h'⟩
end Go.Proofs.YtagnikeaellbiaaGreatDoor
