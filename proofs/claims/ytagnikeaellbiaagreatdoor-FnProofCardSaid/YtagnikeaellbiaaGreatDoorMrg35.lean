import Derived.Test.YtagnikeaellbiaaGreatDoorMrg34
namespace Go.Proofs.YtagnikeaellbiaaGreatDoor
open Go.RowKit
set_option linter.unusedVariables false

set_option maxRecDepth 100000 in
theorem wpick_none (q : Option Addr) (c i : Nat) (w : World) :
    Calls Tryz.prog 27 #[.slice q 0 c, .int .i64 i] w fun e w' => e = .returned (.int .i64 i) ∧ w = w' := by
  go_enter Tryz.func27, Tryz.ntmps27
  go_wp2
  go_ret
  exact ⟨rfl, rfl⟩
set_option maxRecDepth 100000 in
set_option maxHeartbeats 1000000 in
theorem wpick_some (b o l c i j x : Nat) (w : World) (hl0 : 0 < l) (hl : l ≤ 1048576) (hi : i ≤ 1000) (hj : j = i % l) (hx : x < 256) (hc : w.cell? ⟨b, o + j, none⟩ = some (.int .u8 x)) :
    Calls Tryz.prog 27 #[.slice (some ⟨b, o, none⟩) l c, .int .i64 i] w fun e w' => e = .returned (.int .i64 x) ∧ w = w' := by
  have h2 : ((l : Int) == 0) = false := by simp; omega
  have h6 : ¬ (l = 0) := by omega
  have hj1 : j < l := by rw [hj]; exact Nat.mod_lt _ hl0
  have ej : (i : Int) % (l : Int) = (j : Int) := by rw [hj]; simp
  have hj2 : (j : Int) < (l : Int) := by omega
  clear hj
  go_enter Tryz.func27, Tryz.ntmps27
  go_wp2
  go_ret
  exact ⟨rfl, rfl⟩
theorem wpick_any (v : Value) (i : Nat) (w : World) (hv : Cod w v) (hi : i ≤ 1000) :
    Calls Tryz.prog 27 #[v, .int .i64 i] w fun e w' => (∃ z : Nat, z ≤ 1000 ∧ e = .returned (.int .i64 z)) ∧ w = w' := by
  rcases hv with ⟨q, c, rfl⟩ | ⟨b, o, l, c, h0, h1, rfl, hc⟩
  · refine (wpick_none q c i w).mono ?_
    rintro e w' ⟨rfl, rfl⟩
    exact ⟨⟨i, hi, rfl⟩, rfl⟩
  · obtain ⟨x, hx, hcell⟩ := hc (i % l) (Nat.mod_lt _ h0)
    refine (wpick_some b o l c i _ x w h0 h1 hi rfl hx hcell).mono ?_
    rintro e w' ⟨rfl, rfl⟩
    exact ⟨⟨x, by omega, rfl⟩, rfl⟩
end Go.Proofs.YtagnikeaellbiaaGreatDoor

/-
  The draws of the laws, as functions of the list: wPick, wWord, wKey.
-/
namespace Go.Proofs.YtagnikeaellbiaaGreatDoor
open Go.RowKit
set_option linter.unusedVariables false

/-- a list gives pk i at place i, also later -/
def Gives (w : World) (v : Value) (pk : Nat → Nat) : Prop := (∀ i : Nat, i ≤ 1000 → pk i ≤ 1000) ∧ ∀ w', Below w.heap.size w w' → ∀ i : Nat, i ≤ 1000 → Calls Tryz.prog 27 #[v, .int .i64 i] w' fun e w'' => e = .returned (.int .i64 (pk i : Nat)) ∧ w' = w''
theorem gives_of (v : Value) (w : World) (hv : Cod w v) : ∃ pk, Gives w v pk := by
  rcases hv with ⟨q, c, rfl⟩ | ⟨b, o, l, c, h0, h1, rfl, hc⟩
  · exact ⟨fun i => i, fun i hi => hi, fun w' _ i _ => wpick_none q c i w'⟩
  · have hx : ∀ i : Nat, ∃ x : Nat, x < 256 ∧ w.cell? ⟨b, o + i % l, none⟩ = some (.int .u8 x) := fun i => hc (i % l) (Nat.mod_lt _ h0)
    refine ⟨fun i => (hx i).choose, fun i _ => Nat.le_trans (Nat.le_of_lt (hx i).choose_spec.1) (by decide), fun w' hb i hi => ?_⟩
    have h2 := (hx i).choose_spec
    exact wpick_some b o l c i _ _ w' h0 h1 hi rfl h2.1 ((hb.cell (p := ⟨b, o + i % l, none⟩) (World.block_lt_of_cell? w _ h2.2)).trans h2.2)
theorem Gives.below {w w' : World} {v : Value} {pk : Nat → Nat} (h : Gives w v pk) (hb : Below w.heap.size w w') : Gives w' v pk := ⟨h.1, fun w2 hb2 i hi => h.2 w2 (hb.trans (hb2.mono hb.size)) i hi⟩
theorem Gives.pick {w : World} {v : Value} {pk : Nat → Nat} (h : Gives w v pk) (i : Nat) (hi : i ≤ 1000) : Calls Tryz.prog 27 #[v, .int .i64 i] w fun e w'' => e = .returned (.int .i64 (pk i : Nat)) ∧ w = w'' := h.2 w (Below.refl _ _) i hi
/-- a word made of a list -/
def wdTo (pk : Nat → Nat) (p : Nat) : Nat → Nat
  | 0 => 0
  | k + 1 => (wdTo pk p k * 256 % 18446744073709551616 + pk (p + k)) % 18446744073709551616
theorem wdTo_lt (pk : Nat → Nat) (p : Nat) : ∀ k, wdTo pk p k < 18446744073709551616
  | 0 => by unfold wdTo; decide
  | k + 1 => Nat.mod_lt _ (by decide)
def wd (pk : Nat → Nat) (p : Nat) : Nat := wdTo pk p 8
theorem wd_lt (pk : Nat → Nat) (p : Nat) : wd pk p < 18446744073709551616 := wdTo_lt pk p 8
/-- a key made of a list -/
def ky (pk : Nat → Nat) (p : Nat) : Nat := wd pk p % 2305843010818082052 + 1
theorem ky_lt (pk : Nat → Nat) (p : Nat) : ky pk p < 2305843010818082053 := by have := Nat.mod_lt (wd pk p) (show 0 < 2305843010818082052 by decide); unfold ky; omega
theorem ky_pos (pk : Nat → Nat) (p : Nat) : 0 < ky pk p := Nat.succ_pos _
set_option maxRecDepth 100000 in
set_option maxHeartbeats 1000000 in
theorem Gives.word {w : World} {v : Value} {pk : Nat → Nat} (hv : Gives w v pk) (p : Nat) (hp : p ≤ 900) :
    Calls Tryz.prog 23 #[v, .int .i64 p] w fun e w' => e = .returned (.int .u64 (wd pk p : Nat)) ∧ w = w' := by
  have T := fun i hi => hv.pick (p + i) (by omega : p + i ≤ 1000)
  have Z := fun i hi => hv.1 (p + i) (by omega : p + i ≤ 1000)
  obtain ⟨R, hR⟩ : ∃ R, Hid (R = wd pk p) := ⟨_, rfl⟩
  rw [← hR.out]
  go_enter Tryz.func23, Tryz.ntmps23
  go_wp2
  go_loop [5, 6] (fun rv iv => ∃ (k r : Nat), k ≤ 8 ∧ iv = .int .i64 (k : Int) ∧ rv = .int .u64 (r : Int) ∧ Hid (r = wdTo pk p k)) (fun _ i => 8 - (intOf i).toNat)
  case atStart => exact ⟨0, 0, by omega, rfl, rfl, rfl⟩
  case round =>
    obtain ⟨k, r, hk, rfl, rfl, hr⟩ := hrel
    by_cases hlt : k < 8
    · have hki : (k : Int) < 8 := by omega
      have T := T k (by omega)
      have Z := Z k (by omega)
      have e1 : ((p + k : Nat) : Int) = (p : Int) + (k : Int) := by omega
      rw [e1] at T
      have hn : Hid ((r * 256 % 18446744073709551616 + pk (p + k)) % 18446744073709551616 = wdTo pk p (k + 1)) := by simp only [Hid]; rw [hr.out]; rfl
      generalize pk (p + k) = z at *
      obtain ⟨a, ha⟩ : ∃ a : Nat, a = r * 256 % 18446744073709551616 := ⟨_, rfl⟩
      have ha1 : a < 18446744073709551616 := by rw [ha]; exact Nat.mod_lt _ (by decide)
      have e2 : IntKind.u64.wrap ((r : Int) * 256) = (a : Int) := by rw [IntKind.wrap_u64, ha]; omega
      rw [← ha] at hn
      obtain ⟨d, hd⟩ : ∃ d : Nat, d = (a + z) % 18446744073709551616 := ⟨_, rfl⟩
      have e3 : IntKind.u64.wrap (z : Int) = (z : Int) := by rw [IntKind.wrap_u64]; omega
      have e4 : IntKind.u64.wrap ((a : Int) + (z : Int)) = (d : Int) := by rw [IntKind.wrap_u64, hd]; omega
      rw [← hd] at hn
      clear hr ha e1 hlt hk hd ha1 Z
      go_wp2_with fail
      refine T.mono ?_
      rintro e w' ⟨rfl, rfl⟩
      clear T
      go_wp2
      go_round
      case rel => exact ⟨k + 1, d, by omega, by go_num, rfl, hn⟩
      case measure => simp [intOf]; omega
    · obtain rfl : k = 8 := by omega
      obtain rfl : r = R := hr.out.trans hR.out.symm
      go_wp2
      go_ret
      exact ⟨rfl, rfl⟩
set_option maxRecDepth 100000 in
theorem Gives.key {w : World} {v : Value} {pk : Nat → Nat} (hv : Gives w v pk) (p : Nat) (hp : p ≤ 900) :
    Calls Tryz.prog 41 #[v, .int .i64 p] w fun e w' => e = .returned (.int .u64 (ky pk p : Nat)) ∧ w = w' := by
  have T := hv.word p hp
  unfold ky
  generalize wd pk p = x at *
  have e1 : (x : Int) % 2305843010818082052 = ((x % 2305843010818082052 : Nat) : Int) := rfl
  have hz : x % 2305843010818082052 < 2305843010818082052 := Nat.mod_lt _ (by decide)
  generalize x % 2305843010818082052 = z at *
  have e2 : IntKind.u64.wrap ((z : Int) + 1) = (z : Int) + 1 := by rw [IntKind.wrap_u64]; omega
  go_enter Tryz.func41, Tryz.ntmps41
  go_wp2_with fail
  refine T.mono ?_
  rintro e w1 ⟨rfl, rfl⟩
  clear T
  go_wp2
  go_ret
  exact ⟨rfl, rfl⟩
end Go.Proofs.YtagnikeaellbiaaGreatDoor

namespace Go.Proofs.YtagnikeaellbiaaGreatDoor
open Go.RowKit
set_option linter.unusedVariables false
set_option maxRecDepth 100000
section
variable {A : Act} {w : World} {dst : Option Tmp} {ty : TypeId} {ps : String} {af : Array Edge} {gd : Option (Nat × Bool)} {x y : Operand} {b i : Nat}
theorem Z.rem_u64 {a c r : Int} (hx : A.eval x = .int .u64 a) (hy : A.eval y = .int .u64 c) (hc : ¬ c = 0) (h : a.tmod c = r) :
    Does Tryz.prog { dst := dst, op := .binOp .rem 22 x y 22, type := ty, pos := ps, after := af, guard := gd } A w fun v' w' => v' = .int .u64 r ∧ Below w.heap.size w w' := by
  have h : (execOp A.eval { dst := dst, op := .binOp .rem 22 x y 22, type := ty, pos := ps, after := af, guard := gd }).run Tryz.prog w = .ok (.value (.int .u64 r)) w := by generalize A.eval = ev at *; simp [execOp, hx, hy, hc, h, go_sem]
  exact does_value h ⟨rfl, Below.refl _ _⟩
theorem Z.add_u64 {a c r : Int} (hx : A.eval x = .int .u64 a) (hy : A.eval y = .int .u64 c) (h : IntKind.u64.wrap (a + c) = r) :
    Does Tryz.prog { dst := dst, op := .binOp .add 22 x y 22, type := ty, pos := ps, after := af, guard := gd } A w fun v' w' => v' = .int .u64 r ∧ Below w.heap.size w w' := by
  have h : (execOp A.eval { dst := dst, op := .binOp .add 22 x y 22, type := ty, pos := ps, after := af, guard := gd }).run Tryz.prog w = .ok (.value (.int .u64 r)) w := by generalize A.eval = ev at *; simp [execOp, hx, hy, h, go_sem]
  exact does_value h ⟨rfl, Below.refl _ _⟩
theorem Z.cv_u64 {a r : Int} (hx : A.eval x = .int .i64 a) (h : IntKind.u64.wrap a = r) :
    Does Tryz.prog { dst := dst, op := .convert 3 22 x, type := ty, pos := ps, after := af, guard := gd } A w fun v' w' => v' = .int .u64 r ∧ Below w.heap.size w w' := by
  have h : (execOp A.eval { dst := dst, op := .convert 3 22 x, type := ty, pos := ps, after := af, guard := gd }).run Tryz.prog w = .ok (.value (.int .u64 r)) w := by generalize A.eval = ev at *; simp [execOp, hx, h, go_sem]
  exact does_value h ⟨rfl, Below.refl _ _⟩
theorem Z.notT (hx : A.eval x = .bool true) :
    Does Tryz.prog { dst := dst, op := .unOp .not 4 x, type := ty, pos := ps, after := af, guard := gd } A w fun v' w' => v' = .bool false ∧ Below w.heap.size w w' := by
  have h : (execOp A.eval { dst := dst, op := .unOp .not 4 x, type := ty, pos := ps, after := af, guard := gd }).run Tryz.prog w = .ok (.value (.bool false)) w := by generalize A.eval = ev at *; simp [execOp, hx, go_sem]
  exact does_value h ⟨rfl, Below.refl _ _⟩
theorem Z.notF (hx : A.eval x = .bool false) :
    Does Tryz.prog { dst := dst, op := .unOp .not 4 x, type := ty, pos := ps, after := af, guard := gd } A w fun v' w' => v' = .bool true ∧ Below w.heap.size w w' := by
  have h : (execOp A.eval { dst := dst, op := .unOp .not 4 x, type := ty, pos := ps, after := af, guard := gd }).run Tryz.prog w = .ok (.value (.bool true)) w := by generalize A.eval = ev at *; simp [execOp, hx, go_sem]
  exact does_value h ⟨rfl, Below.refl _ _⟩
theorem Z.pkF {u : Value} {z : Operand} (hx : A.eval x = .bool false) (hz : A.eval z = u) :
    Does Tryz.prog { dst := dst, op := .pick x y z, type := ty, pos := ps, after := af, guard := gd } A w fun v' w' => v' = u ∧ Below w.heap.size w w' := by
  have h : (execOp A.eval { dst := dst, op := .pick x y z, type := ty, pos := ps, after := af, guard := gd }).run Tryz.prog w = .ok (.value (u)) w := by generalize A.eval = ev at *; simp [execOp, hx, hz, go_sem]
  exact does_value h ⟨rfl, Below.refl _ _⟩
theorem Z.pkT {u : Value} {z : Operand} (hx : A.eval x = .bool true) (hz : A.eval y = u) :
    Does Tryz.prog { dst := dst, op := .pick x y z, type := ty, pos := ps, after := af, guard := gd } A w fun v' w' => v' = u ∧ Below w.heap.size w w' := by
  have h : (execOp A.eval { dst := dst, op := .pick x y z, type := ty, pos := ps, after := af, guard := gd }).run Tryz.prog w = .ok (.value (u)) w := by generalize A.eval = ev at *; simp [execOp, hx, hz, go_sem]
  exact does_value h ⟨rfl, Below.refl _ _⟩
theorem Z.ne_prf {a c : Int} (hx : A.eval x = .agg #[.int .u64 a, .int .u64 c]) (hy : A.eval y = .agg #[.int .u64 a, .int .u64 c]) :
    Does Tryz.prog { dst := dst, op := .binOp .neq 37 x y 37, type := ty, pos := ps, after := af, guard := gd } A w fun v' w' => v' = .bool false ∧ Below w.heap.size w w' := by
  have h : (execOp A.eval { dst := dst, op := .binOp .neq 37 x y 37, type := ty, pos := ps, after := af, guard := gd }).run Tryz.prog w = .ok (.value (.bool false)) w := by generalize A.eval = ev at *; simp [execOp, hx, hy, go_sem]
  exact does_value h ⟨rfl, Below.refl _ _⟩
theorem Z.ne_pt {a c : Int} {d : Bool} (hx : A.eval x = .agg #[.int .u64 a, .int .u64 c, .bool d]) (hy : A.eval y = .agg #[.int .u64 a, .int .u64 c, .bool d]) :
    Does Tryz.prog { dst := dst, op := .binOp .neq 27 x y 27, type := ty, pos := ps, after := af, guard := gd } A w fun v' w' => v' = .bool false ∧ Below w.heap.size w w' := by
  have h : (execOp A.eval { dst := dst, op := .binOp .neq 27 x y 27, type := ty, pos := ps, after := af, guard := gd }).run Tryz.prog w = .ok (.value (.bool false)) w := by generalize A.eval = ev at *; simp [execOp, hx, hy, go_sem]
  exact does_value h ⟨rfl, Below.refl _ _⟩
theorem Z.ne_bool {c : Bool} (hx : A.eval x = .bool c) (hy : A.eval y = .bool c) :
    Does Tryz.prog { dst := dst, op := .binOp .neq 4 x y 4, type := ty, pos := ps, after := af, guard := gd } A w fun v' w' => v' = .bool false ∧ Below w.heap.size w w' := by
  have h : (execOp A.eval { dst := dst, op := .binOp .neq 4 x y 4, type := ty, pos := ps, after := af, guard := gd }).run Tryz.prog w = .ok (.value (.bool false)) w := by generalize A.eval = ev at *; simp [execOp, hx, hy, go_sem]
  exact does_value h ⟨rfl, Below.refl _ _⟩
theorem Z.cut {n cap o : Nat} (hx : A.eval x = .slice (some ⟨b, 0, none⟩) (n + 1) cap) (hy : A.eval y = .int .i64 1) (ho : (if cap = 1 then some (⟨b, 0, none⟩ : Addr) else some ⟨b, 3, none⟩) = some ⟨b, o, none⟩) :
    Does Tryz.prog { dst := dst, op := .slice 31 x (some y) none none, type := ty, pos := ps, after := af, guard := gd } A w fun v' w' => v' = .slice (some ⟨b, o, none⟩) n (cap - 1) ∧ Below w.heap.size w w' := by
  have h2 : (1 : Int) ≤ (n : Int) + 1 := by omega
  have h : (execOp A.eval { dst := dst, op := .slice 31 x (some y) none none, type := ty, pos := ps, after := af, guard := gd }).run Tryz.prog w = .ok (.value (.slice (some ⟨b, o, none⟩) n (cap - 1))) w := by generalize A.eval = ev at *; simp [execOp, hx, hy, h2, ho, go_sem]
  exact does_value h ⟨rfl, Below.refl _ _⟩
theorem Z.st_u64 {u : Value} {z : Int} (hx : A.eval x = .pointer (some ⟨b, i, none⟩)) (hy : A.eval y = .int .u64 z) (hc : w.cell? ⟨b, i, none⟩ = some u) (hf : w.frozen? ⟨b, i, none⟩ = false) :
    Does Tryz.prog { dst := dst, op := .store 22 x y, type := ty, pos := ps, after := af, guard := gd } A w fun _ w' => w' = w.setCell ⟨b, i, none⟩ (.int .u64 z) := by
  have h : (execOp A.eval { dst := dst, op := .store 22 x y, type := ty, pos := ps, after := af, guard := gd }).run Tryz.prog w = .ok .skip (w.setCell ⟨b, i, none⟩ (.int .u64 z)) := by generalize A.eval = ev at *; simp [execOp, hx, hy, hc, hf, go_sem]
  exact does_skip h rfl
end
theorem cf_laws_wWord (args : Array Value) (w : World) : (callFunc 23 args).run Tryz.prog w = .ok (.enter 23 args) w := by kernel_rfl
theorem cf_laws_wPick (args : Array Value) (w : World) : (callFunc 27 args).run Tryz.prog w = .ok (.enter 27 args) w := by kernel_rfl
theorem cf_impl_Times (args : Array Value) (w : World) : (callFunc 26 args).run Tryz.prog w = .ok (.enter 26 args) w := by kernel_rfl
end Go.Proofs.YtagnikeaellbiaaGreatDoor
