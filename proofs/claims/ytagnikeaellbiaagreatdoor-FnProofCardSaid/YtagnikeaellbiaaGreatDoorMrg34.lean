import Derived.Test.YtagnikeaellbiaaGreatDoorMrg33
import Derived.Test.YtagnikeaellbiaaGreatDoorMrg20
import Derived.Test.YtagnikeaellbiaaGreatDoorMrg18
import Derived.Test.YtagnikeaellbiaaGreatDoorChecked
import Derived.WalkKit
import Derived.ProofKit
import Derived.WalkSpells
import Derived.WalkLawsBesides
import Derived.Outline
import Derived.Laws.Bits64b
import Derived.Test.YtagnikeaellbiaaGreatDoorMrg0
import Derived.Test.YtagnikeaellbiaaGreatDoorMrg1
import Derived.Laws.BytesArg
namespace Go.Proofs.YtagnikeaellbiaaGreatDoor
open Go.RowKit
set_option linter.unusedVariables false
set_option maxRecDepth 100000
section
variable {A : Act} {w : World} {dst : Option Tmp} {ty : TypeId} {ps : String} {af : Array Edge} {gd : Option (Nat × Bool)} {x y : Operand} {b i : Nat}
theorem ld_lpt {v0 v1 v2 : Value} (hx : A.eval x = .pointer (some ⟨b, i, none⟩)) (h0 : w.cell? ⟨b, i, none⟩ = some v0) (h1 : w.cell? ⟨b, i + 1, none⟩ = some v1) (h2 : w.cell? ⟨b, i + 2, none⟩ = some v2) :
    Does Tryz.prog { dst := dst, op := .load 24 x, type := ty, pos := ps, after := af, guard := gd } A w fun v' w' => v' = .agg #[v0, v1, v2] ∧ Below w.heap.size w w' := by
  have h : (execOp A.eval { dst := dst, op := .load 24 x, type := ty, pos := ps, after := af, guard := gd }).run Tryz.prog w = .ok (.value (.agg #[v0, v1, v2])) w := by generalize A.eval = ev at *; simp [execOp, hx, h0, h1, h2, go_sem]
  exact does_value h ⟨rfl, Below.refl _ _⟩
theorem ld_lprf {v0 v1 : Value} (hx : A.eval x = .pointer (some ⟨b, i, none⟩)) (h0 : w.cell? ⟨b, i, none⟩ = some v0) (h1 : w.cell? ⟨b, i + 1, none⟩ = some v1) :
    Does Tryz.prog { dst := dst, op := .load 42 x, type := ty, pos := ps, after := af, guard := gd } A w fun v' w' => v' = .agg #[v0, v1] ∧ Below w.heap.size w w' := by
  have h : (execOp A.eval { dst := dst, op := .load 42 x, type := ty, pos := ps, after := af, guard := gd }).run Tryz.prog w = .ok (.value (.agg #[v0, v1])) w := by generalize A.eval = ev at *; simp [execOp, hx, h0, h1, go_sem]
  exact does_value h ⟨rfl, Below.refl _ _⟩
theorem ld_prf {v0 v1 : Value} (hx : A.eval x = .pointer (some ⟨b, i, none⟩)) (h0 : w.cell? ⟨b, i, none⟩ = some v0) (h1 : w.cell? ⟨b, i + 1, none⟩ = some v1) :
    Does Tryz.prog { dst := dst, op := .load 37 x, type := ty, pos := ps, after := af, guard := gd } A w fun v' w' => v' = .agg #[v0, v1] ∧ Below w.heap.size w w' := by
  have h : (execOp A.eval { dst := dst, op := .load 37 x, type := ty, pos := ps, after := af, guard := gd }).run Tryz.prog w = .ok (.value (.agg #[v0, v1])) w := by generalize A.eval = ev at *; simp [execOp, hx, h0, h1, go_sem]
  exact does_value h ⟨rfl, Below.refl _ _⟩
theorem xt2_0 {u0 u1 : Value} (hx : A.eval x = .tuple #[u0, u1]) :
    Does Tryz.prog { dst := dst, op := .extract x 0, type := ty, pos := ps, after := af, guard := gd } A w fun v' w' => v' = u0 ∧ Below w.heap.size w w' := by
  have h : (execOp A.eval { dst := dst, op := .extract x 0, type := ty, pos := ps, after := af, guard := gd }).run Tryz.prog w = .ok (.value (u0)) w := by generalize A.eval = ev at *; simp [execOp, hx, go_sem]
  exact does_value h ⟨rfl, Below.refl _ _⟩
theorem xt2_1 {u0 u1 : Value} (hx : A.eval x = .tuple #[u0, u1]) :
    Does Tryz.prog { dst := dst, op := .extract x 1, type := ty, pos := ps, after := af, guard := gd } A w fun v' w' => v' = u1 ∧ Below w.heap.size w w' := by
  have h : (execOp A.eval { dst := dst, op := .extract x 1, type := ty, pos := ps, after := af, guard := gd }).run Tryz.prog w = .ok (.value (u1)) w := by generalize A.eval = ev at *; simp [execOp, hx, go_sem]
  exact does_value h ⟨rfl, Below.refl _ _⟩
theorem xt3_0 {u0 u1 u2 : Value} (hx : A.eval x = .tuple #[u0, u1, u2]) :
    Does Tryz.prog { dst := dst, op := .extract x 0, type := ty, pos := ps, after := af, guard := gd } A w fun v' w' => v' = u0 ∧ Below w.heap.size w w' := by
  have h : (execOp A.eval { dst := dst, op := .extract x 0, type := ty, pos := ps, after := af, guard := gd }).run Tryz.prog w = .ok (.value (u0)) w := by generalize A.eval = ev at *; simp [execOp, hx, go_sem]
  exact does_value h ⟨rfl, Below.refl _ _⟩
theorem xt3_1 {u0 u1 u2 : Value} (hx : A.eval x = .tuple #[u0, u1, u2]) :
    Does Tryz.prog { dst := dst, op := .extract x 1, type := ty, pos := ps, after := af, guard := gd } A w fun v' w' => v' = u1 ∧ Below w.heap.size w w' := by
  have h : (execOp A.eval { dst := dst, op := .extract x 1, type := ty, pos := ps, after := af, guard := gd }).run Tryz.prog w = .ok (.value (u1)) w := by generalize A.eval = ev at *; simp [execOp, hx, go_sem]
  exact does_value h ⟨rfl, Below.refl _ _⟩
theorem xt3_2 {u0 u1 u2 : Value} (hx : A.eval x = .tuple #[u0, u1, u2]) :
    Does Tryz.prog { dst := dst, op := .extract x 2, type := ty, pos := ps, after := af, guard := gd } A w fun v' w' => v' = u2 ∧ Below w.heap.size w w' := by
  have h : (execOp A.eval { dst := dst, op := .extract x 2, type := ty, pos := ps, after := af, guard := gd }).run Tryz.prog w = .ok (.value (u2)) w := by generalize A.eval = ev at *; simp [execOp, hx, go_sem]
  exact does_value h ⟨rfl, Below.refl _ _⟩
theorem al_prf : Does Tryz.prog { dst := dst, op := .alloc 37, type := ty, pos := ps, after := af, guard := gd } A w fun v w' => v = .pointer (some ⟨w.heap.size, 0, none⟩) ∧ w' = w.alloc (.cells #[.int .u64 0, .int .u64 0] 37) := by
  have h : (execOp A.eval { dst := dst, op := .alloc 37, type := ty, pos := ps, after := af, guard := gd }).run Tryz.prog w = .ok (.value (.pointer (some ⟨w.heap.size, 0, none⟩))) (w.alloc (.cells #[.int .u64 0, .int .u64 0] 37)) := by simp [execOp, go_sem]
  exact does_value h ⟨rfl, rfl⟩
theorem pu_prf {z0 : Int} {z1 : Int} (hx : A.eval x = .pointer (some ⟨b, 0, none⟩)) (hy : A.eval y = .agg #[.int .u64 z0, .int .u64 z1]) (hr : w.heap[b]? = some (.cells #[.int .u64 0, .int .u64 0] 37)) :
    Does Tryz.prog { dst := dst, op := .store 37 x y, type := ty, pos := ps, after := af, guard := gd } A w fun _ w' => Turned b (.cells #[.int .u64 z0, .int .u64 z1] 37) w w' := by
  have c0 : w.cell? ⟨b, 0, none⟩ = some (.int .u64 0) := by simp [World.cell?, hr]
  have c1 : w.cell? ⟨b, 1, none⟩ = some (.int .u64 0) := by simp [World.cell?, hr]
  have hf : ∀ k, w.frozen? ⟨b, k, none⟩ = false := fun k => by simp [World.frozen?, hr]
  have h : (execOp A.eval { dst := dst, op := .store 37 x y, type := ty, pos := ps, after := af, guard := gd }).run Tryz.prog w = .ok .skip ((w.setCell ⟨b, 0, none⟩ (.int .u64 z0)).setCell ⟨b, 1, none⟩ (.int .u64 z1)) := by generalize A.eval = ev at *; simp [execOp, hx, hy, hf, c0, c1, go_sem]
  refine does_skip h ⟨rfl, rfl, rfl, by simp [World.setCell], by simp [World.setCell, Array.getElem?_modify, hr], fun k hk => ?_⟩
  simp [World.setCell, Array.getElem?_modify, Ne.symm hk]
end
theorem cf_laws_toPoint (args : Array Value) (w : World) : (callFunc 9 args).run Tryz.prog w = .ok (.enter 9 args) w := by kernel_rfl
theorem cf_laws_toPointS (args : Array Value) (w : World) : (callFunc 10 args).run Tryz.prog w = .ok (.enter 10 args) w := by kernel_rfl
theorem cf_laws_toProof (args : Array Value) (w : World) : (callFunc 18 args).run Tryz.prog w = .ok (.enter 18 args) w := by kernel_rfl
theorem cf_spec_Prove (args : Array Value) (w : World) : (callFunc 14 args).run Tryz.prog w = .ok (.enter 14 args) w := by kernel_rfl
theorem cf_impl_Prove (args : Array Value) (w : World) : (callFunc 15 args).run Tryz.prog w = .ok (.enter 15 args) w := by kernel_rfl
theorem cf_spec_Check (args : Array Value) (w : World) : (callFunc 17 args).run Tryz.prog w = .ok (.enter 17 args) w := by kernel_rfl
theorem cf_impl_Check (args : Array Value) (w : World) : (callFunc 19 args).run Tryz.prog w = .ok (.enter 19 args) w := by kernel_rfl
/-- a slice of n elements at the head of a block of its own -/
def slN (n x : Nat) : Value := .slice (some ⟨x, 0, none⟩) n n
theorem mad_lasts (ps : List Tri) (obs : List Obj) (hne : ∀ ob ∈ obs, ∃ cs T, ob = .cells cs T ∧ T ≠ 27) : G.Lasts (fun x w => Mad x ps w) obs :=
  ⟨fun x w w' h hb => h.keep hb, fun x w w' b ob ob' h hm hw hT => by
    obtain ⟨cs, T, rfl, hT'⟩ := hne ob hm
    obtain ⟨cur, h1, h2⟩ := h
    refine ⟨cur, ?_, h2⟩
    rw [hT.other x (fun e => ?_)]
    · exact h1
    · subst e
      rw [h1] at hw
      cases hw
      exact hT' rfl⟩
end Go.Proofs.YtagnikeaellbiaaGreatDoor

namespace Go.Proofs.YtagnikeaellbiaaGreatDoor
open Go.RowKit
set_option linter.unusedVariables false
set_option maxRecDepth 100000
section
variable {A : Act} {w : World} {dst : Option Tmp} {ty : TypeId} {ps : String} {af : Array Edge} {gd : Option (Nat × Bool)} {x y : Operand} {b i : Nat}
theorem fa_prf0 (hx : A.eval x = .pointer (some ⟨b, i, none⟩)) :
    Does Tryz.prog { dst := dst, op := .fieldAddr 37 x 0, type := ty, pos := ps, after := af, guard := gd } A w fun v' w' => v' = .pointer (some ⟨b, i, none⟩) ∧ Below w.heap.size w w' := by
  have h : (execOp A.eval { dst := dst, op := .fieldAddr 37 x 0, type := ty, pos := ps, after := af, guard := gd }).run Tryz.prog w = .ok (.value (.pointer (some ⟨b, i, none⟩))) w := by generalize A.eval = ev at *; simp [execOp, hx, go_sem]
  exact does_value h ⟨rfl, Below.refl _ _⟩
theorem fa_prf1 (hx : A.eval x = .pointer (some ⟨b, i, none⟩)) :
    Does Tryz.prog { dst := dst, op := .fieldAddr 37 x 1, type := ty, pos := ps, after := af, guard := gd } A w fun v' w' => v' = .pointer (some ⟨b, i + 1, none⟩) ∧ Below w.heap.size w w' := by
  have h : (execOp A.eval { dst := dst, op := .fieldAddr 37 x 1, type := ty, pos := ps, after := af, guard := gd }).run Tryz.prog w = .ok (.value (.pointer (some ⟨b, i + 1, none⟩))) w := by generalize A.eval = ev at *; simp [execOp, hx, go_sem]
  exact does_value h ⟨rfl, Below.refl _ _⟩
theorem al_pt : Does Tryz.prog { dst := dst, op := .alloc 27, type := ty, pos := ps, after := af, guard := gd } A w fun v w' => v = .pointer (some ⟨w.heap.size, 0, none⟩) ∧ w' = w.alloc (.cells #[.int .u64 0, .int .u64 0, .bool false] 27) := by
  have h : (execOp A.eval { dst := dst, op := .alloc 27, type := ty, pos := ps, after := af, guard := gd }).run Tryz.prog w = .ok (.value (.pointer (some ⟨w.heap.size, 0, none⟩))) (w.alloc (.cells #[.int .u64 0, .int .u64 0, .bool false] 27)) := by simp [execOp, go_sem]
  exact does_value h ⟨rfl, rfl⟩
theorem pu_pt {z0 : Int} {z1 : Int} {z2 : Bool} (hx : A.eval x = .pointer (some ⟨b, 0, none⟩)) (hy : A.eval y = .agg #[.int .u64 z0, .int .u64 z1, .bool z2]) (hr : w.heap[b]? = some (.cells #[.int .u64 0, .int .u64 0, .bool false] 27)) :
    Does Tryz.prog { dst := dst, op := .store 27 x y, type := ty, pos := ps, after := af, guard := gd } A w fun _ w' => Turned b (.cells #[.int .u64 z0, .int .u64 z1, .bool z2] 27) w w' := by
  have c0 : w.cell? ⟨b, 0, none⟩ = some (.int .u64 0) := by simp [World.cell?, hr]
  have c1 : w.cell? ⟨b, 1, none⟩ = some (.int .u64 0) := by simp [World.cell?, hr]
  have c2 : w.cell? ⟨b, 2, none⟩ = some (.bool false) := by simp [World.cell?, hr]
  have hf : ∀ k, w.frozen? ⟨b, k, none⟩ = false := fun k => by simp [World.frozen?, hr]
  have h : (execOp A.eval { dst := dst, op := .store 27 x y, type := ty, pos := ps, after := af, guard := gd }).run Tryz.prog w = .ok .skip (((w.setCell ⟨b, 0, none⟩ (.int .u64 z0)).setCell ⟨b, 1, none⟩ (.int .u64 z1)).setCell ⟨b, 2, none⟩ (.bool z2)) := by generalize A.eval = ev at *; simp [execOp, hx, hy, hf, c0, c1, c2, go_sem]
  refine does_skip h ⟨rfl, rfl, rfl, by simp [World.setCell], by simp [World.setCell, Array.getElem?_modify, hr], fun k hk => ?_⟩
  simp [World.setCell, Array.getElem?_modify, Ne.symm hk]
theorem eq_u64 {a b : Int} (hx : A.eval x = .int .u64 a) (hy : A.eval y = .int .u64 b) :
    Does Tryz.prog { dst := dst, op := .binOp .eql 22 x y 22, type := ty, pos := ps, after := af, guard := gd } A w fun v' w' => v' = .bool (a == b) ∧ Below w.heap.size w w' := by
  have h : (execOp A.eval { dst := dst, op := .binOp .eql 22 x y 22, type := ty, pos := ps, after := af, guard := gd }).run Tryz.prog w = .ok (.value (.bool (a == b))) w := by generalize A.eval = ev at *; simp [execOp, hx, hy, go_sem]
  exact does_value h ⟨rfl, Below.refl _ _⟩
end
end Go.Proofs.YtagnikeaellbiaaGreatDoor

namespace Go.Proofs.YtagnikeaellbiaaGreatDoor
open Go.RowKit
set_option linter.unusedVariables false

/-- code that is drawn from: a row of bytes, of at most 2^20 -/
def Cod (W : World) (v : Value) : Prop := (∃ p c, v = .slice p 0 c) ∨ ∃ b o n c : Nat, 0 < n ∧ n ≤ 1048576 ∧ v = .slice (some ⟨b, o, none⟩) n c ∧ ∀ i, i < n → ∃ x : Nat, x < 256 ∧ W.cell? ⟨b, o + i, none⟩ = some (.int .u8 x)
theorem Cod.below {W W' : World} {v : Value} (h : Cod W v) (hb : Below W.heap.size W W') : Cod W' v := by
  rcases h with h | ⟨b, o, n, c, h0, h1, rfl, hc⟩
  · exact .inl h
  · refine .inr ⟨b, o, n, c, h0, h1, rfl, fun i hi => ?_⟩
    obtain ⟨x, hx, hcell⟩ := hc i hi
    exact ⟨x, hx, (hb.cell (p := ⟨b, o + i, none⟩) (World.block_lt_of_cell? W _ hcell)).trans hcell⟩
end Go.Proofs.YtagnikeaellbiaaGreatDoor
