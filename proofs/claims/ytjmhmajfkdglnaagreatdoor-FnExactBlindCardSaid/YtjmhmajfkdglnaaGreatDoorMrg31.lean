import Derived.Test.YtjmhmajfkdglnaaGreatDoorMrg6
import Derived.Test.YtjmhmajfkdglnaaGreatDoorMrg30
namespace Go.Proofs.YtjmhmajfkdglnaaGreatDoor
open Go.RowKit
set_option linter.unusedVariables false
set_option maxRecDepth 100000
section
variable {A : Act} {w : World} {dst : Option Tmp} {ty : TypeId} {ps : String} {af : Array Edge} {gd : Option (Nat × Bool)}
theorem cg0 {F : FuncId} {at_ : Array TypeId} {Fv : Nat → Value} {R : Nat → World → Prop} (hcf : ∀ (args : Array Value) (w : World), (callFunc F args).run Tryz.prog w = .ok (.enter F args) w) 
    (hc : Calls Tryz.prog F #[] w fun e w' => ∃ x, e = .returned (Fv x) ∧ R x w' ∧ Below w.heap.size w w') :
    Does Tryz.prog { dst := dst, op := .call { callee := .value (.func F), args := #[], argTypes := at_ }, type := ty, pos := ps, after := af, guard := gd } A w fun v' w' => ∃ x, v' = Fv x ∧ R x w' ∧ Below w.heap.size w w' := by
  have hF : A.eval (.func F) = .func (.func F) #[] #[] := rfl
  have h : (execOp A.eval { dst := dst, op := .call { callee := .value (.func F), args := #[], argTypes := at_ }, type := ty, pos := ps, after := af, guard := gd }).run Tryz.prog w = .ok (.enter F #[]) w := by generalize A.eval = ev at *; simp [execOp, hF, hcf, go_sem]
  exact does_call h (hc.mono fun _ _ ⟨x, h, h'⟩ => ⟨Fv x, h, x, rfl, h'⟩)
theorem cg1 {F : FuncId} {at_ : Array TypeId} {Fv : Nat → Value} {R : Nat → World → Prop} {x0 : Operand} {u0 : Value} (hcf : ∀ (args : Array Value) (w : World), (callFunc F args).run Tryz.prog w = .ok (.enter F args) w) (h0 : A.eval x0 = u0)
    (hc : Calls Tryz.prog F #[u0] w fun e w' => ∃ x, e = .returned (Fv x) ∧ R x w' ∧ Below w.heap.size w w') :
    Does Tryz.prog { dst := dst, op := .call { callee := .value (.func F), args := #[x0], argTypes := at_ }, type := ty, pos := ps, after := af, guard := gd } A w fun v' w' => ∃ x, v' = Fv x ∧ R x w' ∧ Below w.heap.size w w' := by
  have hF : A.eval (.func F) = .func (.func F) #[] #[] := rfl
  have h : (execOp A.eval { dst := dst, op := .call { callee := .value (.func F), args := #[x0], argTypes := at_ }, type := ty, pos := ps, after := af, guard := gd }).run Tryz.prog w = .ok (.enter F #[u0]) w := by generalize A.eval = ev at *; simp [execOp, hF, hcf, h0, go_sem]
  exact does_call h (hc.mono fun _ _ ⟨x, h, h'⟩ => ⟨Fv x, h, x, rfl, h'⟩)
theorem cg2 {F : FuncId} {at_ : Array TypeId} {Fv : Nat → Value} {R : Nat → World → Prop} {x0 x1 : Operand} {u0 u1 : Value} (hcf : ∀ (args : Array Value) (w : World), (callFunc F args).run Tryz.prog w = .ok (.enter F args) w) (h0 : A.eval x0 = u0) (h1 : A.eval x1 = u1)
    (hc : Calls Tryz.prog F #[u0, u1] w fun e w' => ∃ x, e = .returned (Fv x) ∧ R x w' ∧ Below w.heap.size w w') :
    Does Tryz.prog { dst := dst, op := .call { callee := .value (.func F), args := #[x0, x1], argTypes := at_ }, type := ty, pos := ps, after := af, guard := gd } A w fun v' w' => ∃ x, v' = Fv x ∧ R x w' ∧ Below w.heap.size w w' := by
  have hF : A.eval (.func F) = .func (.func F) #[] #[] := rfl
  have h : (execOp A.eval { dst := dst, op := .call { callee := .value (.func F), args := #[x0, x1], argTypes := at_ }, type := ty, pos := ps, after := af, guard := gd }).run Tryz.prog w = .ok (.enter F #[u0, u1]) w := by generalize A.eval = ev at *; simp [execOp, hF, hcf, h0, h1, go_sem]
  exact does_call h (hc.mono fun _ _ ⟨x, h, h'⟩ => ⟨Fv x, h, x, rfl, h'⟩)
theorem cg3 {F : FuncId} {at_ : Array TypeId} {Fv : Nat → Value} {R : Nat → World → Prop} {x0 x1 x2 : Operand} {u0 u1 u2 : Value} (hcf : ∀ (args : Array Value) (w : World), (callFunc F args).run Tryz.prog w = .ok (.enter F args) w) (h0 : A.eval x0 = u0) (h1 : A.eval x1 = u1) (h2 : A.eval x2 = u2)
    (hc : Calls Tryz.prog F #[u0, u1, u2] w fun e w' => ∃ x, e = .returned (Fv x) ∧ R x w' ∧ Below w.heap.size w w') :
    Does Tryz.prog { dst := dst, op := .call { callee := .value (.func F), args := #[x0, x1, x2], argTypes := at_ }, type := ty, pos := ps, after := af, guard := gd } A w fun v' w' => ∃ x, v' = Fv x ∧ R x w' ∧ Below w.heap.size w w' := by
  have hF : A.eval (.func F) = .func (.func F) #[] #[] := rfl
  have h : (execOp A.eval { dst := dst, op := .call { callee := .value (.func F), args := #[x0, x1, x2], argTypes := at_ }, type := ty, pos := ps, after := af, guard := gd }).run Tryz.prog w = .ok (.enter F #[u0, u1, u2]) w := by generalize A.eval = ev at *; simp [execOp, hF, hcf, h0, h1, h2, go_sem]
  exact does_call h (hc.mono fun _ _ ⟨x, h, h'⟩ => ⟨Fv x, h, x, rfl, h'⟩)
theorem cg4 {F : FuncId} {at_ : Array TypeId} {Fv : Nat → Value} {R : Nat → World → Prop} {x0 x1 x2 x3 : Operand} {u0 u1 u2 u3 : Value} (hcf : ∀ (args : Array Value) (w : World), (callFunc F args).run Tryz.prog w = .ok (.enter F args) w) (h0 : A.eval x0 = u0) (h1 : A.eval x1 = u1) (h2 : A.eval x2 = u2) (h3 : A.eval x3 = u3)
    (hc : Calls Tryz.prog F #[u0, u1, u2, u3] w fun e w' => ∃ x, e = .returned (Fv x) ∧ R x w' ∧ Below w.heap.size w w') :
    Does Tryz.prog { dst := dst, op := .call { callee := .value (.func F), args := #[x0, x1, x2, x3], argTypes := at_ }, type := ty, pos := ps, after := af, guard := gd } A w fun v' w' => ∃ x, v' = Fv x ∧ R x w' ∧ Below w.heap.size w w' := by
  have hF : A.eval (.func F) = .func (.func F) #[] #[] := rfl
  have h : (execOp A.eval { dst := dst, op := .call { callee := .value (.func F), args := #[x0, x1, x2, x3], argTypes := at_ }, type := ty, pos := ps, after := af, guard := gd }).run Tryz.prog w = .ok (.enter F #[u0, u1, u2, u3]) w := by generalize A.eval = ev at *; simp [execOp, hF, hcf, h0, h1, h2, h3, go_sem]
  exact does_call h (hc.mono fun _ _ ⟨x, h, h'⟩ => ⟨Fv x, h, x, rfl, h'⟩)
end
/-- a slice of n elements, whose block and capacity lie in one number -/
def slG (n x : Nat) : Value := .slice (some ⟨x / 18446744073709551616, 0, none⟩) n (x % 18446744073709551616)
theorem slG_of (n g cap : Nat) (h : cap < 18446744073709551616) : slG n (g * 18446744073709551616 + cap) = .slice (some ⟨g, 0, none⟩) n cap := by
  unfold slG
  rw [show (g * 18446744073709551616 + cap) / 18446744073709551616 = g by omega, show (g * 18446744073709551616 + cap) % 18446744073709551616 = cap by omega]
theorem own_cap {W : World} {base : Nat} {e : TypeId} {size g n cap : Nat} {xs : List Value} (h : W.ownsRow base e size (.slice (some ⟨g, 0, none⟩) n cap) n xs) : cap < 18446744073709551616 := by
  rcases h.2 with ⟨h0, _⟩ | ⟨g', cap', cur, hv, -, -, -, hm, -⟩
  · cases h0
  · have : cap = cap' := by injection hv
    subst this
    unfold maxLen at hm; omega
theorem own_turned {w w' : World} {B : Nat} {e : TypeId} {s : Nat} {v : Value} {n : Nat} {xs : List Value} {b : Nat} {ob : Obj} (h : w.ownsRow B e s v n xs) (hT : Turned b ob w w') (hne : v.ownBlock ≠ some b) : w'.ownsRow B e s v n xs := by
  refine ⟨h.1, ?_⟩
  rcases h.2 with h2 | ⟨g, cap, cur, hv, hbg, hg, hr⟩
  · exact .inl h2
  · refine .inr ⟨g, cap, cur, hv, hbg, ?_, hr⟩
    rw [hT.other g (fun e => hne (by rw [hv, ← e]; rfl))]; exact hg
/-- a row of elements of type e goes on to hold while blocks of other types are turned -/
theorem own_lasts (B : Nat) (e : TypeId) (s n : Nat) (xs : List Value) (obs : List Obj) (hne : ∀ ob ∈ obs, ∃ cs T, ob = .cells cs T ∧ T ≠ e) : G.Lasts (fun x w => w.ownsRow B e s (slG n x) n xs) obs :=
  ⟨fun x w w' h hb => below_own3 h hb, fun x w w' b ob ob' h hm hw hT => by
    obtain ⟨cs, T, rfl, hT'⟩ := hne ob hm
    exact own_turned h hT (own_ne h hw hT')⟩
end Go.Proofs.YtjmhmajfkdglnaaGreatDoor

namespace Go.Proofs.YtjmhmajfkdglnaaGreatDoor
open Go.RowKit
set_option linter.unusedVariables false
set_option maxRecDepth 100000
section
variable {A : Act} {w : World} {dst : Option Tmp} {ty : TypeId} {ps : String} {af : Array Edge} {gd : Option (Nat × Bool)} {x y : Operand} {b i : Nat}
theorem fa_prf0 (hx : A.eval x = .pointer (some ⟨b, i, none⟩)) :
    Does Tryz.prog { dst := dst, op := .fieldAddr 40 x 0, type := ty, pos := ps, after := af, guard := gd } A w fun v' w' => v' = .pointer (some ⟨b, i, none⟩) ∧ Below w.heap.size w w' := by
  have h : (execOp A.eval { dst := dst, op := .fieldAddr 40 x 0, type := ty, pos := ps, after := af, guard := gd }).run Tryz.prog w = .ok (.value (.pointer (some ⟨b, i, none⟩))) w := by generalize A.eval = ev at *; simp [execOp, hx, go_sem]
  exact does_value h ⟨rfl, Below.refl _ _⟩
theorem fa_prf1 (hx : A.eval x = .pointer (some ⟨b, i, none⟩)) :
    Does Tryz.prog { dst := dst, op := .fieldAddr 40 x 1, type := ty, pos := ps, after := af, guard := gd } A w fun v' w' => v' = .pointer (some ⟨b, i + 1, none⟩) ∧ Below w.heap.size w w' := by
  have h : (execOp A.eval { dst := dst, op := .fieldAddr 40 x 1, type := ty, pos := ps, after := af, guard := gd }).run Tryz.prog w = .ok (.value (.pointer (some ⟨b, i + 1, none⟩))) w := by generalize A.eval = ev at *; simp [execOp, hx, go_sem]
  exact does_value h ⟨rfl, Below.refl _ _⟩
theorem al_pt : Does Tryz.prog { dst := dst, op := .alloc 28, type := ty, pos := ps, after := af, guard := gd } A w fun v w' => v = .pointer (some ⟨w.heap.size, 0, none⟩) ∧ w' = w.alloc (.cells #[.int .u64 0, .int .u64 0, .bool false] 28) := by
  have h : (execOp A.eval { dst := dst, op := .alloc 28, type := ty, pos := ps, after := af, guard := gd }).run Tryz.prog w = .ok (.value (.pointer (some ⟨w.heap.size, 0, none⟩))) (w.alloc (.cells #[.int .u64 0, .int .u64 0, .bool false] 28)) := by simp [execOp, go_sem]
  exact does_value h ⟨rfl, rfl⟩
theorem pu_pt {z0 : Int} {z1 : Int} {z2 : Bool} (hx : A.eval x = .pointer (some ⟨b, 0, none⟩)) (hy : A.eval y = .agg #[.int .u64 z0, .int .u64 z1, .bool z2]) (hr : w.heap[b]? = some (.cells #[.int .u64 0, .int .u64 0, .bool false] 28)) :
    Does Tryz.prog { dst := dst, op := .store 28 x y, type := ty, pos := ps, after := af, guard := gd } A w fun _ w' => Turned b (.cells #[.int .u64 z0, .int .u64 z1, .bool z2] 28) w w' := by
  have c0 : w.cell? ⟨b, 0, none⟩ = some (.int .u64 0) := by simp [World.cell?, hr]
  have c1 : w.cell? ⟨b, 1, none⟩ = some (.int .u64 0) := by simp [World.cell?, hr]
  have c2 : w.cell? ⟨b, 2, none⟩ = some (.bool false) := by simp [World.cell?, hr]
  have hf : ∀ k, w.frozen? ⟨b, k, none⟩ = false := fun k => by simp [World.frozen?, hr]
  have h : (execOp A.eval { dst := dst, op := .store 28 x y, type := ty, pos := ps, after := af, guard := gd }).run Tryz.prog w = .ok .skip (((w.setCell ⟨b, 0, none⟩ (.int .u64 z0)).setCell ⟨b, 1, none⟩ (.int .u64 z1)).setCell ⟨b, 2, none⟩ (.bool z2)) := by generalize A.eval = ev at *; simp [execOp, hx, hy, hf, c0, c1, c2, go_sem]
  refine does_skip h ⟨rfl, rfl, rfl, by simp [World.setCell], by simp [World.setCell, Array.getElem?_modify, hr], fun k hk => ?_⟩
  simp [World.setCell, Array.getElem?_modify, Ne.symm hk]
theorem eq_u64 {a b : Int} (hx : A.eval x = .int .u64 a) (hy : A.eval y = .int .u64 b) :
    Does Tryz.prog { dst := dst, op := .binOp .eql 22 x y 22, type := ty, pos := ps, after := af, guard := gd } A w fun v' w' => v' = .bool (a == b) ∧ Below w.heap.size w w' := by
  have h : (execOp A.eval { dst := dst, op := .binOp .eql 22 x y 22, type := ty, pos := ps, after := af, guard := gd }).run Tryz.prog w = .ok (.value (.bool (a == b))) w := by generalize A.eval = ev at *; simp [execOp, hx, hy, go_sem]
  exact does_value h ⟨rfl, Below.refl _ _⟩
end
end Go.Proofs.YtjmhmajfkdglnaaGreatDoor

namespace Go.Proofs.YtjmhmajfkdglnaaGreatDoor
open Go.RowKit
set_option linter.unusedVariables false
set_option maxRecDepth 100000
section
variable {A : Act} {w : World} {dst : Option Tmp} {ty : TypeId} {ps : String} {af : Array Edge} {gd : Option (Nat × Bool)} {x y : Operand} {b i : Nat}
end
theorem fldN5 (z : Int) (w : World) : (Instr.field 117 (.agg #[.int .u64 z]) 1).run Tryz.prog w = .ok (.int .u64 z) w := by kernel_rfl
section
variable {A : Act} {w : World} {dst : Option Tmp} {ty : TypeId} {ps : String} {af : Array Edge} {gd : Option (Nat × Bool)} {x y : Operand} {b i : Nat}
theorem fa_nN1 (hx : A.eval x = .pointer (some ⟨b, i, none⟩)) :
    Does Tryz.prog { dst := dst, op := .fieldAddr 117 x 1, type := ty, pos := ps, after := af, guard := gd } A w fun v' w' => v' = .pointer (some ⟨b, i, none⟩) ∧ Below w.heap.size w w' := by
  have h : (execOp A.eval { dst := dst, op := .fieldAddr 117 x 1, type := ty, pos := ps, after := af, guard := gd }).run Tryz.prog w = .ok (.value (.pointer (some ⟨b, i, none⟩))) w := by generalize A.eval = ev at *; simp [execOp, hx, go_sem]
  exact does_value h ⟨rfl, Below.refl _ _⟩
theorem fl_nN1 {z : Int} (hx : A.eval x = .agg #[.int .u64 z]) :
    Does Tryz.prog { dst := dst, op := .field 117 x 1, type := ty, pos := ps, after := af, guard := gd } A w fun v' w' => v' = .int .u64 z ∧ Below w.heap.size w w' := by
  have h : (execOp A.eval { dst := dst, op := .field 117 x 1, type := ty, pos := ps, after := af, guard := gd }).run Tryz.prog w = .ok (.value (.int .u64 z)) w := by generalize A.eval = ev at *; simp [execOp, hx, fldN5, go_sem]
  exact does_value h ⟨rfl, Below.refl _ _⟩
theorem eq_nN {a b : Int} (hx : A.eval x = .agg #[.int .u64 a]) (hy : A.eval y = .agg #[.int .u64 b]) :
    Does Tryz.prog { dst := dst, op := .binOp .eql 117 x y 117, type := ty, pos := ps, after := af, guard := gd } A w fun v' w' => v' = .bool (a == b) ∧ Below w.heap.size w w' := by
  have h : (execOp A.eval { dst := dst, op := .binOp .eql 117 x y 117, type := ty, pos := ps, after := af, guard := gd }).run Tryz.prog w = .ok (.value (.bool (a == b))) w := by
    generalize A.eval = ev at *
    by_cases e : a = b
    · subst e; simp [execOp, hx, hy, go_sem]
    · have e' : (a == b) = false := by simpa using e
      rw [e']
      simp [execOp, hx, hy, e, go_sem]
  exact does_value h ⟨rfl, Below.refl _ _⟩
theorem fa_cpt0 (hx : A.eval x = .pointer (some ⟨b, i, none⟩)) :
    Does Tryz.prog { dst := dst, op := .fieldAddr 106 x 0, type := ty, pos := ps, after := af, guard := gd } A w fun v' w' => v' = .pointer (some ⟨b, i, none⟩) ∧ Below w.heap.size w w' := by
  have h : (execOp A.eval { dst := dst, op := .fieldAddr 106 x 0, type := ty, pos := ps, after := af, guard := gd }).run Tryz.prog w = .ok (.value (.pointer (some ⟨b, i, none⟩))) w := by generalize A.eval = ev at *; simp [execOp, hx, go_sem]
  exact does_value h ⟨rfl, Below.refl _ _⟩
end
end Go.Proofs.YtjmhmajfkdglnaaGreatDoor
