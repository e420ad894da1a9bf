import Derived.Test.YtdaobioomoajfaaGreatMrg18
import Derived.Test.YtdaobioomoajfaaGreatMrg1
import Derived.Test.YtdaobioomoajfaaGreatMrg17
import Derived.Deep.QuietTactic
import Derived.BigQuiet
set_option linter.unusedVariables false
set_option maxRecDepth 100000
set_option maxHeartbeats 16000000
namespace Go.Proofs.YtdaobioomoajfaaGreat.L
open Go.RowKit
section
variable {A : Act} {w : World} {dst : Option Tmp} {ty : TypeId} {ps : String} {af : Array Edge} {gd : Option (Nat × Bool)} {x y : Operand} {b i : Nat}
theorem move {u : Value} (hx : A.eval x = u) : Does Tryz.prog { dst := dst, op := .move x, type := ty, pos := ps, after := af, guard := gd } A w fun v' w' => v' = u ∧ Below w.heap.size w w' := by
  have h : (execOp A.eval { dst := dst, op := .move x, type := ty, pos := ps, after := af, guard := gd }).run Tryz.prog w = .ok (.value u) w := by generalize A.eval = ev at *; simp [execOp, hx, go_sem]
  exact does_value h ⟨rfl, Below.refl _ _⟩
theorem assign {u : Value} (hx : A.eval x = u) : Does Tryz.prog { dst := dst, op := .assign x, type := ty, pos := ps, after := af, guard := gd } A w fun v' w' => v' = u ∧ Below w.heap.size w w' := by
  have h : (execOp A.eval { dst := dst, op := .assign x, type := ty, pos := ps, after := af, guard := gd }).run Tryz.prog w = .ok (.value u) w := by generalize A.eval = ev at *; simp [execOp, hx, go_sem]
  exact does_value h ⟨rfl, Below.refl _ _⟩
theorem nck (hx : A.eval x = .pointer (some ⟨b, i, none⟩)) : Does Tryz.prog { dst := dst, op := .nilCheck x, type := ty, pos := ps, after := af, guard := gd } A w fun v' w' => v' = .pointer (some ⟨b, i, none⟩) ∧ Below w.heap.size w w' := by
  have h : (execOp A.eval { dst := dst, op := .nilCheck x, type := ty, pos := ps, after := af, guard := gd }).run Tryz.prog w = .ok (.value (.pointer (some ⟨b, i, none⟩))) w := by generalize A.eval = ev at *; simp [execOp, hx, go_sem]
  exact does_value h ⟨rfl, Below.refl _ _⟩
theorem ldS {v0 : Value} (hx : A.eval x = .pointer (some ⟨b, i, none⟩)) (h0 : w.cell? ⟨b, i, none⟩ = some v0) : Does Tryz.prog { dst := dst, op := .load 9 x, type := ty, pos := ps, after := af, guard := gd } A w fun v' w' => v' = v0 ∧ Below w.heap.size w w' := by
  have h : (execOp A.eval { dst := dst, op := .load 9 x, type := ty, pos := ps, after := af, guard := gd }).run Tryz.prog w = .ok (.value v0) w := by generalize A.eval = ev at *; simp [execOp, hx, h0, go_sem]
  exact does_value h ⟨rfl, Below.refl _ _⟩
theorem ldI {v0 : Value} (hx : A.eval x = .pointer (some ⟨b, i, none⟩)) (h0 : w.cell? ⟨b, i, none⟩ = some v0) : Does Tryz.prog { dst := dst, op := .load 3 x, type := ty, pos := ps, after := af, guard := gd } A w fun v' w' => v' = v0 ∧ Below w.heap.size w w' := by
  have h : (execOp A.eval { dst := dst, op := .load 3 x, type := ty, pos := ps, after := af, guard := gd }).run Tryz.prog w = .ok (.value v0) w := by generalize A.eval = ev at *; simp [execOp, hx, h0, go_sem]
  exact does_value h ⟨rfl, Below.refl _ _⟩
theorem ldP {v0 v1 v2 : Value} (hx : A.eval x = .pointer (some ⟨b, i, none⟩)) (h0 : w.cell? ⟨b, i, none⟩ = some v0) (h1 : w.cell? ⟨b, i + 1, none⟩ = some v1) (h2 : w.cell? ⟨b, i + 2, none⟩ = some v2) :
    Does Tryz.prog { dst := dst, op := .load 25 x, type := ty, pos := ps, after := af, guard := gd } A w fun v' w' => v' = .agg #[v0, v1, v2] ∧ Below w.heap.size w w' := by
  have h : (execOp A.eval { dst := dst, op := .load 25 x, type := ty, pos := ps, after := af, guard := gd }).run Tryz.prog w = .ok (.value (.agg #[v0, v1, v2])) w := by generalize A.eval = ev at *; simp [execOp, hx, h0, h1, h2, go_sem]
  exact does_value h ⟨rfl, Below.refl _ _⟩
theorem cat {a c : ByteArray} (hx : A.eval x = .string a) (hy : A.eval y = .string c) (hz : a.size + c.size ≤ 9223372036854775807) : Does Tryz.prog { dst := dst, op := .binOp .add 9 x y 9, type := ty, pos := ps, after := af, guard := gd } A w fun v' w' => v' = .string (a ++ c) ∧ Below w.heap.size w w' := by
  have hn : ¬ (9223372036854775807 < a.size + c.size) := by omega
  have h : (execOp A.eval { dst := dst, op := .binOp .add 9 x y 9, type := ty, pos := ps, after := af, guard := gd }).run Tryz.prog w = .ok (.value (.string (a ++ c))) w := by generalize A.eval = ev at *; simp [execOp, hx, hy, hn, go_sem]
  exact does_value h ⟨rfl, Below.refl _ _⟩
theorem cvU {n m : Int} (hx : A.eval x = .int .i64 n) (hm : IntKind.u64.wrap n = m) : Does Tryz.prog { dst := dst, op := .convert 3 23 x, type := ty, pos := ps, after := af, guard := gd } A w fun v' w' => v' = .int .u64 m ∧ Below w.heap.size w w' := by
  have h : (execOp A.eval { dst := dst, op := .convert 3 23 x, type := ty, pos := ps, after := af, guard := gd }).run Tryz.prog w = .ok (.value (.int .u64 m)) w := by generalize A.eval = ev at *; simp [execOp, hx, hm, go_sem]
  exact does_value h ⟨rfl, Below.refl _ _⟩
theorem cl1 {F : FuncId} {at_ : Array TypeId} {r : Value} {x0 : Operand} {u0 : Value} (hcf : ∀ (args : Array Value) (w : World), (callFunc F args).run Tryz.prog w = .ok (.enter F args) w) (h0 : A.eval x0 = u0)
    (hc : Calls Tryz.prog F #[u0] w fun e w' => e = .returned r ∧ Below w.heap.size w w') :
    Does Tryz.prog { dst := dst, op := .call { callee := .value (.func F), args := #[x0], argTypes := at_ }, type := ty, pos := ps, after := af, guard := gd } A w fun v' w' => v' = r ∧ Below w.heap.size w w' := by
  have hF : A.eval (.func F) = .func (.func F) #[] #[] := rfl
  have h : (execOp A.eval { dst := dst, op := .call { callee := .value (.func F), args := #[x0], argTypes := at_ }, type := ty, pos := ps, after := af, guard := gd }).run Tryz.prog w = .ok (.enter F #[u0]) w := by generalize A.eval = ev at *; simp [execOp, hF, hcf, h0, go_sem]
  exact does_call h (hc.mono fun _ _ ⟨h, h'⟩ => ⟨r, h, rfl, h'⟩)
theorem cl2 {F : FuncId} {at_ : Array TypeId} {r : Value} {x0 x1 : Operand} {u0 u1 : Value} (hcf : ∀ (args : Array Value) (w : World), (callFunc F args).run Tryz.prog w = .ok (.enter F args) w) (h0 : A.eval x0 = u0) (h1 : A.eval x1 = u1)
    (hc : Calls Tryz.prog F #[u0, u1] w fun e w' => e = .returned r ∧ Below w.heap.size w w') :
    Does Tryz.prog { dst := dst, op := .call { callee := .value (.func F), args := #[x0, x1], argTypes := at_ }, type := ty, pos := ps, after := af, guard := gd } A w fun v' w' => v' = r ∧ Below w.heap.size w w' := by
  have hF : A.eval (.func F) = .func (.func F) #[] #[] := rfl
  have h : (execOp A.eval { dst := dst, op := .call { callee := .value (.func F), args := #[x0, x1], argTypes := at_ }, type := ty, pos := ps, after := af, guard := gd }).run Tryz.prog w = .ok (.enter F #[u0, u1]) w := by generalize A.eval = ev at *; simp [execOp, hF, hcf, h0, h1, go_sem]
  exact does_call h (hc.mono fun _ _ ⟨h, h'⟩ => ⟨r, h, rfl, h'⟩)
theorem puS {T' : TypeId} {cs : Array Value} {u : ByteArray} (hx : A.eval x = .pointer (some ⟨b, i, none⟩)) (hy : A.eval y = .string u) (hr : w.heap[b]? = some (.cells cs T')) (hl : i < cs.size) :
    Does Tryz.prog { dst := dst, op := .store 9 x y, type := ty, pos := ps, after := af, guard := gd } A w fun _ w' => Turned b (.cells (cs.setIfInBounds i (.string u)) T') w w' := by
  have hb : Bk w T' b cs := hr
  have hc := hb.cell (v := cs[i]) (Array.getElem?_eq_getElem hl)
  have hf := hb.frz i
  have h : (execOp A.eval { dst := dst, op := .store 9 x y, type := ty, pos := ps, after := af, guard := gd }).run Tryz.prog w = .ok .skip (w.setCell ⟨b, i, none⟩ (.string u)) := by
    generalize A.eval = ev at *
    simp [execOp, hx, hy, hc, hf, go_sem]
  exact does_skip h ⟨rfl, rfl, rfl, by simp, hb.set i _, fun k hk => heap_setCell_other w ⟨b, i, none⟩ k _ (fun e => hk e)⟩
end
theorem fa_w0 {A : Act} {w : World} {dst : Option Tmp} {ty : TypeId} {ps : String} {af : Array Edge} {gd : Option (Nat × Bool)} {x : Operand} {b i : Nat} (hx : A.eval x = .pointer (some ⟨b, i, none⟩)) : Does Tryz.prog { dst := dst, op := .fieldAddr 49 x 0, type := ty, pos := ps, after := af, guard := gd } A w fun v' w' => v' = .pointer (some ⟨b, i, none⟩) ∧ Below w.heap.size w w' := by
  have h : (execOp A.eval { dst := dst, op := .fieldAddr 49 x 0, type := ty, pos := ps, after := af, guard := gd }).run Tryz.prog w = .ok (.value (.pointer (some ⟨b, i, none⟩))) w := by generalize A.eval = ev at *; simp [execOp, hx, go_sem]
  exact does_value h ⟨rfl, Below.refl _ _⟩
theorem fa_w1 {A : Act} {w : World} {dst : Option Tmp} {ty : TypeId} {ps : String} {af : Array Edge} {gd : Option (Nat × Bool)} {x : Operand} {b i : Nat} (hx : A.eval x = .pointer (some ⟨b, i, none⟩)) : Does Tryz.prog { dst := dst, op := .fieldAddr 49 x 1, type := ty, pos := ps, after := af, guard := gd } A w fun v' w' => v' = .pointer (some ⟨b, i + 12, none⟩) ∧ Below w.heap.size w w' := by
  have h : (execOp A.eval { dst := dst, op := .fieldAddr 49 x 1, type := ty, pos := ps, after := af, guard := gd }).run Tryz.prog w = .ok (.value (.pointer (some ⟨b, i + 12, none⟩))) w := by generalize A.eval = ev at *; simp [execOp, hx, go_sem]
  exact does_value h ⟨rfl, Below.refl _ _⟩
theorem fa_m1 {A : Act} {w : World} {dst : Option Tmp} {ty : TypeId} {ps : String} {af : Array Edge} {gd : Option (Nat × Bool)} {x : Operand} {b i : Nat} (hx : A.eval x = .pointer (some ⟨b, i, none⟩)) : Does Tryz.prog { dst := dst, op := .fieldAddr 27 x 1, type := ty, pos := ps, after := af, guard := gd } A w fun v' w' => v' = .pointer (some ⟨b, i + 1, none⟩) ∧ Below w.heap.size w w' := by
  have h : (execOp A.eval { dst := dst, op := .fieldAddr 27 x 1, type := ty, pos := ps, after := af, guard := gd }).run Tryz.prog w = .ok (.value (.pointer (some ⟨b, i + 1, none⟩))) w := by generalize A.eval = ev at *; simp [execOp, hx, go_sem]
  exact does_value h ⟨rfl, Below.refl _ _⟩
theorem fa_m2 {A : Act} {w : World} {dst : Option Tmp} {ty : TypeId} {ps : String} {af : Array Edge} {gd : Option (Nat × Bool)} {x : Operand} {b i : Nat} (hx : A.eval x = .pointer (some ⟨b, i, none⟩)) : Does Tryz.prog { dst := dst, op := .fieldAddr 27 x 2, type := ty, pos := ps, after := af, guard := gd } A w fun v' w' => v' = .pointer (some ⟨b, i + 2, none⟩) ∧ Below w.heap.size w w' := by
  have h : (execOp A.eval { dst := dst, op := .fieldAddr 27 x 2, type := ty, pos := ps, after := af, guard := gd }).run Tryz.prog w = .ok (.value (.pointer (some ⟨b, i + 2, none⟩))) w := by generalize A.eval = ev at *; simp [execOp, hx, go_sem]
  exact does_value h ⟨rfl, Below.refl _ _⟩
theorem fa_m3 {A : Act} {w : World} {dst : Option Tmp} {ty : TypeId} {ps : String} {af : Array Edge} {gd : Option (Nat × Bool)} {x : Operand} {b i : Nat} (hx : A.eval x = .pointer (some ⟨b, i, none⟩)) : Does Tryz.prog { dst := dst, op := .fieldAddr 27 x 3, type := ty, pos := ps, after := af, guard := gd } A w fun v' w' => v' = .pointer (some ⟨b, i + 5, none⟩) ∧ Below w.heap.size w w' := by
  have h : (execOp A.eval { dst := dst, op := .fieldAddr 27 x 3, type := ty, pos := ps, after := af, guard := gd }).run Tryz.prog w = .ok (.value (.pointer (some ⟨b, i + 5, none⟩))) w := by generalize A.eval = ev at *; simp [execOp, hx, go_sem]
  exact does_value h ⟨rfl, Below.refl _ _⟩
theorem fa_m4 {A : Act} {w : World} {dst : Option Tmp} {ty : TypeId} {ps : String} {af : Array Edge} {gd : Option (Nat × Bool)} {x : Operand} {b i : Nat} (hx : A.eval x = .pointer (some ⟨b, i, none⟩)) : Does Tryz.prog { dst := dst, op := .fieldAddr 27 x 4, type := ty, pos := ps, after := af, guard := gd } A w fun v' w' => v' = .pointer (some ⟨b, i + 8, none⟩) ∧ Below w.heap.size w w' := by
  have h : (execOp A.eval { dst := dst, op := .fieldAddr 27 x 4, type := ty, pos := ps, after := af, guard := gd }).run Tryz.prog w = .ok (.value (.pointer (some ⟨b, i + 8, none⟩))) w := by generalize A.eval = ev at *; simp [execOp, hx, go_sem]
  exact does_value h ⟨rfl, Below.refl _ _⟩
theorem fa_m5 {A : Act} {w : World} {dst : Option Tmp} {ty : TypeId} {ps : String} {af : Array Edge} {gd : Option (Nat × Bool)} {x : Operand} {b i : Nat} (hx : A.eval x = .pointer (some ⟨b, i, none⟩)) : Does Tryz.prog { dst := dst, op := .fieldAddr 27 x 5, type := ty, pos := ps, after := af, guard := gd } A w fun v' w' => v' = .pointer (some ⟨b, i + 9, none⟩) ∧ Below w.heap.size w w' := by
  have h : (execOp A.eval { dst := dst, op := .fieldAddr 27 x 5, type := ty, pos := ps, after := af, guard := gd }).run Tryz.prog w = .ok (.value (.pointer (some ⟨b, i + 9, none⟩))) w := by generalize A.eval = ev at *; simp [execOp, hx, go_sem]
  exact does_value h ⟨rfl, Below.refl _ _⟩
theorem fa_m6 {A : Act} {w : World} {dst : Option Tmp} {ty : TypeId} {ps : String} {af : Array Edge} {gd : Option (Nat × Bool)} {x : Operand} {b i : Nat} (hx : A.eval x = .pointer (some ⟨b, i, none⟩)) : Does Tryz.prog { dst := dst, op := .fieldAddr 27 x 6, type := ty, pos := ps, after := af, guard := gd } A w fun v' w' => v' = .pointer (some ⟨b, i + 10, none⟩) ∧ Below w.heap.size w w' := by
  have h : (execOp A.eval { dst := dst, op := .fieldAddr 27 x 6, type := ty, pos := ps, after := af, guard := gd }).run Tryz.prog w = .ok (.value (.pointer (some ⟨b, i + 10, none⟩))) w := by generalize A.eval = ev at *; simp [execOp, hx, go_sem]
  exact does_value h ⟨rfl, Below.refl _ _⟩
theorem fa_m7 {A : Act} {w : World} {dst : Option Tmp} {ty : TypeId} {ps : String} {af : Array Edge} {gd : Option (Nat × Bool)} {x : Operand} {b i : Nat} (hx : A.eval x = .pointer (some ⟨b, i, none⟩)) : Does Tryz.prog { dst := dst, op := .fieldAddr 27 x 7, type := ty, pos := ps, after := af, guard := gd } A w fun v' w' => v' = .pointer (some ⟨b, i + 11, none⟩) ∧ Below w.heap.size w w' := by
  have h : (execOp A.eval { dst := dst, op := .fieldAddr 27 x 7, type := ty, pos := ps, after := af, guard := gd }).run Tryz.prog w = .ok (.value (.pointer (some ⟨b, i + 11, none⟩))) w := by generalize A.eval = ev at *; simp [execOp, hx, go_sem]
  exact does_value h ⟨rfl, Below.refl _ _⟩
end Go.Proofs.YtdaobioomoajfaaGreat.L
namespace Go.Proofs.YtdaobioomoajfaaGreat
open Go.RowKit
def RS (v : Value) (base : Nat) (g : Nat) (w : World) : Prop := SM v base w g
def RB (cs : Array Value) (x : Nat) (w : World) : Prop := w.heap[x]? = some (.cells cs 1)
theorem RB_below {cs : Array Value} {x : Nat} {w w' : World} (h : RB cs x w) (hb : Below w.heap.size w w') : RB cs x w' := (hb.block x (Array.getElem?_eq_some_iff.1 h).1).trans h
theorem RS_lasts {v : Value} {base : Nat} : G.Lasts (RS v base) [] := ⟨fun x w w' h hb => SM.keep h hb, fun x w w' b ob ob' _ hm => by cases hm⟩
theorem RB_lasts {cs : Array Value} : G.Lasts (RB cs) [] := ⟨fun x w w' h hb => RB_below h hb, fun x w w' b ob ob' _ hm => by cases hm⟩
namespace L
section
variable {A : Act} {w : World} {dst : Option Tmp} {ty : TypeId} {ps : String} {af : Array Edge} {gd : Option (Nat × Bool)} {x y : Operand} {b i : Nat}
theorem miR {u : Value} (hx : A.eval x = u) : Does Tryz.prog { dst := dst, op := .makeInterface 57 x, type := ty, pos := ps, after := af, guard := gd } A w fun v' w' => v' = .iface 57 u ∧ Below w.heap.size w w' := by
  have h : (execOp A.eval { dst := dst, op := .makeInterface 57 x, type := ty, pos := ps, after := af, guard := gd }).run Tryz.prog w = .ok (.value (.iface 57 u)) w := by generalize A.eval = ev at *; simp [execOp, hx, go_sem]
  exact does_value h ⟨rfl, Below.refl _ _⟩
theorem miW {u : Value} (hx : A.eval x = u) : Does Tryz.prog { dst := dst, op := .makeInterface 46 x, type := ty, pos := ps, after := af, guard := gd } A w fun v' w' => v' = .iface 46 u ∧ Below w.heap.size w w' := by
  have h : (execOp A.eval { dst := dst, op := .makeInterface 46 x, type := ty, pos := ps, after := af, guard := gd }).run Tryz.prog w = .ok (.value (.iface 46 u)) w := by generalize A.eval = ev at *; simp [execOp, hx, go_sem]
  exact does_value h ⟨rfl, Below.refl _ _⟩
theorem fa_r0 (hx : A.eval x = .pointer (some ⟨b, i, none⟩)) : Does Tryz.prog { dst := dst, op := .fieldAddr 59 x 0, type := ty, pos := ps, after := af, guard := gd } A w fun v' w' => v' = .pointer (some ⟨b, i, none⟩) ∧ Below w.heap.size w w' := by
  have h : (execOp A.eval { dst := dst, op := .fieldAddr 59 x 0, type := ty, pos := ps, after := af, guard := gd }).run Tryz.prog w = .ok (.value (.pointer (some ⟨b, i, none⟩))) w := by generalize A.eval = ev at *; simp [execOp, hx, go_sem]
  exact does_value h ⟨rfl, Below.refl _ _⟩
theorem fa_m0 (hx : A.eval x = .pointer (some ⟨b, i, none⟩)) : Does Tryz.prog { dst := dst, op := .fieldAddr 27 x 0, type := ty, pos := ps, after := af, guard := gd } A w fun v' w' => v' = .pointer (some ⟨b, i, none⟩) ∧ Below w.heap.size w w' := by
  have h : (execOp A.eval { dst := dst, op := .fieldAddr 27 x 0, type := ty, pos := ps, after := af, guard := gd }).run Tryz.prog w = .ok (.value (.pointer (some ⟨b, i, none⟩))) w := by generalize A.eval = ev at *; simp [execOp, hx, go_sem]
  exact does_value h ⟨rfl, Below.refl _ _⟩
theorem xt0 {u v : Value} (hx : A.eval x = .tuple #[u, v]) : Does Tryz.prog { dst := dst, op := .extract x 0, type := ty, pos := ps, after := af, guard := gd } A w fun v' w' => v' = u ∧ Below w.heap.size w w' := by
  have h : (execOp A.eval { dst := dst, op := .extract x 0, type := ty, pos := ps, after := af, guard := gd }).run Tryz.prog w = .ok (.value u) w := by generalize A.eval = ev at *; simp [execOp, hx, go_sem]
  exact does_value h ⟨rfl, Below.refl _ _⟩
theorem xt1 {u v : Value} (hx : A.eval x = .tuple #[u, v]) : Does Tryz.prog { dst := dst, op := .extract x 1, type := ty, pos := ps, after := af, guard := gd } A w fun v' w' => v' = v ∧ Below w.heap.size w w' := by
  have h : (execOp A.eval { dst := dst, op := .extract x 1, type := ty, pos := ps, after := af, guard := gd }).run Tryz.prog w = .ok (.value v) w := by generalize A.eval = ev at *; simp [execOp, hx, go_sem]
  exact does_value h ⟨rfl, Below.refl _ _⟩
theorem cg1 {F : FuncId} {at_ : Array TypeId} {Fv : Nat → Value} {R : Nat → World → Prop} {x0 : Operand} {u0 : Value} (hcf : ∀ (args : Array Value) (w : World), (callFunc F args).run Tryz.prog w = .ok (.enter F args) w) (h0 : A.eval x0 = u0)
    (hc : Calls Tryz.prog F #[u0] w fun e w' => ∃ x, e = .returned (Fv x) ∧ R x w' ∧ Below w.heap.size w w') :
    Does Tryz.prog { dst := dst, op := .call { callee := .value (.func F), args := #[x0], argTypes := at_ }, type := ty, pos := ps, after := af, guard := gd } A w fun v' w' => ∃ x, v' = Fv x ∧ R x w' ∧ Below w.heap.size w w' := by
  have hF : A.eval (.func F) = .func (.func F) #[] #[] := rfl
  have h : (execOp A.eval { dst := dst, op := .call { callee := .value (.func F), args := #[x0], argTypes := at_ }, type := ty, pos := ps, after := af, guard := gd }).run Tryz.prog w = .ok (.enter F #[u0]) w := by generalize A.eval = ev at *; simp [execOp, hF, hcf, h0, go_sem]
  exact does_call h (hc.mono fun _ _ ⟨x, h, h'⟩ => ⟨Fv x, h, x, rfl, h'⟩)
theorem gmv {F : Nat → Value} {R : Nat → World → Prop} {z : Nat} (hx : A.eval x = F z) (hR : R z w) : Does Tryz.prog { dst := dst, op := .move x, type := ty, pos := ps, after := af, guard := gd } A w fun v' w' => ∃ q, v' = F q ∧ R q w' ∧ Below w.heap.size w w' := by
  have h : (execOp A.eval { dst := dst, op := .move x, type := ty, pos := ps, after := af, guard := gd }).run Tryz.prog w = .ok (.value (F z)) w := by generalize A.eval = ev at *; simp [execOp, hx, go_sem]
  exact does_value h ⟨z, rfl, hR, Below.refl _ _⟩
theorem gas {F : Nat → Value} {R : Nat → World → Prop} {z : Nat} (hx : A.eval x = F z) (hR : R z w) : Does Tryz.prog { dst := dst, op := .assign x, type := ty, pos := ps, after := af, guard := gd } A w fun v' w' => ∃ q, v' = F q ∧ R q w' ∧ Below w.heap.size w w' := by
  have h : (execOp A.eval { dst := dst, op := .assign x, type := ty, pos := ps, after := af, guard := gd }).run Tryz.prog w = .ok (.value (F z)) w := by generalize A.eval = ev at *; simp [execOp, hx, go_sem]
  exact does_value h ⟨z, rfl, hR, Below.refl _ _⟩
theorem gx0 {F : Nat → Value} {R : Nat → World → Prop} {z : Nat} {u : Value} (hx : A.eval x = .tuple #[F z, u]) (hR : R z w) : Does Tryz.prog { dst := dst, op := .extract x 0, type := ty, pos := ps, after := af, guard := gd } A w fun v' w' => ∃ q, v' = F q ∧ R q w' ∧ Below w.heap.size w w' := by
  have h : (execOp A.eval { dst := dst, op := .extract x 0, type := ty, pos := ps, after := af, guard := gd }).run Tryz.prog w = .ok (.value (F z)) w := by generalize A.eval = ev at *; simp [execOp, hx, go_sem]
  exact does_value h ⟨z, rfl, hR, Below.refl _ _⟩
theorem lk_run {v : Value} {base g : Nat} {k : Int} (h : SM v base w g) (co : Bool) : ∃ r ok, (Instr.lookup 51 (.map (some g)) (.int .i64 k) co).run Tryz.prog w = .ok (if co then .tuple #[r, .bool ok] else r) w ∧
    (kindB k = true → ok = true ∧ ∃ bb, r = .slice (some ⟨bb, 0, none⟩) (flds k).length (flds k).length ∧ RB ((flds k).map (fnV v)).toArray bb w) ∧ (kindB k = false → ok = false ∧ r = .slice none 0 0) := by
  obtain ⟨-, es, clk, hg, hk⟩ := h
  have hk := hk k
  by_cases hkn : kindB k = true
  · rw [if_pos hkn] at hk
    obtain ⟨j, bb, -, h1, h2⟩ := hk
    refine ⟨_, true, ?_, fun _ => ⟨rfl, bb, rfl, h2⟩, fun h => absurd hkn (by rw [h]; decide)⟩
    simp [Instr.lookup, run_underlying Tryz.underlying51, MapKept.run_getObj_map hg, MapKept.run_checkKey Tryz.underlying3 (k := .int .i64 k) rfl, MapKept.run_findKey Tryz.underlying3 h1, Result.andThen]
  · rw [if_neg hkn] at hk
    have hz : (zeroValue 50).run Tryz.prog w = .ok (.slice none 0 0) w := by kernel_rfl
    refine ⟨_, false, ?_, fun h => absurd h hkn, fun _ => ⟨rfl, rfl⟩⟩
    simp [Instr.lookup, run_underlying Tryz.underlying51, MapKept.run_getObj_map hg, MapKept.run_checkKey Tryz.underlying3 (k := .int .i64 k) rfl, MapKept.run_findKey Tryz.underlying3 hk, hz, Result.andThen]
theorem lkT {v : Value} {base g n : Nat} {k : Int} {cs : Array Value} (hkn : kindB k = true) (hn : (flds k).length = n) (hcs : ((flds k).map (fnV v)).toArray = cs) (h0 : A.eval x = .map (some g)) (h1 : A.eval y = .int .i64 k) (h : RS v base g w) :
    Does Tryz.prog { dst := dst, op := .lookup 51 x y true, type := ty, pos := ps, after := af, guard := gd } A w fun v' w' => ∃ q, v' = .tuple #[.slice (some ⟨q, 0, none⟩) n n, .bool true] ∧ RB cs q w' ∧ Below w.heap.size w w' := by
  obtain ⟨r, ok, h2, h3, -⟩ := lk_run (k := k) h true
  obtain ⟨rfl, bb, rfl, h4⟩ := h3 hkn
  rw [hn] at h2
  rw [hcs] at h4
  have he : (execOp A.eval { dst := dst, op := .lookup 51 x y true, type := ty, pos := ps, after := af, guard := gd }).run Tryz.prog w = .ok (.value (.tuple #[.slice (some ⟨bb, 0, none⟩) n n, .bool true])) w := by generalize A.eval = ev at *; simp [execOp, h0, h1, h2, Result.andThen]
  exact does_value he ⟨bb, rfl, h4, Below.refl _ _⟩
theorem lkF {v : Value} {base g : Nat} {k : Int} (hkn : kindB k = false) (h0 : A.eval x = .map (some g)) (h1 : A.eval y = .int .i64 k) (h : RS v base g w) :
    Does Tryz.prog { dst := dst, op := .lookup 51 x y true, type := ty, pos := ps, after := af, guard := gd } A w fun v' w' => v' = .tuple #[.slice none 0 0, .bool false] ∧ Below w.heap.size w w' := by
  obtain ⟨r, ok, h2, -, h3⟩ := lk_run (k := k) h true
  obtain ⟨rfl, rfl⟩ := h3 hkn
  have he : (execOp A.eval { dst := dst, op := .lookup 51 x y true, type := ty, pos := ps, after := af, guard := gd }).run Tryz.prog w = .ok (.value (.tuple #[.slice none 0 0, .bool false])) w := by generalize A.eval = ev at *; simp [execOp, h0, h1, h2, Result.andThen]
  exact does_value he ⟨rfl, Below.refl _ _⟩
theorem lk1 {v : Value} {base g n : Nat} {k : Int} {cs : Array Value} (hkn : kindB k = true) (hn : (flds k).length = n) (hcs : ((flds k).map (fnV v)).toArray = cs) (h0 : A.eval x = .map (some g)) (h1 : A.eval y = .int .i64 k) (h : RS v base g w) :
    Does Tryz.prog { dst := dst, op := .lookup 51 x y false, type := ty, pos := ps, after := af, guard := gd } A w fun v' w' => ∃ q, v' = .slice (some ⟨q, 0, none⟩) n n ∧ RB cs q w' ∧ Below w.heap.size w w' := by
  obtain ⟨r, ok, h2, h3, -⟩ := lk_run (k := k) h false
  obtain ⟨rfl, bb, rfl, h4⟩ := h3 hkn
  rw [hn] at h2
  rw [hcs] at h4
  have he : (execOp A.eval { dst := dst, op := .lookup 51 x y false, type := ty, pos := ps, after := af, guard := gd }).run Tryz.prog w = .ok (.value (.slice (some ⟨bb, 0, none⟩) n n)) w := by generalize A.eval = ev at *; simp [execOp, h0, h1, h2, Result.andThen]
  exact does_value he ⟨bb, rfl, h4, Below.refl _ _⟩
theorem lk0 {v : Value} {base g : Nat} {k : Int} (hkn : kindB k = false) (h0 : A.eval x = .map (some g)) (h1 : A.eval y = .int .i64 k) (h : RS v base g w) :
    Does Tryz.prog { dst := dst, op := .lookup 51 x y false, type := ty, pos := ps, after := af, guard := gd } A w fun v' w' => v' = .slice none 0 0 ∧ Below w.heap.size w w' := by
  obtain ⟨r, ok, h2, -, h3⟩ := lk_run (k := k) h false
  obtain ⟨rfl, rfl⟩ := h3 hkn
  have he : (execOp A.eval { dst := dst, op := .lookup 51 x y false, type := ty, pos := ps, after := af, guard := gd }).run Tryz.prog w = .ok (.value (.slice none 0 0)) w := by generalize A.eval = ev at *; simp [execOp, h0, h1, h2, Result.andThen]
  exact does_value he ⟨rfl, Below.refl _ _⟩
theorem ldM {cs : Array Value} (hx : A.eval x = .pointer (some ⟨b, 0, none⟩)) (hr : Bk w 27 b cs) (hs : cs.size = 12) : Does Tryz.prog { dst := dst, op := .load 27 x, type := ty, pos := ps, after := af, guard := gd } A w fun v' w' => v' = .agg cs ∧ Below w.heap.size w w' := by
  have hl := run_loadVar_mid (P := Tryz.prog) w b 0 27 cs.toList _ hr.range Tryz.underlying27 rfl (by rw [Array.length_toList, hs]; kernel_rfl)
  have h : (execOp A.eval { dst := dst, op := .load 27 x, type := ty, pos := ps, after := af, guard := gd }).run Tryz.prog w = .ok (.value (.agg cs)) w := by
    generalize A.eval = ev at *
    simp [execOp, hx, Instr.loadAt, Instr.sureAddr, hl, Result.andThen]
  exact does_value h ⟨rfl, Below.refl _ _⟩
theorem lenS {a : Option Addr} {n c : Nat} (hx : A.eval x = .slice a n c) : Does Tryz.prog { dst := dst, op := .call { callee := .builtin .len, args := #[x], argTypes := #[50] }, type := ty, pos := ps, after := af, guard := gd } A w fun v' w' => v' = .int .i64 (n : Int) ∧ Below w.heap.size w w' := by
  have h : (execOp A.eval { dst := dst, op := .call { callee := .builtin .len, args := #[x], argTypes := #[50] }, type := ty, pos := ps, after := af, guard := gd }).run Tryz.prog w = .ok (.value (.int .i64 (n : Int))) w := by generalize A.eval = ev at *; simp [hx, go_sem]
  exact does_value h ⟨rfl, Below.refl _ _⟩
theorem bxW {cs : Array Value} (hx : A.eval x = .agg cs) : Does Tryz.prog { dst := dst, op := .box 49 x, type := ty, pos := ps, after := af, guard := gd } A w fun v w' => v = .pointer (some ⟨w.heap.size, 0, none⟩) ∧ w' = w.alloc (.cells cs 49) := by
  have h : (execOp A.eval { dst := dst, op := .box 49 x, type := ty, pos := ps, after := af, guard := gd }).run Tryz.prog w = .ok (.value (.pointer (some ⟨w.heap.size, 0, none⟩))) (w.alloc (.cells cs 49)) := by
    generalize A.eval = ev at *
    simp [execOp, hx, go_sem]
  exact does_value h ⟨rfl, rfl⟩
theorem buW {m0 m1 m2 m3 m4 m5 m6 m7 m8 m9 m10 m11 : Value} {u : ByteArray} (hx : A.eval x = .agg #[m0, m1, m2, m3, m4, m5, m6, m7, m8, m9, m10, m11]) (hy : A.eval y = .string u) :
    Does Tryz.prog { dst := dst, op := .build 49 #[(0, x), (1, y)], type := ty, pos := ps, after := af, guard := gd } A w fun v' w' => v' = .agg #[m0, m1, m2, m3, m4, m5, m6, m7, m8, m9, m10, m11, .string u] ∧ Below w.heap.size w w' := by
  have h : (execOp A.eval { dst := dst, op := .build 49 #[(0, x), (1, y)], type := ty, pos := ps, after := af, guard := gd }).run Tryz.prog w = .ok (.value (.agg #[m0, m1, m2, m3, m4, m5, m6, m7, m8, m9, m10, m11, .string u])) w := by
    generalize A.eval = ev at *
    simp [execOp, hx, hy, go_sem]
  exact does_value h ⟨rfl, Below.refl _ _⟩
end
end L
theorem sideBk {W W' : World} (h : G.Sides [] W W') {t : TypeId} {b : Nat} {cs : Array Value} (hb : Bk W t b cs) : Bk W' t b cs := (h.block b hb.lt (by simp)).trans hb
theorem ob_newi {P : Program} {ops : Array Oper} {kind : Nat → G.Knd} {a0 : Act} {uses : Nat → List Nat} {S : List Nat} {W0 : World} {i : Nat} {o : Oper} {ob ob' : Obj} {k : Nat} (ins : List (Nat × Value)) (ho : ops[i]? = some o) (hk : kind i = .new ob ob' k)
    (hi : ∀ f, (uses i).map (fun t => (t, G.look ops kind a0 f i t)) = ins) (h : ∀ (A : Act) (w : World), Evs A ins → Does P o A w fun v w' => v = .pointer (some ⟨w.heap.size, 0, none⟩) ∧ w' = w.alloc ob) (hk1 : decide (k < 1000) = true := by decide) : G.Ob S P ops kind uses a0 W0 i := by
  intro o' ho'
  rw [ho] at ho'
  cases ho'
  rw [hk]
  intro f A w hA
  have e : nv k w.heap.size = .pointer (some ⟨w.heap.size, 0, none⟩) := by unfold nv; rw [if_neg (by have := of_decide_eq_true hk1; omega)]
  rw [e]
  exact h A w (hi f ▸ evs_of _ hA)
end Go.Proofs.YtdaobioomoajfaaGreat
namespace Go.Proofs.YtdaobioomoajfaaGreat.G
open Go.RowKit
def okU (ops : Array Oper) (kind : Nat → Knd) (md : Region.Mode) : Bool := (List.range ops.size).all fun i => match ops[i]? with
  | none => true
  | some o => match o.guard with
    | none => true
    | some (g, _) => (match kind g with
        | .val (.bool _) => true
        | _ => false) && ((ops[g]?).bind (·.dst)).isSome && o.after.toList.any (fun e => e.on == g && Region.binds md e)
def unw (ops : Array Oper) (kind : Nat → Knd) (i : Nat) : Bool := match ops[i]? with
  | none => false
  | some o => match o.guard with
    | none => false
    | some (g, want) => match kind g with
      | .val (.bool b) => b != want
      | _ => false
section
variable {P : Program} {ops : Array Oper} {Q : Exit → Act → World → Prop} {md : Region.Mode} {kind : Nat → Knd} {a0 : Act} {uses : Nat → List Nat}
theorem wants_of (hok : okOps ops a0 md uses = true) (hG : okU ops kind md = true) {i : Nat} {o : Oper} (ho : ops[i]? = some o) (l : Array Bool) (f : Nat → Nat)
    (hedge : ∀ e ∈ o.after.toList, Region.binds md e = true → l.getD e.on false = true) : Region.wanted o (yielded ops (canon ops kind a0 l f).tmps) = !unw ops kind i := by
  have hl : i < ops.size := (Array.getElem?_eq_some_iff.1 ho).1
  unfold okU at hG
  rw [List.all_eq_true] at hG
  have h1 := hG i (List.mem_range.2 hl)
  rw [ho] at h1
  unfold Region.wanted unw
  rw [ho]
  cases hg : o.guard with
  | none => simp only [hg]; rfl
  | some gw =>
    obtain ⟨g, want⟩ := gw
    simp only [hg, Bool.and_eq_true] at h1
    obtain ⟨⟨h1, h2⟩, h3⟩ := h1
    rw [List.any_eq_true] at h3
    obtain ⟨e, he, h4⟩ := h3
    rw [Bool.and_eq_true] at h4
    have hlg : l.getD g false = true := by
      have h5 : e.on = g := by simpa using h4.1
      exact h5 ▸ hedge e he h4.2
    cases hog : ops[g]? with
    | none => rw [hog] at h2; cases h2
    | some o2 =>
      rw [hog] at h2
      cases hd : o2.dst with
      | none => simp [hd] at h2
      | some d =>
        obtain ⟨hown, hlt⟩ := (okOps_at hok hog).1 d hd
        have hv : (canon ops kind a0 l f).tmps[d]? = some (vl kind f g) := by
          unfold canon
          rw [Array.getElem?_mapIdx, Array.getElem?_eq_getElem hlt]
          simp only [Option.map_some, hown, hlg, if_true]
        cases hk : kind g with
        | new _ _ _ => rw [hk] at h1; cases h1
        | put _ => rw [hk] at h1; cases h1
        | got _ _ => rw [hk] at h1; cases h1
        | set _ _ _ => rw [hk] at h1; cases h1
        | val v =>
          rw [hk] at h1
          cases v with
          | bool b =>
            have hvl : vl kind f g = .bool b := by unfold vl; rw [hk]
            unfold yielded
            simp only [hg, hk, hog, Option.bind_some, hd, hv, hvl]
            cases b <;> cases want <;> rfl
          | _ => cases h1
theorem pinv_skip (hok : okOps ops a0 md uses = true) (hG : okU ops kind md = true) {W0 : World}
    (hkk : ∀ j ob ob' k, kind j = .new ob ob' k → k < ops.size → kind k = .put j) (hlast : Last kind) {l : Array Bool} {a : Act} {w : World} {i : Nat} {S : List Nat} (hsb : ∀ i b ob ob', kind i = .set b ob ob' → b < W0.heap.size) (hu : unw ops kind i = true) (hk : kind i = .val undef)
    (hI : PInv S md ops kind a0 W0 l a w) (hi : i ∈ Region.ready md ops l) : wpOp P ops Q i (PInv S md ops kind a0 W0 (l.setIfInBounds i true)) a w := by
  obtain ⟨hs, f, rfl, hB, hN, hJ, hL, hC, hR, hZ⟩ := hI
  obtain ⟨hil, hif, -, o, ho, hedge⟩ := ready_get hi
  have hC' : ∀ j oj, ops[j]? = some oj → (l.setIfInBounds i true).getD j false = true → ∀ e ∈ oj.after.toList, Region.binds md e = true → (l.setIfInBounds i true).getD e.on false = true := fun j oj hoj hlj e he hb => by
    rw [getD_set l i j hil] at hlj
    rw [getD_set l i e.on hil]
    by_cases hji : j = i
    · subst hji
      rw [ho] at hoj; cases hoj
      split
      · rfl
      · exact hedge e he hb
    · rw [if_neg hji] at hlj
      split
      · rfl
      · exact hC j oj hoj hlj e he hb
  have hw := wants_of (kind := kind) hok hG ho l f hedge
  rw [hu] at hw
  unfold wpOp
  simp only [ho, hw, Bool.not_true, Bool.false_eq_true, if_false]
  have hb := Below.refl w.heap.size w
  refine ⟨by simpa using hs, f, ?_, hB.step hb, ?_, ?_, ?_, hC', fun j F R hj hlj => ?_, ?_⟩
  · have := canon_put hok ho l hil f f (fun _ _ => rfl) (kind := kind) (.inr hif)
    rw [← this]; unfold vl; rw [hk]
  · intro j ob ob' k hj hlj
    have hji : j ≠ i := by rintro rfl; rw [hk] at hj; cases hj
    rw [getD_set l i j hil, if_neg hji] at hlj
    obtain ⟨h1, h2, h3⟩ := hN j ob ob' k hj hlj
    refine ⟨h1, Nat.lt_of_lt_of_le h2 hb.size, (hb.block _ h2).trans (h3.trans ?_)⟩
    rw [getD_set l i k hil]
    by_cases hki : k = i
    · have := hkk j ob ob' k hj (by omega)
      rw [hki, hk] at this; cases this
    · rw [if_neg hki]
  · intro j1 j2 h1 h2 hne k1 k2
    have e1 : j1 ≠ i := by rintro rfl; obtain ⟨_, _, _, h⟩ := k1; rw [hk] at h; cases h
    have e2 : j2 ≠ i := by rintro rfl; obtain ⟨_, _, _, h⟩ := k2; rw [hk] at h; cases h
    rw [getD_set l i j1 hil, if_neg e1] at h1
    rw [getD_set l i j2 hil, if_neg e2] at h2
    exact hJ j1 j2 h1 h2 hne k1 k2
  · intro k j hkj h1
    have e1 : k ≠ i := by rintro rfl; rw [hk] at hkj; cases hkj
    rw [getD_set l i k hil, if_neg e1] at h1
    have := hL k j hkj h1
    rw [getD_set l i j hil, this]; split <;> rfl
  · have hji : j ≠ i := by rintro rfl; rw [hk] at hj; cases hj
    rw [getD_set l i j hil, if_neg hji] at hlj
    exact (hlast j F R hj).1 _ _ _ (hR j F R hj hlj) hb
  · intro j b ob ob' hj
    have hji : j ≠ i := by rintro rfl; rw [hk] at hj; cases hj
    rw [getD_set l i j hil, if_neg hji, hb.block b (Nat.lt_of_lt_of_le (hsb j b ob ob' hj) hB.size)]
    exact hZ j b ob ob' hj
theorem pool_anyU {S : List Nat} (hok : okOps ops a0 md uses = true) (hG : okU ops kind md = true) (hdag : dagB md ops = true) (W0 : World)
    (hkk : ∀ j ob ob' k, kind j = .new ob ob' k → k < ops.size → kind k = .put j) (hlast : Last kind)
    (hset : ∀ i b ob ob', kind i = .set b ob ob' → W0.heap[b]? = some ob)
    (hob : ∀ i, i < ops.size → (unw ops kind i = true ∧ kind i = .val undef) ∨ (unw ops kind i = false ∧ Ob S P ops kind uses a0 W0 i))
    (fin : ∀ (f : Nat → Nat) (w : World), Sides S W0 w →
      (∀ i ob ob' k, kind i = .new ob ob' k → i < ops.size → W0.heap.size ≤ f i ∧ w.heap[f i]? = some (if k < ops.size then ob' else ob)) →
      (∀ i j, i < ops.size → j < ops.size → i ≠ j → (∃ ob ob' k, kind i = .new ob ob' k) → (∃ ob ob' k, kind j = .new ob ob' k) → f i ≠ f j) →
      (∀ i F R, kind i = .got F R → i < ops.size → R (f i) w) →
      (∀ i b ob ob', kind i = .set b ob ob' → i < ops.size → w.heap[b]? = some ob') →
      Q .normal (canonAll ops kind a0 f) w) :
    wpAny P md ops Q ops.size (Array.replicate ops.size false) a0 W0 := by
  refine any_inv (PInv S md ops kind a0 W0) ?fin (fun l a w i hI hi => ?stp) _ _ _ _ ?cnt (pinv_start W0 hset)
  case stp =>
    obtain ⟨-, -, -, o, ho, -⟩ := ready_get hi
    rcases hob i (Array.getElem?_eq_some_iff.1 ho).1 with ⟨h1, h2⟩ | ⟨h1, h2⟩
    · exact pinv_skip hok hG hkk hlast (fun i b ob ob' h => (Array.getElem?_eq_some_iff.1 (hset i b ob ob' h)).1) h1 h2 hI hi
    · exact pinv_stepW hok hkk hlast (fun i b ob ob' h => (Array.getElem?_eq_some_iff.1 (hset i b ob ob' h)).1) h2 (fun o f ho hedge => by rw [wants_of hok hG ho l f hedge, h1]; rfl) hI hi
  case cnt => simp
  case fin =>
    rintro l a w ⟨hs, f, rfl, hB, hN, hJ, -, -, hR, hZ⟩ hr
    have hall : ∀ i, i < ops.size → l.getD i false = true := fun i hi => all_listedB hdag l hs hr (i + 1) i (by omega) hi
    have hc : canon ops kind a0 l f = canonAll ops kind a0 f := by
      unfold canon canonAll
      simp only [Act.mk.injEq, and_true]
      apply Array.ext_getElem?
      intro t
      rw [Array.getElem?_mapIdx, Array.getElem?_mapIdx]
      cases a0.tmps[t]? with
      | none => rfl
      | some v =>
        simp only [Option.map_some]
        cases ht : ownOf ops t with
        | none => rfl
        | some j => simp only [hall j (own_lt ht), if_true]
    rw [hc]
    refine fin f w hB (fun i ob ob' k hk hi => ?_) (fun i j hi hj => hJ i j (hall i hi) (hall j hj)) (fun i F R hk hi => hR i F R hk (hall i hi)) (fun i b ob ob' hk hi => by
      have := hZ i b ob ob' hk
      rwa [if_pos (hall i hi)] at this)
    obtain ⟨h1, -, h3⟩ := hN i ob ob' k hk (hall i hi)
    refine ⟨h1, h3.trans ?_⟩
    by_cases hkl : k < ops.size
    · rw [if_pos (hall k hkl), if_pos hkl]
    · have : l.getD k false = false := by rw [Array.getD_eq_getD_getElem?, Array.getElem?_eq_none (by omega)]; rfl
      rw [this, if_neg hkl]; rfl
theorem pool_listU (S : List Nat) {id : Nat} {W : World} (kinds : List Knd) (us : List (List Nat)) (dl : (Nat → Nat) → List (Option Tmp × Value)) (hm : P.follows .mixedOrders = true) (hok : (okOps ops a0 .any (usesOf us) && okU ops (kindOf kinds) .any) = true) (hdag : dagB .any ops = true) (hkk : okK kinds ops.size = true)
    (hdl : ∀ f, ((List.range ops.size).map fun i => ((ops[i]?).bind (·.dst), vl (kindOf kinds) f i)) = dl f) (hlast : Last (kindOf kinds)) (hset : ∀ b ob ob', Knd.set b ob ob' ∈ kinds → W.drew.heap[b]? = some ob)
    (hob : ∀ i, i < ops.size → (unw ops (kindOf kinds) i = true ∧ kindOf kinds i = .val undef) ∨ (unw ops (kindOf kinds) i = false ∧ Ob S P ops (kindOf kinds) (usesOf us) a0 W.drew i))
    (fin : ∀ (f : Nat → Nat) (w : World), Sides S W.drew w →
      (∀ i ob ob' k, kindOf kinds i = .new ob ob' k → i < ops.size → W.drew.heap.size ≤ f i ∧ w.heap[f i]? = some (if k < ops.size then ob' else ob)) →
      (∀ i j, i < ops.size → j < ops.size → i ≠ j → (∃ ob ob' k, kindOf kinds i = .new ob ob' k) → (∃ ob ob' k, kindOf kinds j = .new ob ob' k) → f i ≠ f j) →
      (∀ i F R, kindOf kinds i = .got F R → i < ops.size → R (f i) w) →
      (∀ i b ob ob', kindOf kinds i = .set b ob ob' → i < ops.size → w.heap[b]? = some ob') →
      Q .normal (puts (dl f) a0) w) :
    (Code.region id ops true).wp P Q a0 W :=
  wp_region_any hm (pool_anyU (and_l hok) (and_r hok) hdag W.drew (okK_is hkk) hlast (set_of hset) hob fun f w h1 h2 h3 h4 h5 => by
    rw [canonAll_puts (and_l hok) f, hdl f]
    exact fin f w h1 h2 h3 h4 h5)
end
end Go.Proofs.YtdaobioomoajfaaGreat.G
namespace Go.Proofs.YtdaobioomoajfaaGreat
open Go.RowKit
theorem cf7a (args : Array Value) (w : World) : (callFunc 32 args).run Tryz.prog w = .ok (.enter 32 args) w := by kernel_rfl
theorem cf7b (args : Array Value) (w : World) : (callFunc 33 args).run Tryz.prog w = .ok (.enter 33 args) w := by kernel_rfl
theorem cf7c (args : Array Value) (w : World) : (callFunc 34 args).run Tryz.prog w = .ok (.enter 34 args) w := by kernel_rfl
theorem cf7d (args : Array Value) (w : World) : (callFunc 35 args).run Tryz.prog w = .ok (.enter 35 args) w := by kernel_rfl
theorem fd_u (m : Msg) (w : World) (hs : m.user.size ≤ 2097152) :
    Calls Tryz.prog 20 #[.agg #[.int .i64 m.kind, .string m.user, .int .u64 (m.el.1 : Int), .int .u64 (m.el.2.1 : Int), .bool m.el.2.2, .int .u64 (m.ot.1 : Int), .int .u64 (m.ot.2.1 : Int), .bool m.ot.2.2, .string m.nonce, .string m.box, .string m.mac, .int .i64 m.code], .int .u8 117] w fun e w' => e = .returned (.tuple #[.string (fld m .u), .bool (fok m .u)]) ∧ Below w.heap.size w w' := by
  have hR := Bk.new w 27 #[.int .i64 m.kind, .string m.user, .int .u64 (m.el.1 : Int), .int .u64 (m.el.2.1 : Int), .bool m.el.2.2, .int .u64 (m.ot.1 : Int), .int .u64 (m.ot.2.1 : Int), .bool m.ot.2.2, .string m.nonce, .string m.box, .string m.mac, .int .i64 m.code]
  have hB := (Below.refl _ w).alloc (Nat.le_refl _) (Obj.cells #[.int .i64 m.kind, .string m.user, .int .u64 (m.el.1 : Int), .int .u64 (m.el.2.1 : Int), .bool m.el.2.2, .int .u64 (m.ot.1 : Int), .int .u64 (m.ot.2.1 : Int), .bool m.ot.2.2, .string m.nonce, .string m.box, .string m.mac, .int .i64 m.code] 27)
  go_enter Tryz.func20, Tryz.ntmps20
  go_wp2
  generalize w.alloc _ = W at *
  obtain ⟨r0, hr0⟩ : ∃ r, r = w.heap.size := ⟨_, rfl⟩
  rw [← hr0] at hR ⊢
  clear hr0
  have d0 : W.drew.cell? ⟨r0, 0 + 1, none⟩ = some (.string m.user) := hR.cell (k := 1) rfl
  refine G.pool_list (W := W) [] [.val (.pointer (some ⟨r0, 0 + 1, none⟩)),
      .val (.string m.user),
      .val (.string (sizB m.user)),
      .val (.pointer (some ⟨r0, 0 + 1, none⟩)),
      .val (.string m.user),
      .val (.bool (nameB m.user)),
      .val (.string (sizB m.user)),
      .val (.bool (nameB m.user))] [[2], [8], [9], [2], [11], [12], [10], [13]] (fun f => [(some 8, .pointer (some ⟨r0, 0 + 1, none⟩)), (some 9, .string m.user), (some 10, .string (sizB m.user)), (some 11, .pointer (some ⟨r0, 0 + 1, none⟩)), (some 12, .string m.user), (some 13, .bool (nameB m.user)), (some 4, .string (sizB m.user)), (some 5, .bool (nameB m.user))]) (by kernel_rfl) (by kernel_rfl) (by kernel_rfl) (by kernel_rfl) (fun _ => by kernel_rfl) (G.last_of [] (fun F R hm => by simp at hm) (fun ob ob' k hm => by simp at hm) (fun b ob ob' hm => by simp at hm)) (fun b ob ob' hm => by simp at hm) ?_ ?_
  · intro ix hix
    match ix, hix with
    | 0, _ => exact G.ob_val [(2, .pointer (some ⟨r0, 0, none⟩))] rfl rfl (fun _ => by kernel_rfl) (fun A w ⟨e0, _⟩ hB => L.fa_m1 e0)
    | 1, _ => exact G.ob_val [(8, .pointer (some ⟨r0, 0 + 1, none⟩))] rfl rfl (fun _ => by kernel_rfl) (fun A w ⟨e0, _⟩ hB => L.ldS e0 (hB.cell d0 (by simp)))
    | 2, _ => exact G.ob_val [(9, .string m.user)] rfl rfl (fun _ => by kernel_rfl) (fun A w ⟨e0, _⟩ hB => L.cl1 cf7a e0 (szU _ w hs))
    | 3, _ => exact G.ob_val [(2, .pointer (some ⟨r0, 0, none⟩))] rfl rfl (fun _ => by kernel_rfl) (fun A w ⟨e0, _⟩ hB => L.fa_m1 e0)
    | 4, _ => exact G.ob_val [(11, .pointer (some ⟨r0, 0 + 1, none⟩))] rfl rfl (fun _ => by kernel_rfl) (fun A w ⟨e0, _⟩ hB => L.ldS e0 (hB.cell d0 (by simp)))
    | 5, _ => exact G.ob_val [(12, .string m.user)] rfl rfl (fun _ => by kernel_rfl) (fun A w ⟨e0, _⟩ hB => L.cl1 cf7b e0 ((nmS _ w).mono fun _ _ ⟨h, h'⟩ => ⟨h, h' ▸ Below.refl _ _⟩))
    | 6, _ => exact G.ob_val [(10, .string (sizB m.user))] rfl rfl (fun _ => by kernel_rfl) (fun A w ⟨e0, _⟩ hB => L.assign e0)
    | 7, _ => exact G.ob_val [(13, .bool (nameB m.user))] rfl rfl (fun _ => by kernel_rfl) (fun A w ⟨e0, _⟩ hB => L.assign e0)
    | ix + 8, h => exact absurd h (by simp)
  intro f W1 hS _ _ _ _
  have b1 : Below W.heap.size W W1 := (Below.refl _ W).drew.trans hS.below
  replace hB := hB.trans (b1.mono hB.size)
  clear hS b1
  simp only [puts, List.foldl, Act.put, List.setIfInBounds_toArray, List.set_cons_zero, List.set_cons_succ]
  go_wp2
  go_ret2
  exact ⟨rfl, hB⟩
theorem fd_e (m : Msg) (w : World) :
    Calls Tryz.prog 20 #[.agg #[.int .i64 m.kind, .string m.user, .int .u64 (m.el.1 : Int), .int .u64 (m.el.2.1 : Int), .bool m.el.2.2, .int .u64 (m.ot.1 : Int), .int .u64 (m.ot.2.1 : Int), .bool m.ot.2.2, .string m.nonce, .string m.box, .string m.mac, .int .i64 m.code], .int .u8 101] w fun e w' => e = .returned (.tuple #[.string (fld m .e), .bool (fok m .e)]) ∧ Below w.heap.size w w' := by
  have hR := Bk.new w 27 #[.int .i64 m.kind, .string m.user, .int .u64 (m.el.1 : Int), .int .u64 (m.el.2.1 : Int), .bool m.el.2.2, .int .u64 (m.ot.1 : Int), .int .u64 (m.ot.2.1 : Int), .bool m.ot.2.2, .string m.nonce, .string m.box, .string m.mac, .int .i64 m.code]
  have hB := (Below.refl _ w).alloc (Nat.le_refl _) (Obj.cells #[.int .i64 m.kind, .string m.user, .int .u64 (m.el.1 : Int), .int .u64 (m.el.2.1 : Int), .bool m.el.2.2, .int .u64 (m.ot.1 : Int), .int .u64 (m.ot.2.1 : Int), .bool m.ot.2.2, .string m.nonce, .string m.box, .string m.mac, .int .i64 m.code] 27)
  go_enter Tryz.func20, Tryz.ntmps20
  go_wp2
  generalize w.alloc _ = W at *
  obtain ⟨r0, hr0⟩ : ∃ r, r = w.heap.size := ⟨_, rfl⟩
  rw [← hr0] at hR ⊢
  clear hr0
  have d0 : W.drew.cell? ⟨r0, 0 + 2, none⟩ = some (.int .u64 (m.el.1 : Int)) := hR.cell (k := 2) rfl
  have d1 : W.drew.cell? ⟨r0, 0 + 2 + 1, none⟩ = some (.int .u64 (m.el.2.1 : Int)) := hR.cell (k := 3) rfl
  have d2 : W.drew.cell? ⟨r0, 0 + 2 + 2, none⟩ = some (.bool m.el.2.2) := hR.cell (k := 4) rfl
  refine G.pool_list (W := W) [] [.val (.pointer (some ⟨r0, 0 + 2, none⟩)),
      .val (.agg #[.int .u64 (m.el.1 : Int), .int .u64 (m.el.2.1 : Int), .bool m.el.2.2]),
      .val (.string (ptM m.el)),
      .val (.pointer (some ⟨r0, 0 + 2, none⟩)),
      .val (.agg #[.int .u64 (m.el.1 : Int), .int .u64 (m.el.2.1 : Int), .bool m.el.2.2]),
      .val (.bool (elM m.el)),
      .val (.string (ptM m.el)),
      .val (.bool (elM m.el))] [[2], [16], [17], [2], [19], [20], [18], [21]] (fun f => [(some 16, .pointer (some ⟨r0, 0 + 2, none⟩)), (some 17, .agg #[.int .u64 (m.el.1 : Int), .int .u64 (m.el.2.1 : Int), .bool m.el.2.2]), (some 18, .string (ptM m.el)), (some 19, .pointer (some ⟨r0, 0 + 2, none⟩)), (some 20, .agg #[.int .u64 (m.el.1 : Int), .int .u64 (m.el.2.1 : Int), .bool m.el.2.2]), (some 21, .bool (elM m.el)), (some 4, .string (ptM m.el)), (some 5, .bool (elM m.el))]) (by kernel_rfl) (by kernel_rfl) (by kernel_rfl) (by kernel_rfl) (fun _ => by kernel_rfl) (G.last_of [] (fun F R hm => by simp at hm) (fun ob ob' k hm => by simp at hm) (fun b ob ob' hm => by simp at hm)) (fun b ob ob' hm => by simp at hm) ?_ ?_
  · intro ix hix
    match ix, hix with
    | 0, _ => exact G.ob_val [(2, .pointer (some ⟨r0, 0, none⟩))] rfl rfl (fun _ => by kernel_rfl) (fun A w ⟨e0, _⟩ hB => L.fa_m2 e0)
    | 1, _ => exact G.ob_val [(16, .pointer (some ⟨r0, 0 + 2, none⟩))] rfl rfl (fun _ => by kernel_rfl) (fun A w ⟨e0, _⟩ hB => L.ldP e0 (hB.cell d0 (by simp)) (hB.cell d1 (by simp)) (hB.cell d2 (by simp)))
    | 2, _ => exact G.ob_val [(17, .agg #[.int .u64 (m.el.1 : Int), .int .u64 (m.el.2.1 : Int), .bool m.el.2.2])] rfl rfl (fun _ => by kernel_rfl) (fun A w ⟨e0, _⟩ hB => L.cl1 cf7c e0 (putS_any m.el.1 m.el.2.1 m.el.2.2 w))
    | 3, _ => exact G.ob_val [(2, .pointer (some ⟨r0, 0, none⟩))] rfl rfl (fun _ => by kernel_rfl) (fun A w ⟨e0, _⟩ hB => L.fa_m2 e0)
    | 4, _ => exact G.ob_val [(19, .pointer (some ⟨r0, 0 + 2, none⟩))] rfl rfl (fun _ => by kernel_rfl) (fun A w ⟨e0, _⟩ hB => L.ldP e0 (hB.cell d0 (by simp)) (hB.cell d1 (by simp)) (hB.cell d2 (by simp)))
    | 5, _ => exact G.ob_val [(20, .agg #[.int .u64 (m.el.1 : Int), .int .u64 (m.el.2.1 : Int), .bool m.el.2.2])] rfl rfl (fun _ => by kernel_rfl) (fun A w ⟨e0, _⟩ hB => L.cl1 cf7d e0 (elS m.el w))
    | 6, _ => exact G.ob_val [(18, .string (ptM m.el))] rfl rfl (fun _ => by kernel_rfl) (fun A w ⟨e0, _⟩ hB => L.assign e0)
    | 7, _ => exact G.ob_val [(21, .bool (elM m.el))] rfl rfl (fun _ => by kernel_rfl) (fun A w ⟨e0, _⟩ hB => L.assign e0)
    | ix + 8, h => exact absurd h (by simp)
  intro f W1 hS _ _ _ _
  have b1 : Below W.heap.size W W1 := (Below.refl _ W).drew.trans hS.below
  replace hB := hB.trans (b1.mono hB.size)
  clear hS b1
  simp only [puts, List.foldl, Act.put, List.setIfInBounds_toArray, List.set_cons_zero, List.set_cons_succ]
  go_wp2
  go_ret2
  exact ⟨rfl, hB⟩
theorem fd_o (m : Msg) (w : World) :
    Calls Tryz.prog 20 #[.agg #[.int .i64 m.kind, .string m.user, .int .u64 (m.el.1 : Int), .int .u64 (m.el.2.1 : Int), .bool m.el.2.2, .int .u64 (m.ot.1 : Int), .int .u64 (m.ot.2.1 : Int), .bool m.ot.2.2, .string m.nonce, .string m.box, .string m.mac, .int .i64 m.code], .int .u8 111] w fun e w' => e = .returned (.tuple #[.string (fld m .o), .bool (fok m .o)]) ∧ Below w.heap.size w w' := by
  have hR := Bk.new w 27 #[.int .i64 m.kind, .string m.user, .int .u64 (m.el.1 : Int), .int .u64 (m.el.2.1 : Int), .bool m.el.2.2, .int .u64 (m.ot.1 : Int), .int .u64 (m.ot.2.1 : Int), .bool m.ot.2.2, .string m.nonce, .string m.box, .string m.mac, .int .i64 m.code]
  have hB := (Below.refl _ w).alloc (Nat.le_refl _) (Obj.cells #[.int .i64 m.kind, .string m.user, .int .u64 (m.el.1 : Int), .int .u64 (m.el.2.1 : Int), .bool m.el.2.2, .int .u64 (m.ot.1 : Int), .int .u64 (m.ot.2.1 : Int), .bool m.ot.2.2, .string m.nonce, .string m.box, .string m.mac, .int .i64 m.code] 27)
  go_enter Tryz.func20, Tryz.ntmps20
  go_wp2
  generalize w.alloc _ = W at *
  obtain ⟨r0, hr0⟩ : ∃ r, r = w.heap.size := ⟨_, rfl⟩
  rw [← hr0] at hR ⊢
  clear hr0
  have d0 : W.drew.cell? ⟨r0, 0 + 5, none⟩ = some (.int .u64 (m.ot.1 : Int)) := hR.cell (k := 5) rfl
  have d1 : W.drew.cell? ⟨r0, 0 + 5 + 1, none⟩ = some (.int .u64 (m.ot.2.1 : Int)) := hR.cell (k := 6) rfl
  have d2 : W.drew.cell? ⟨r0, 0 + 5 + 2, none⟩ = some (.bool m.ot.2.2) := hR.cell (k := 7) rfl
  refine G.pool_list (W := W) [] [.val (.pointer (some ⟨r0, 0 + 5, none⟩)),
      .val (.agg #[.int .u64 (m.ot.1 : Int), .int .u64 (m.ot.2.1 : Int), .bool m.ot.2.2]),
      .val (.string (ptM m.ot)),
      .val (.pointer (some ⟨r0, 0 + 5, none⟩)),
      .val (.agg #[.int .u64 (m.ot.1 : Int), .int .u64 (m.ot.2.1 : Int), .bool m.ot.2.2]),
      .val (.bool (elM m.ot)),
      .val (.string (ptM m.ot)),
      .val (.bool (elM m.ot))] [[2], [24], [25], [2], [27], [28], [26], [29]] (fun f => [(some 24, .pointer (some ⟨r0, 0 + 5, none⟩)), (some 25, .agg #[.int .u64 (m.ot.1 : Int), .int .u64 (m.ot.2.1 : Int), .bool m.ot.2.2]), (some 26, .string (ptM m.ot)), (some 27, .pointer (some ⟨r0, 0 + 5, none⟩)), (some 28, .agg #[.int .u64 (m.ot.1 : Int), .int .u64 (m.ot.2.1 : Int), .bool m.ot.2.2]), (some 29, .bool (elM m.ot)), (some 4, .string (ptM m.ot)), (some 5, .bool (elM m.ot))]) (by kernel_rfl) (by kernel_rfl) (by kernel_rfl) (by kernel_rfl) (fun _ => by kernel_rfl) (G.last_of [] (fun F R hm => by simp at hm) (fun ob ob' k hm => by simp at hm) (fun b ob ob' hm => by simp at hm)) (fun b ob ob' hm => by simp at hm) ?_ ?_
  · intro ix hix
    match ix, hix with
    | 0, _ => exact G.ob_val [(2, .pointer (some ⟨r0, 0, none⟩))] rfl rfl (fun _ => by kernel_rfl) (fun A w ⟨e0, _⟩ hB => L.fa_m3 e0)
    | 1, _ => exact G.ob_val [(24, .pointer (some ⟨r0, 0 + 5, none⟩))] rfl rfl (fun _ => by kernel_rfl) (fun A w ⟨e0, _⟩ hB => L.ldP e0 (hB.cell d0 (by simp)) (hB.cell d1 (by simp)) (hB.cell d2 (by simp)))
    | 2, _ => exact G.ob_val [(25, .agg #[.int .u64 (m.ot.1 : Int), .int .u64 (m.ot.2.1 : Int), .bool m.ot.2.2])] rfl rfl (fun _ => by kernel_rfl) (fun A w ⟨e0, _⟩ hB => L.cl1 cf7c e0 (putS_any m.ot.1 m.ot.2.1 m.ot.2.2 w))
    | 3, _ => exact G.ob_val [(2, .pointer (some ⟨r0, 0, none⟩))] rfl rfl (fun _ => by kernel_rfl) (fun A w ⟨e0, _⟩ hB => L.fa_m3 e0)
    | 4, _ => exact G.ob_val [(27, .pointer (some ⟨r0, 0 + 5, none⟩))] rfl rfl (fun _ => by kernel_rfl) (fun A w ⟨e0, _⟩ hB => L.ldP e0 (hB.cell d0 (by simp)) (hB.cell d1 (by simp)) (hB.cell d2 (by simp)))
    | 5, _ => exact G.ob_val [(28, .agg #[.int .u64 (m.ot.1 : Int), .int .u64 (m.ot.2.1 : Int), .bool m.ot.2.2])] rfl rfl (fun _ => by kernel_rfl) (fun A w ⟨e0, _⟩ hB => L.cl1 cf7d e0 (elS m.ot w))
    | 6, _ => exact G.ob_val [(26, .string (ptM m.ot))] rfl rfl (fun _ => by kernel_rfl) (fun A w ⟨e0, _⟩ hB => L.assign e0)
    | 7, _ => exact G.ob_val [(29, .bool (elM m.ot))] rfl rfl (fun _ => by kernel_rfl) (fun A w ⟨e0, _⟩ hB => L.assign e0)
    | ix + 8, h => exact absurd h (by simp)
  intro f W1 hS _ _ _ _
  have b1 : Below W.heap.size W W1 := (Below.refl _ W).drew.trans hS.below
  replace hB := hB.trans (b1.mono hB.size)
  clear hS b1
  simp only [puts, List.foldl, Act.put, List.setIfInBounds_toArray, List.set_cons_zero, List.set_cons_succ]
  go_wp2
  go_ret2
  exact ⟨rfl, hB⟩
theorem fd_n (m : Msg) (w : World) :
    Calls Tryz.prog 20 #[.agg #[.int .i64 m.kind, .string m.user, .int .u64 (m.el.1 : Int), .int .u64 (m.el.2.1 : Int), .bool m.el.2.2, .int .u64 (m.ot.1 : Int), .int .u64 (m.ot.2.1 : Int), .bool m.ot.2.2, .string m.nonce, .string m.box, .string m.mac, .int .i64 m.code], .int .u8 110] w fun e w' => e = .returned (.tuple #[.string (fld m .n), .bool (fok m .n)]) ∧ Below w.heap.size w w' := by
  have e : fok m .n = ((m.nonce.size : Int) == 16) := by
    show decide (m.nonce.size = 16) = _
    rw [Bool.eq_iff_iff, decide_eq_true_eq, beq_iff_eq]
    omega
  rw [e]
  have hR := Bk.new w 27 #[.int .i64 m.kind, .string m.user, .int .u64 (m.el.1 : Int), .int .u64 (m.el.2.1 : Int), .bool m.el.2.2, .int .u64 (m.ot.1 : Int), .int .u64 (m.ot.2.1 : Int), .bool m.ot.2.2, .string m.nonce, .string m.box, .string m.mac, .int .i64 m.code]
  have hB := (Below.refl _ w).alloc (Nat.le_refl _) (Obj.cells #[.int .i64 m.kind, .string m.user, .int .u64 (m.el.1 : Int), .int .u64 (m.el.2.1 : Int), .bool m.el.2.2, .int .u64 (m.ot.1 : Int), .int .u64 (m.ot.2.1 : Int), .bool m.ot.2.2, .string m.nonce, .string m.box, .string m.mac, .int .i64 m.code] 27)
  go_enter Tryz.func20, Tryz.ntmps20
  go_wp2
  generalize w.alloc _ = W at *
  obtain ⟨r0, hr0⟩ : ∃ r, r = w.heap.size := ⟨_, rfl⟩
  rw [← hr0] at hR ⊢
  clear hr0
  have d0 : W.cell? ⟨r0, 8, none⟩ = some (.string m.nonce) := hR.cell (k := 8) rfl
  go_quiet (fail)
  replace hB : Below w.heap.size w (W.drewN nq) := ⟨hB.os, hB.tape, hB.output, hB.size, hB.block⟩
  generalize W.drewN nq = W1 at *
  go_wp2
  go_ret2
  exact ⟨rfl, hB⟩
theorem fd_b (m : Msg) (w : World) :
    Calls Tryz.prog 20 #[.agg #[.int .i64 m.kind, .string m.user, .int .u64 (m.el.1 : Int), .int .u64 (m.el.2.1 : Int), .bool m.el.2.2, .int .u64 (m.ot.1 : Int), .int .u64 (m.ot.2.1 : Int), .bool m.ot.2.2, .string m.nonce, .string m.box, .string m.mac, .int .i64 m.code], .int .u8 98] w fun e w' => e = .returned (.tuple #[.string (fld m .b), .bool (fok m .b)]) ∧ Below w.heap.size w w' := by
  have e : fok m .b = ((m.box.size : Int) == 48) := by
    show decide (m.box.size = 48) = _
    rw [Bool.eq_iff_iff, decide_eq_true_eq, beq_iff_eq]
    omega
  rw [e]
  have hR := Bk.new w 27 #[.int .i64 m.kind, .string m.user, .int .u64 (m.el.1 : Int), .int .u64 (m.el.2.1 : Int), .bool m.el.2.2, .int .u64 (m.ot.1 : Int), .int .u64 (m.ot.2.1 : Int), .bool m.ot.2.2, .string m.nonce, .string m.box, .string m.mac, .int .i64 m.code]
  have hB := (Below.refl _ w).alloc (Nat.le_refl _) (Obj.cells #[.int .i64 m.kind, .string m.user, .int .u64 (m.el.1 : Int), .int .u64 (m.el.2.1 : Int), .bool m.el.2.2, .int .u64 (m.ot.1 : Int), .int .u64 (m.ot.2.1 : Int), .bool m.ot.2.2, .string m.nonce, .string m.box, .string m.mac, .int .i64 m.code] 27)
  go_enter Tryz.func20, Tryz.ntmps20
  go_wp2
  generalize w.alloc _ = W at *
  obtain ⟨r0, hr0⟩ : ∃ r, r = w.heap.size := ⟨_, rfl⟩
  rw [← hr0] at hR ⊢
  clear hr0
  have d0 : W.cell? ⟨r0, 9, none⟩ = some (.string m.box) := hR.cell (k := 9) rfl
  go_quiet (fail)
  replace hB : Below w.heap.size w (W.drewN nq) := ⟨hB.os, hB.tape, hB.output, hB.size, hB.block⟩
  generalize W.drewN nq = W1 at *
  go_wp2
  go_ret2
  exact ⟨rfl, hB⟩
theorem fd_m (m : Msg) (w : World) :
    Calls Tryz.prog 20 #[.agg #[.int .i64 m.kind, .string m.user, .int .u64 (m.el.1 : Int), .int .u64 (m.el.2.1 : Int), .bool m.el.2.2, .int .u64 (m.ot.1 : Int), .int .u64 (m.ot.2.1 : Int), .bool m.ot.2.2, .string m.nonce, .string m.box, .string m.mac, .int .i64 m.code], .int .u8 109] w fun e w' => e = .returned (.tuple #[.string (fld m .m), .bool (fok m .m)]) ∧ Below w.heap.size w w' := by
  have e : fok m .m = ((m.mac.size : Int) == 32) := by
    show decide (m.mac.size = 32) = _
    rw [Bool.eq_iff_iff, decide_eq_true_eq, beq_iff_eq]
    omega
  rw [e]
  have hR := Bk.new w 27 #[.int .i64 m.kind, .string m.user, .int .u64 (m.el.1 : Int), .int .u64 (m.el.2.1 : Int), .bool m.el.2.2, .int .u64 (m.ot.1 : Int), .int .u64 (m.ot.2.1 : Int), .bool m.ot.2.2, .string m.nonce, .string m.box, .string m.mac, .int .i64 m.code]
  have hB := (Below.refl _ w).alloc (Nat.le_refl _) (Obj.cells #[.int .i64 m.kind, .string m.user, .int .u64 (m.el.1 : Int), .int .u64 (m.el.2.1 : Int), .bool m.el.2.2, .int .u64 (m.ot.1 : Int), .int .u64 (m.ot.2.1 : Int), .bool m.ot.2.2, .string m.nonce, .string m.box, .string m.mac, .int .i64 m.code] 27)
  go_enter Tryz.func20, Tryz.ntmps20
  go_wp2
  generalize w.alloc _ = W at *
  obtain ⟨r0, hr0⟩ : ∃ r, r = w.heap.size := ⟨_, rfl⟩
  rw [← hr0] at hR ⊢
  clear hr0
  have d0 : W.cell? ⟨r0, 10, none⟩ = some (.string m.mac) := hR.cell (k := 10) rfl
  go_quiet (fail)
  replace hB : Below w.heap.size w (W.drewN nq) := ⟨hB.os, hB.tape, hB.output, hB.size, hB.block⟩
  generalize W.drewN nq = W1 at *
  go_wp2
  go_ret2
  exact ⟨rfl, hB⟩
end Go.Proofs.YtdaobioomoajfaaGreat
