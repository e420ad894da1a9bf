import Derived.Test.YtenggagjgmonoaaDoorMrg36
import Derived.Test.YtenggagjgmonoaaDoorMrg29
import Derived.Test.YtenggagjgmonoaaDoorMrg33
namespace Go.Proofs.YtenggagjgmonoaaDoor
open Go.RowKit M
set_option linter.unusedVariables false

/-- the sum of triples is the curve's, in three coordinates -/
theorem trV (X1 Y1 Z1 X2 Y2 Z2 : Fp) (w : World) :
    Calls Tryd.prog 73 #[.agg #[.int .u64 (fv X1), .int .u64 (fv Y1), .int .u64 (fv Z1)], .agg #[.int .u64 (fv X2), .int .u64 (fv Y2), .int .u64 (fv Z2)]] w
      fun e w' => e = .returned (.agg #[.int .u64 (fv (cX X1 Y1 Z1 X2 Y2 Z2)), .int .u64 (fv (cY X1 Y1 Z1 X2 Y2 Z2)), .int .u64 (fv (cZ X1 Y1 Z1 X2 Y2 Z2))]) ∧ Below w.heap.size w w' := by
  have K := trp_of (fv X1) (fv Y1) (fv Z1) (fv X2) (fv Y2) (fv Z2) _ _ _ _ _ _ _ _ _ _ _ _ _ _ _ _ _ _ _ _ _ _ _ _ _ _ _ _ _ w rd3 rd111 (tmV X1 X2) (tmV Y1 Y2) (tmV Z1 Z2)
    (crV X1 Y1 Z1 X2 Y2 Z2 X1 Y1 X2 Y2 0 1 (by decide) (by decide) rfl rfl rfl rfl)
    (crV X1 Y1 Z1 X2 Y2 Z2 X1 Z1 X2 Z2 0 2 (by decide) (by decide) rfl rfl rfl rfl)
    (crV X1 Y1 Z1 X2 Y2 Z2 Y1 Z1 Y2 Z2 1 2 (by decide) (by decide) rfl rfl rfl rfl)
    (tmV _ _) (mnV _ _) (tmV _ _) (plV _ _) (mnV _ _) (tmV _ _) (mnV _ _) (tmV _ _) (mnV _ _) (tmV _ _) (mnV _ _) (tmV _ _)
    (tmV _ _) (tmV _ _) (mnV _ _) (tmV _ _) (tmV _ _) (plV _ _) (tmV _ _) (tmV _ _) (plV _ _)
  refine K.mono ?_
  rintro e w' ⟨rfl, hb⟩
  refine ⟨?_, hb⟩
  have e1 : (X1 * Y2 + Y1 * X2) * (Y1 * Y2 + (X1 * Z2 + Z1 * X2 - 111 * (Z1 * Z2)) * 3) - (Y1 * Z2 + Z1 * Y2) * ((111 * (X1 * Z2 + Z1 * X2) - X1 * X2 - Z1 * Z2 * 3) * 3) = cX X1 Y1 Z1 X2 Y2 Z2 := by unfold cX; grobner
  have e2 : (X1 * X2 - Z1 * Z2) * 3 * ((111 * (X1 * Z2 + Z1 * X2) - X1 * X2 - Z1 * Z2 * 3) * 3) + (Y1 * Y2 + (X1 * Z2 + Z1 * X2 - 111 * (Z1 * Z2)) * 3) * (Y1 * Y2 - (X1 * Z2 + Z1 * X2 - 111 * (Z1 * Z2)) * 3) = cY X1 Y1 Z1 X2 Y2 Z2 := by unfold cY; grobner
  have e3 : (Y1 * Z2 + Z1 * Y2) * (Y1 * Y2 - (X1 * Z2 + Z1 * X2 - 111 * (Z1 * Z2)) * 3) + (X1 * Y2 + Y1 * X2) * ((X1 * X2 - Z1 * Z2) * 3) = cZ X1 Y1 Z1 X2 Y2 Z2 := by unfold cZ; grobner
  rw [e1, e2, e3]
end Go.Proofs.YtenggagjgmonoaaDoor

namespace Go.Proofs.YtenggagjgmonoaaDoor
open Go.RowKit M
set_option linter.unusedVariables false

set_option maxRecDepth 100000 in
theorem zpP (w : World) : Calls Tryd.prog 48 #[] w fun e w' => e = .returned (.agg #[.int .u64 0, .int .u64 0, .bool true]) ∧ Below w.heap.size w w' := by
  go_enter Tryd.func48, Tryd.ntmps48
  go_wp2
  refine bodyPost_ret (v := .agg #[.int .u64 0, .int .u64 0, .bool true]) (by simp [results, Tryd.results48, go_sem]) rfl ⟨rfl, ?_⟩
  exact (Below.refl _ w).alloc (Nat.le_refl _) _

section
variable {ev : Operand → Value} {w : World} {dst : Option Tmp} {ty : TypeId} {ps : String} {af : Array Edge} {gd : Option (Nat × Bool)} {x y : Operand} {b i : Nat}
theorem exec_call0 {F : FuncId} {at_ : Array TypeId} (hF : ev (.func F) = .func (.func F) #[] #[]) (hcf : ∀ (args : Array Value) (w : World), (callFunc F args).run Tryd.prog w = .ok (.enter F args) w) :
    (execOp ev { dst := dst, op := .call { callee := .value (.func F), args := #[], argTypes := at_ }, type := ty, pos := ps, after := af, guard := gd }).run Tryd.prog w = .ok (.enter F #[]) w := by
  simp [execOp, hF, hcf, go_sem]
theorem exec_f60 (hx : ev x = .pointer (some ⟨b, 0, none⟩)) :
    (execOp ev { dst := dst, op := .fieldAddr 63 x 0, type := ty, pos := ps, after := af, guard := gd }).run Tryd.prog w = .ok (.value (.pointer (some ⟨b, 0, none⟩))) w := by
  simp [execOp, hx, go_sem]
theorem exec_f25a (hx : ev x = .pointer (some ⟨b, 0, none⟩)) :
    (execOp ev { dst := dst, op := .fieldAddr 36 x 0, type := ty, pos := ps, after := af, guard := gd }).run Tryd.prog w = .ok (.value (.pointer (some ⟨b, 0, none⟩))) w := by
  simp [execOp, hx, go_sem]
theorem exec_f25b (hx : ev x = .pointer (some ⟨b, 0, none⟩)) :
    (execOp ev { dst := dst, op := .fieldAddr 36 x 1, type := ty, pos := ps, after := af, guard := gd }).run Tryd.prog w = .ok (.value (.pointer (some ⟨b, 1, none⟩))) w := by
  simp [execOp, hx, go_sem]
theorem exec_loadU {z : Int} (hx : ev x = .pointer (some ⟨b, i, none⟩)) (hc : w.cell? ⟨b, i, none⟩ = some (.int .u64 z)) :
    (execOp ev { dst := dst, op := .load 25 x, type := ty, pos := ps, after := af, guard := gd }).run Tryd.prog w = .ok (.value (.int .u64 z)) w := by
  simp [execOp, hx, hc, go_sem]
theorem exec_loadK {X Y : Int} {c : Bool} (hx : ev x = .pointer (some ⟨b, 0, none⟩)) (h0 : w.cell? ⟨b, 0, none⟩ = some (.int .u64 X)) (h1 : w.cell? ⟨b, 1, none⟩ = some (.int .u64 Y)) (h2 : w.cell? ⟨b, 2, none⟩ = some (.bool c)) :
    (execOp ev { dst := dst, op := .load 63 x, type := ty, pos := ps, after := af, guard := gd }).run Tryd.prog w = .ok (.value (.agg #[.int .u64 X, .int .u64 Y, .bool c])) w := by
  simp [execOp, hx, h0, h1, h2, go_sem]
theorem exec_storeK {X Y X0 Y0 : Int} {c c0 : Bool} (hx : ev x = .pointer (some ⟨b, 0, none⟩)) (hy : ev y = .agg #[.int .u64 X, .int .u64 Y, .bool c]) (hr : K3 w 63 b X0 Y0 c0) :
    (execOp ev { dst := dst, op := .store 63 x y, type := ty, pos := ps, after := af, guard := gd }).run Tryd.prog w = .ok .skip (set3 w b X Y c) := by
  have h1 := hr.c0
  have h2 := hr.c1
  have h3 := hr.c2
  have h4 := hr.frz
  simp [execOp, hx, hy, h1, h2, h3, h4, go_sem, set3]
theorem exec_fld {z : Int} (hx : ev x = .agg #[.int .u64 z]) :
    (execOp ev { dst := dst, op := .field 91 x 1, type := ty, pos := ps, after := af, guard := gd }).run Tryd.prog w = .ok (.value (.int .u64 z)) w := by
  simp [execOp, hx, fldP, go_sem]
theorem exec_b25 {X Y : Int} (hx : ev x = .int .u64 X) (hy : ev y = .int .u64 Y) :
    (execOp ev { dst := dst, op := .build 36 #[(0, x), (1, y)], type := ty, pos := ps, after := af, guard := gd }).run Tryd.prog w = .ok (.value (.agg #[.int .u64 X, .int .u64 Y, .bool false])) w := by
  simp [execOp, hx, hy, go_sem]
theorem exec_b60 {X Y : Int} {c : Bool} (hx : ev x = .agg #[.int .u64 X, .int .u64 Y, .bool c]) :
    (execOp ev { dst := dst, op := .build 63 #[(0, x)], type := ty, pos := ps, after := af, guard := gd }).run Tryd.prog w = .ok (.value (.agg #[.int .u64 X, .int .u64 Y, .bool c])) w := by
  simp [execOp, hx, go_sem]
theorem cf_zero (args : Array Value) (w : World) : (callFunc 48 args).run Tryd.prog w = .ok (.enter 48 args) w := by kernel_rfl
theorem cf_triple (args : Array Value) (w : World) : (callFunc 72 args).run Tryd.prog w = .ok (.enter 72 args) w := by kernel_rfl
theorem cf_tplus (args : Array Value) (w : World) : (callFunc 73 args).run Tryd.prog w = .ok (.enter 73 args) w := by kernel_rfl
theorem cf_point (args : Array Value) (w : World) : (callFunc 74 args).run Tryd.prog w = .ok (.enter 74 args) w := by kernel_rfl
end
section
variable {A : Act} {w W0 : World} {dst : Option Tmp} {ty : TypeId} {ps : String} {af : Array Edge} {gd : Option (Nat × Bool)} {x y : Operand} {b i : Nat}
set_option maxRecDepth 100000
theorem do_f60 (hx : A.eval x = .pointer (some ⟨b, 0, none⟩)) :
    Does Tryd.prog { dst := dst, op := .fieldAddr 63 x 0, type := ty, pos := ps, after := af, guard := gd } A w fun v' w' => v' = .pointer (some ⟨b, 0, none⟩) ∧ Below w.heap.size w w' := by
  have h := exec_f60 (ev := A.eval) (w := w) (dst := dst) (ty := ty) (ps := ps) (af := af) (gd := gd) hx
  exact does_value h ⟨rfl, Below.refl _ _⟩
theorem do_f25a (hx : A.eval x = .pointer (some ⟨b, 0, none⟩)) :
    Does Tryd.prog { dst := dst, op := .fieldAddr 36 x 0, type := ty, pos := ps, after := af, guard := gd } A w fun v' w' => v' = .pointer (some ⟨b, 0, none⟩) ∧ Below w.heap.size w w' := by
  have h := exec_f25a (ev := A.eval) (w := w) (dst := dst) (ty := ty) (ps := ps) (af := af) (gd := gd) hx
  exact does_value h ⟨rfl, Below.refl _ _⟩
theorem do_f25b (hx : A.eval x = .pointer (some ⟨b, 0, none⟩)) :
    Does Tryd.prog { dst := dst, op := .fieldAddr 36 x 1, type := ty, pos := ps, after := af, guard := gd } A w fun v' w' => v' = .pointer (some ⟨b, 1, none⟩) ∧ Below w.heap.size w w' := by
  have h := exec_f25b (ev := A.eval) (w := w) (dst := dst) (ty := ty) (ps := ps) (af := af) (gd := gd) hx
  exact does_value h ⟨rfl, Below.refl _ _⟩
theorem do_loadU {z : Int} (hx : A.eval x = .pointer (some ⟨b, i, none⟩)) (hc : W0.cell? ⟨b, i, none⟩ = some (.int .u64 z)) (hB : Below W0.heap.size W0 w) :
    Does Tryd.prog { dst := dst, op := .load 25 x, type := ty, pos := ps, after := af, guard := gd } A w fun v' w' => v' = .int .u64 z ∧ Below w.heap.size w w' := by
  have h := exec_loadU (ev := A.eval) (w := w) (dst := dst) (ty := ty) (ps := ps) (af := af) (gd := gd) hx (keepC hc hB)
  exact does_value h ⟨rfl, Below.refl _ _⟩
theorem do_loadK {X Y : Int} {c : Bool} (hx : A.eval x = .pointer (some ⟨b, 0, none⟩)) (hr : K3 W0 63 b X Y c) (hB : Below W0.heap.size W0 w) :
    Does Tryd.prog { dst := dst, op := .load 63 x, type := ty, pos := ps, after := af, guard := gd } A w fun v' w' => v' = .agg #[.int .u64 X, .int .u64 Y, .bool c] ∧ Below w.heap.size w w' := by
  have h := exec_loadK (ev := A.eval) (w := w) (dst := dst) (ty := ty) (ps := ps) (af := af) (gd := gd) hx (hr.keep hB).c0 (hr.keep hB).c1 (hr.keep hB).c2
  exact does_value h ⟨rfl, Below.refl _ _⟩
theorem do_fld {z : Int} (hx : A.eval x = .agg #[.int .u64 z]) :
    Does Tryd.prog { dst := dst, op := .field 91 x 1, type := ty, pos := ps, after := af, guard := gd } A w fun v' w' => v' = .int .u64 z ∧ Below w.heap.size w w' := by
  have h := exec_fld (ev := A.eval) (w := w) (dst := dst) (ty := ty) (ps := ps) (af := af) (gd := gd) hx
  exact does_value h ⟨rfl, Below.refl _ _⟩
theorem do_b25 {X Y : Int} (hx : A.eval x = .int .u64 X) (hy : A.eval y = .int .u64 Y) :
    Does Tryd.prog { dst := dst, op := .build 36 #[(0, x), (1, y)], type := ty, pos := ps, after := af, guard := gd } A w fun v' w' => v' = .agg #[.int .u64 X, .int .u64 Y, .bool false] ∧ Below w.heap.size w w' := by
  have h := exec_b25 (ev := A.eval) (w := w) (dst := dst) (ty := ty) (ps := ps) (af := af) (gd := gd) hx hy
  exact does_value h ⟨rfl, Below.refl _ _⟩
theorem do_b60 {X Y : Int} {c : Bool} (hx : A.eval x = .agg #[.int .u64 X, .int .u64 Y, .bool c]) :
    Does Tryd.prog { dst := dst, op := .build 63 #[(0, x)], type := ty, pos := ps, after := af, guard := gd } A w fun v' w' => v' = .agg #[.int .u64 X, .int .u64 Y, .bool c] ∧ Below w.heap.size w w' := by
  have h := exec_b60 (ev := A.eval) (w := w) (dst := dst) (ty := ty) (ps := ps) (af := af) (gd := gd) hx
  exact does_value h ⟨rfl, Below.refl _ _⟩
end
end Go.Proofs.YtenggagjgmonoaaDoor
