import Derived.Test.YtenggagjgmonoaaDoorMrg12
import Derived.Test.YtenggagjgmonoaaDoorMrg26
namespace Go.Proofs.YtenggagjgmonoaaDoor
open Go.RowKit M
set_option linter.unusedVariables false
set_option maxRecDepth 100000

/-- a contract: the call gives this number -/
def CalN (F : FuncId) (args : Array Value) (r : Int) : Prop := ∀ w : World, Calls Tryd.prog F args w fun e w' => e = .returned (.agg #[.int .u64 r]) ∧ Below w.heap.size w w'
section
variable {ev : Operand → Value} {w : World} {dst : Option Tmp} {ty : TypeId} {ps : String} {af : Array Edge} {gd : Option (Nat × Bool)} {x y : Operand} {b i : Nat}
theorem exec_call1 {F : FuncId} {at_ : Array TypeId} {u : Value} (hF : ev (.func F) = .func (.func F) #[] #[]) (hcf : ∀ (args : Array Value) (w : World), (callFunc F args).run Tryd.prog w = .ok (.enter F args) w) (hx : ev x = u) :
    (execOp ev { dst := dst, op := .call { callee := .value (.func F), args := #[x], argTypes := at_ }, type := ty, pos := ps, after := af, guard := gd }).run Tryd.prog w = .ok (.enter F #[u]) w := by
  simp [execOp, hx, hF, hcf, go_sem]
theorem exec_call2 {F : FuncId} {at_ : Array TypeId} {u v : Value} (hF : ev (.func F) = .func (.func F) #[] #[]) (hcf : ∀ (args : Array Value) (w : World), (callFunc F args).run Tryd.prog w = .ok (.enter F args) w) (hx : ev x = u) (hy : ev y = v) :
    (execOp ev { dst := dst, op := .call { callee := .value (.func F), args := #[x, y], argTypes := at_ }, type := ty, pos := ps, after := af, guard := gd }).run Tryd.prog w = .ok (.enter F #[u, v]) w := by
  simp [execOp, hx, hy, hF, hcf, go_sem]
theorem exec_call4 {F : FuncId} {at_ : Array TypeId} {x3 x4 : Operand} {u v u3 u4 : Value} (hF : ev (.func F) = .func (.func F) #[] #[]) (hcf : ∀ (args : Array Value) (w : World), (callFunc F args).run Tryd.prog w = .ok (.enter F args) w) (hx : ev x = u) (hy : ev y = v) (h3 : ev x3 = u3) (h4 : ev x4 = u4) :
    (execOp ev { dst := dst, op := .call { callee := .value (.func F), args := #[x, y, x3, x4], argTypes := at_ }, type := ty, pos := ps, after := af, guard := gd }).run Tryd.prog w = .ok (.enter F #[u, v, u3, u4]) w := by
  simp [execOp, hx, hy, h3, h4, hF, hcf, go_sem]
theorem exec_move {u : Value} (hx : ev x = u) :
    (execOp ev { dst := dst, op := .move x, type := ty, pos := ps, after := af, guard := gd }).run Tryd.prog w = .ok (.value u) w := by
  simp [execOp, hx, go_sem]
theorem exec_loadN {z : Int} (hx : ev x = .pointer (some ⟨b, i, none⟩)) (hc : w.cell? ⟨b, i, none⟩ = some (.int .u64 z)) :
    (execOp ev { dst := dst, op := .load 91 x, type := ty, pos := ps, after := af, guard := gd }).run Tryd.prog w = .ok (.value (.agg #[.int .u64 z])) w := by
  simp [execOp, hx, hc, go_sem]
theorem exec_load0 (hx : ev x = .pointer (some ⟨b, i, none⟩)) :
    (execOp ev { dst := dst, op := .load 87 x, type := ty, pos := ps, after := af, guard := gd }).run Tryd.prog w = .ok (.value (.agg #[])) w := by
  simp [execOp, hx, go_sem]
theorem exec_alloc : (execOp ev { dst := dst, op := .alloc 91, type := ty, pos := ps, after := af, guard := gd }).run Tryd.prog w = .ok (.value (.pointer (some ⟨w.heap.size, 0, none⟩))) (w.alloc (.cells #[.int .u64 0] 91)) := by
  simp [execOp, go_sem]
theorem exec_store {z z0 : Int} (hx : ev x = .pointer (some ⟨b, 0, none⟩)) (hy : ev y = .agg #[.int .u64 z]) (hr : R1 w b z0) :
    (execOp ev { dst := dst, op := .store 91 x y, type := ty, pos := ps, after := af, guard := gd }).run Tryd.prog w = .ok .skip (w.setCell ⟨b, 0, none⟩ (.int .u64 z)) := by
  have h1 := hr.cell
  have h2 := hr.frz
  simp [execOp, hx, hy, h1, h2, go_sem]
theorem cf_times (args : Array Value) (w : World) : (callFunc 67 args).run Tryd.prog w = .ok (.enter 67 args) w := by kernel_rfl
theorem cf_minus (args : Array Value) (w : World) : (callFunc 83 args).run Tryd.prog w = .ok (.enter 83 args) w := by kernel_rfl
theorem cf_plus (args : Array Value) (w : World) : (callFunc 68 args).run Tryd.prog w = .ok (.enter 68 args) w := by kernel_rfl
theorem cf_reduced (args : Array Value) (w : World) : (callFunc 65 args).run Tryd.prog w = .ok (.enter 65 args) w := by kernel_rfl
end

section
variable {A : Act} {w W0 : World} {dst : Option Tmp} {ty : TypeId} {ps : String} {af : Array Edge} {gd : Option (Nat × Bool)} {x y x3 x4 : Operand} {b i : Nat}
theorem do_call1 {F : FuncId} {at_ : Array TypeId} {u r : Value} (hcf : ∀ (args : Array Value) (w : World), (callFunc F args).run Tryd.prog w = .ok (.enter F args) w) (hx : A.eval x = u)
    (hc : Calls Tryd.prog F #[u] w fun e w' => e = .returned r ∧ Below w.heap.size w w') :
    Does Tryd.prog { dst := dst, op := .call { callee := .value (.func F), args := #[x], argTypes := at_ }, type := ty, pos := ps, after := af, guard := gd } A w fun v' w' => v' = r ∧ Below w.heap.size w w' :=
  does_call (exec_call1 rfl hcf hx) (hc.mono fun _ _ ⟨h, h'⟩ => ⟨r, h, rfl, h'⟩)
theorem do_call2 {F : FuncId} {at_ : Array TypeId} {u v r : Value} (hcf : ∀ (args : Array Value) (w : World), (callFunc F args).run Tryd.prog w = .ok (.enter F args) w) (hx : A.eval x = u) (hy : A.eval y = v)
    (hc : Calls Tryd.prog F #[u, v] w fun e w' => e = .returned r ∧ Below w.heap.size w w') :
    Does Tryd.prog { dst := dst, op := .call { callee := .value (.func F), args := #[x, y], argTypes := at_ }, type := ty, pos := ps, after := af, guard := gd } A w fun v' w' => v' = r ∧ Below w.heap.size w w' :=
  does_call (exec_call2 rfl hcf hx hy) (hc.mono fun _ _ ⟨h, h'⟩ => ⟨r, h, rfl, h'⟩)
theorem do_call4 {F : FuncId} {at_ : Array TypeId} {u v u3 u4 r : Value} (hcf : ∀ (args : Array Value) (w : World), (callFunc F args).run Tryd.prog w = .ok (.enter F args) w) (hx : A.eval x = u) (hy : A.eval y = v) (h3 : A.eval x3 = u3) (h4 : A.eval x4 = u4)
    (hc : Calls Tryd.prog F #[u, v, u3, u4] w fun e w' => e = .returned r ∧ Below w.heap.size w w') :
    Does Tryd.prog { dst := dst, op := .call { callee := .value (.func F), args := #[x, y, x3, x4], argTypes := at_ }, type := ty, pos := ps, after := af, guard := gd } A w fun v' w' => v' = r ∧ Below w.heap.size w w' :=
  does_call (exec_call4 rfl hcf hx hy h3 h4) (hc.mono fun _ _ ⟨h, h'⟩ => ⟨r, h, rfl, h'⟩)
theorem do_loadN {z : Int} (hx : A.eval x = .pointer (some ⟨b, 0, none⟩)) (hr : R1 W0 b z) (hB : Below W0.heap.size W0 w) :
    Does Tryd.prog { dst := dst, op := .load 91 x, type := ty, pos := ps, after := af, guard := gd } A w fun v' w' => v' = .agg #[.int .u64 z] ∧ Below w.heap.size w w' :=
  does_value (exec_loadN hx (hr.keep hB).cell) ⟨rfl, Below.refl _ _⟩
theorem do_loadC {z : Int} (hx : A.eval x = .pointer (some ⟨b, i, none⟩)) (hr : W0.cell? ⟨b, i, none⟩ = some (.int .u64 z)) (hB : Below W0.heap.size W0 w) :
    Does Tryd.prog { dst := dst, op := .load 91 x, type := ty, pos := ps, after := af, guard := gd } A w fun v' w' => v' = .agg #[.int .u64 z] ∧ Below w.heap.size w w' :=
  does_value (exec_loadN hx (keepC hr hB)) ⟨rfl, Below.refl _ _⟩
theorem do_load0 (hx : A.eval x = .pointer (some ⟨b, i, none⟩)) :
    Does Tryd.prog { dst := dst, op := .load 87 x, type := ty, pos := ps, after := af, guard := gd } A w fun v' w' => v' = .agg #[] ∧ Below w.heap.size w w' :=
  does_value (exec_load0 hx) ⟨rfl, Below.refl _ _⟩
set_option maxRecDepth 100000 in
theorem do_move {u : Value} (hx : A.eval x = u) :
    Does Tryd.prog { dst := dst, op := .move x, type := ty, pos := ps, after := af, guard := gd } A w fun v' w' => v' = u ∧ Below w.heap.size w w' := by
  have h := exec_move (ev := A.eval) (w := w) (dst := dst) (ty := ty) (ps := ps) (af := af) (gd := gd) hx
  exact does_value h ⟨rfl, Below.refl _ _⟩
set_option maxRecDepth 100000 in
theorem do_new : Does Tryd.prog { dst := dst, op := .alloc 91, type := ty, pos := ps, after := af, guard := gd } A w fun v w' => v = .pointer (some ⟨w.heap.size, 0, none⟩) ∧ w' = w.alloc (.cells #[.int .u64 0] 91) :=
  by
  have h := exec_alloc (ev := A.eval) (w := w) (dst := dst) (ty := ty) (ps := ps) (af := af) (gd := gd)
  exact does_value h ⟨rfl, rfl⟩
theorem do_put {z : Int} (hx : A.eval x = .pointer (some ⟨b, 0, none⟩)) (hy : A.eval y = .agg #[.int .u64 z]) (hr : w.heap[b]? = some (.cells #[.int .u64 0] 91)) :
    Does Tryd.prog { dst := dst, op := .store 91 x y, type := ty, pos := ps, after := af, guard := gd } A w fun _ w' => Turned b (.cells #[.int .u64 z] 91) w w' := by
  have h1 : R1 w b 0 := hr
  refine does_skip (exec_store hx hy h1) ⟨rfl, rfl, rfl, by simp [World.setCell], h1.set z, fun k hk => ?_⟩
  simp [World.setCell, Array.getElem?_modify, Ne.symm hk]
end
end Go.Proofs.YtenggagjgmonoaaDoor

namespace Go.Proofs.YtenggagjgmonoaaDoor
open Go.RowKit M
set_option linter.unusedVariables false

set_option maxRecDepth 100000 in
set_option maxHeartbeats 2000000 in
theorem csqP (x : Fp) (w : World) :
    Calls Tryd.prog 71 #[.agg #[.int .u64 (fv x)]] w fun e w' => e = .returned (.agg #[.int .u64 (fv ((x * x - 3) * x + 111))]) ∧ Below w.heap.size w w' := by
  obtain ⟨X, hX⟩ : ∃ X, X = ((w.alloc (Obj.cells #[.int .u64 (fv x)] 91)).alloc (Obj.cells #[.int .u64 0] 91)).alloc (Obj.cells #[] 87) := ⟨_, rfl⟩
  have hx : R1 X w.heap.size (fv x) := by rw [hX]; exact ((R1.new w _).alloc _).alloc _
  have hr : R1 X (w.heap.size + 1) 0 := by rw [hX]; exact ((R1.new _ 0).at (by simp)).alloc _
  have hb : Below w.heap.size w X := by rw [hX]; exact (((Below.refl _ w).alloc (Nat.le_refl _) _).alloc (by simp) _).alloc (by simp; omega) _
  rw [hX] at hx hr hb
  clear hX
  go_enter Tryd.func71, Tryd.ntmps71
  go_wp2
  refine pool_tail [.val (.agg #[.int .u64 (fv x)]),
    .val (.agg #[.int .u64 (fv x)]),
    .val (.agg #[.int .u64 (fv (x * x))]),
    .val (.agg #[]),
    .val (.agg #[.int .u64 (fv 3)]),
    .val (.agg #[.int .u64 (fv (x * x - 3))]),
    .val (.agg #[.int .u64 (fv x)]),
    .val (.agg #[.int .u64 (fv ((x * x - 3) * x))]),
    .val (.agg #[]),
    .val (.agg #[.int .u64 (fv 111)]),
    .val (.agg #[.int .u64 (fv ((x * x - 3) * x + 111))]),
    .val undef] [[1], [1], [5, 6], [3], [8], [7, 9], [1], [10, 11], [3], [13], [12, 14], [2, 15]] (fun f => [(some 5, .agg #[.int .u64 (fv x)]), (some 6, .agg #[.int .u64 (fv x)]), (some 7, .agg #[.int .u64 (fv (x * x))]), (some 8, .agg #[]), (some 9, .agg #[.int .u64 (fv 3)]), (some 10, .agg #[.int .u64 (fv (x * x - 3))]), (some 11, .agg #[.int .u64 (fv x)]), (some 12, .agg #[.int .u64 (fv ((x * x - 3) * x))]), (some 13, .agg #[]), (some 14, .agg #[.int .u64 (fv 111)]), (some 15, .agg #[.int .u64 (fv ((x * x - 3) * x + 111))])]) (fun f => [(2, .pointer (some ⟨w.heap.size + 1, 0, none⟩)), (15, .agg #[.int .u64 (fv ((x * x - 3) * x + 111))])]) (by kernel_rfl) (by kernel_rfl) (by kernel_rfl) (by kernel_rfl) (by kernel_rfl) (fun _ => by kernel_rfl) ?_ rfl (fun _ => by kernel_rfl) ?_
  · intro ix hix
    match ix, hix with
    | 0, _ => exact ob_val [(1, .pointer (some ⟨w.heap.size, 0, none⟩))] rfl rfl (fun _ => by kernel_rfl) (fun A w ⟨e0, _⟩ hB => do_loadN e0 hx.drew hB)
    | 1, _ => exact ob_val [(1, .pointer (some ⟨w.heap.size, 0, none⟩))] rfl rfl (fun _ => by kernel_rfl) (fun A w ⟨e0, _⟩ hB => do_loadN e0 hx.drew hB)
    | 2, _ => exact ob_val [(5, .agg #[.int .u64 (fv x)]), (6, .agg #[.int .u64 (fv x)])] rfl rfl (fun _ => by kernel_rfl) (fun A w ⟨e0, e1, _⟩ hB => do_call2 cf_times e0 e1 (tmV x x w))
    | 3, _ => exact ob_val [(3, .pointer (some ⟨w.heap.size + 1 + 1, 0, none⟩))] rfl rfl (fun _ => by kernel_rfl) (fun A w ⟨e0, _⟩ hB => do_load0 e0)
    | 4, _ => exact ob_val [(8, .agg #[])] rfl rfl (fun _ => by kernel_rfl) (fun A w ⟨e0, _⟩ hB => do_call2 cf_reduced rfl e0 (rd3 w))
    | 5, _ => exact ob_val [(7, .agg #[.int .u64 (fv (x * x))]), (9, .agg #[.int .u64 (fv 3)])] rfl rfl (fun _ => by kernel_rfl) (fun A w ⟨e0, e1, _⟩ hB => do_call2 cf_minus e0 e1 (mnV (x * x) 3 w))
    | 6, _ => exact ob_val [(1, .pointer (some ⟨w.heap.size, 0, none⟩))] rfl rfl (fun _ => by kernel_rfl) (fun A w ⟨e0, _⟩ hB => do_loadN e0 hx.drew hB)
    | 7, _ => exact ob_val [(10, .agg #[.int .u64 (fv (x * x - 3))]), (11, .agg #[.int .u64 (fv x)])] rfl rfl (fun _ => by kernel_rfl) (fun A w ⟨e0, e1, _⟩ hB => do_call2 cf_times e0 e1 (tmV (x * x - 3) x w))
    | 8, _ => exact ob_val [(3, .pointer (some ⟨w.heap.size + 1 + 1, 0, none⟩))] rfl rfl (fun _ => by kernel_rfl) (fun A w ⟨e0, _⟩ hB => do_load0 e0)
    | 9, _ => exact ob_val [(13, .agg #[])] rfl rfl (fun _ => by kernel_rfl) (fun A w ⟨e0, _⟩ hB => do_call2 cf_reduced rfl e0 (rd111 w))
    | 10, _ => exact ob_val [(12, .agg #[.int .u64 (fv ((x * x - 3) * x))]), (14, .agg #[.int .u64 (fv 111)])] rfl rfl (fun _ => by kernel_rfl) (fun A w ⟨e0, e1, _⟩ hB => do_call2 cf_plus e0 e1 (plV ((x * x - 3) * x) 111 w))
    | ix + 11, h => exact absurd h (by simp)
  rintro f A w9 ⟨e0, e1, _⟩ hB _
  replace hr := (hr.drew).keep hB
  replace hb := keepB hb.drew hb.size hB
  refine does_skip (exec_store e0 e1 hr) ?_
  simp only [puts, List.foldl, Act.put, List.setIfInBounds_toArray, List.set_cons_zero, List.set_cons_succ]
  go_wp2
  exact bodyPost_ret (v := .agg #[.int .u64 (fv ((x * x - 3) * x + 111))]) (num_res (fn := Tryd.f71) (p := 2) Tryd.results71 _ rfl (hr.set _)) rfl ⟨rfl, hb.setCell (p := ⟨w.heap.size + 1, 0, none⟩) (by simp) _⟩
theorem csqV (x : Fp) (w : World) :
    Calls Tryd.prog 71 #[.agg #[.int .u64 (fv x)]] w fun e w' => e = .returned (.agg #[.int .u64 (fv (crv x))]) ∧ Below w.heap.size w w' := by
  have := csqP x w
  rwa [show (x * x - 3) * x + 111 = crv x by unfold crv; grobner] at this
end Go.Proofs.YtenggagjgmonoaaDoor
