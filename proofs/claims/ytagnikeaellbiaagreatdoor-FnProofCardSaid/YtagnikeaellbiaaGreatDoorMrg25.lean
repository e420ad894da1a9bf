import Derived.Test.YtagnikeaellbiaaGreatDoorMrg24
import Derived.Test.YtagnikeaellbiaaGreatDoorMrg14
import Derived.Test.YtagnikeaellbiaaGreatDoorMrg23
namespace Go.Proofs.YtagnikeaellbiaaGreatDoor
open Go.RowKit M
set_option linter.unusedVariables false

set_option maxRecDepth 100000 in
theorem zpP (w : World) : Calls Tryz.prog 58 #[] w fun e w' => e = .returned (.agg #[.int .u64 0, .int .u64 0, .bool true]) ∧ Below w.heap.size w w' := by
  go_enter Tryz.func58, Tryz.ntmps58
  go_wp2
  refine bodyPost_ret (v := .agg #[.int .u64 0, .int .u64 0, .bool true]) (by simp [results, Tryz.results58, go_sem]) rfl ⟨rfl, ?_⟩
  exact (Below.refl _ w).alloc (Nat.le_refl _) _

section
variable {ev : Operand → Value} {w : World} {dst : Option Tmp} {ty : TypeId} {ps : String} {af : Array Edge} {gd : Option (Nat × Bool)} {x y : Operand} {b i : Nat}
theorem exec_call0 {F : FuncId} {at_ : Array TypeId} (hF : ev (.func F) = .func (.func F) #[] #[]) (hcf : ∀ (args : Array Value) (w : World), (callFunc F args).run Tryz.prog w = .ok (.enter F args) w) :
    (execOp ev { dst := dst, op := .call { callee := .value (.func F), args := #[], argTypes := at_ }, type := ty, pos := ps, after := af, guard := gd }).run Tryz.prog w = .ok (.enter F #[]) w := by
  simp [execOp, hF, hcf, go_sem]
theorem exec_f60 (hx : ev x = .pointer (some ⟨b, 0, none⟩)) :
    (execOp ev { dst := dst, op := .fieldAddr 62 x 0, type := ty, pos := ps, after := af, guard := gd }).run Tryz.prog w = .ok (.value (.pointer (some ⟨b, 0, none⟩))) w := by
  simp [execOp, hx, go_sem]
theorem exec_f25a (hx : ev x = .pointer (some ⟨b, 0, none⟩)) :
    (execOp ev { dst := dst, op := .fieldAddr 27 x 0, type := ty, pos := ps, after := af, guard := gd }).run Tryz.prog w = .ok (.value (.pointer (some ⟨b, 0, none⟩))) w := by
  simp [execOp, hx, go_sem]
theorem exec_f25b (hx : ev x = .pointer (some ⟨b, 0, none⟩)) :
    (execOp ev { dst := dst, op := .fieldAddr 27 x 1, type := ty, pos := ps, after := af, guard := gd }).run Tryz.prog w = .ok (.value (.pointer (some ⟨b, 1, none⟩))) w := by
  simp [execOp, hx, go_sem]
theorem exec_loadU {z : Int} (hx : ev x = .pointer (some ⟨b, i, none⟩)) (hc : w.cell? ⟨b, i, none⟩ = some (.int .u64 z)) :
    (execOp ev { dst := dst, op := .load 22 x, type := ty, pos := ps, after := af, guard := gd }).run Tryz.prog w = .ok (.value (.int .u64 z)) w := by
  simp [execOp, hx, hc, go_sem]
theorem exec_loadK {X Y : Int} {c : Bool} (hx : ev x = .pointer (some ⟨b, 0, none⟩)) (h0 : w.cell? ⟨b, 0, none⟩ = some (.int .u64 X)) (h1 : w.cell? ⟨b, 1, none⟩ = some (.int .u64 Y)) (h2 : w.cell? ⟨b, 2, none⟩ = some (.bool c)) :
    (execOp ev { dst := dst, op := .load 62 x, type := ty, pos := ps, after := af, guard := gd }).run Tryz.prog w = .ok (.value (.agg #[.int .u64 X, .int .u64 Y, .bool c])) w := by
  simp [execOp, hx, h0, h1, h2, go_sem]
theorem exec_storeK {X Y X0 Y0 : Int} {c c0 : Bool} (hx : ev x = .pointer (some ⟨b, 0, none⟩)) (hy : ev y = .agg #[.int .u64 X, .int .u64 Y, .bool c]) (hr : K3 w 62 b X0 Y0 c0) :
    (execOp ev { dst := dst, op := .store 62 x y, type := ty, pos := ps, after := af, guard := gd }).run Tryz.prog w = .ok .skip (set3 w b X Y c) := by
  have h1 := hr.c0
  have h2 := hr.c1
  have h3 := hr.c2
  have h4 := hr.frz
  simp [execOp, hx, hy, h1, h2, h3, h4, go_sem, set3]
theorem exec_fld {z : Int} (hx : ev x = .agg #[.int .u64 z]) :
    (execOp ev { dst := dst, op := .field 105 x 1, type := ty, pos := ps, after := af, guard := gd }).run Tryz.prog w = .ok (.value (.int .u64 z)) w := by
  simp [execOp, hx, fldP, go_sem]
theorem exec_b25 {X Y : Int} (hx : ev x = .int .u64 X) (hy : ev y = .int .u64 Y) :
    (execOp ev { dst := dst, op := .build 27 #[(0, x), (1, y)], type := ty, pos := ps, after := af, guard := gd }).run Tryz.prog w = .ok (.value (.agg #[.int .u64 X, .int .u64 Y, .bool false])) w := by
  simp [execOp, hx, hy, go_sem]
theorem exec_b60 {X Y : Int} {c : Bool} (hx : ev x = .agg #[.int .u64 X, .int .u64 Y, .bool c]) :
    (execOp ev { dst := dst, op := .build 62 #[(0, x)], type := ty, pos := ps, after := af, guard := gd }).run Tryz.prog w = .ok (.value (.agg #[.int .u64 X, .int .u64 Y, .bool c])) w := by
  simp [execOp, hx, go_sem]
theorem cf_zero (args : Array Value) (w : World) : (callFunc 58 args).run Tryz.prog w = .ok (.enter 58 args) w := by kernel_rfl
theorem cf_triple (args : Array Value) (w : World) : (callFunc 71 args).run Tryz.prog w = .ok (.enter 71 args) w := by kernel_rfl
theorem cf_tplus (args : Array Value) (w : World) : (callFunc 84 args).run Tryz.prog w = .ok (.enter 84 args) w := by kernel_rfl
theorem cf_point (args : Array Value) (w : World) : (callFunc 73 args).run Tryz.prog w = .ok (.enter 73 args) w := by kernel_rfl
end
section
variable {A : Act} {w W0 : World} {dst : Option Tmp} {ty : TypeId} {ps : String} {af : Array Edge} {gd : Option (Nat × Bool)} {x y : Operand} {b i : Nat}
set_option maxRecDepth 100000
theorem do_f60 (hx : A.eval x = .pointer (some ⟨b, 0, none⟩)) :
    Does Tryz.prog { dst := dst, op := .fieldAddr 62 x 0, type := ty, pos := ps, after := af, guard := gd } A w fun v' w' => v' = .pointer (some ⟨b, 0, none⟩) ∧ Below w.heap.size w w' := by
  have h := exec_f60 (ev := A.eval) (w := w) (dst := dst) (ty := ty) (ps := ps) (af := af) (gd := gd) hx
  exact does_value h ⟨rfl, Below.refl _ _⟩
theorem do_f25a (hx : A.eval x = .pointer (some ⟨b, 0, none⟩)) :
    Does Tryz.prog { dst := dst, op := .fieldAddr 27 x 0, type := ty, pos := ps, after := af, guard := gd } A w fun v' w' => v' = .pointer (some ⟨b, 0, none⟩) ∧ Below w.heap.size w w' := by
  have h := exec_f25a (ev := A.eval) (w := w) (dst := dst) (ty := ty) (ps := ps) (af := af) (gd := gd) hx
  exact does_value h ⟨rfl, Below.refl _ _⟩
theorem do_f25b (hx : A.eval x = .pointer (some ⟨b, 0, none⟩)) :
    Does Tryz.prog { dst := dst, op := .fieldAddr 27 x 1, type := ty, pos := ps, after := af, guard := gd } A w fun v' w' => v' = .pointer (some ⟨b, 1, none⟩) ∧ Below w.heap.size w w' := by
  have h := exec_f25b (ev := A.eval) (w := w) (dst := dst) (ty := ty) (ps := ps) (af := af) (gd := gd) hx
  exact does_value h ⟨rfl, Below.refl _ _⟩
theorem do_loadU {z : Int} (hx : A.eval x = .pointer (some ⟨b, i, none⟩)) (hc : W0.cell? ⟨b, i, none⟩ = some (.int .u64 z)) (hB : Below W0.heap.size W0 w) :
    Does Tryz.prog { dst := dst, op := .load 22 x, type := ty, pos := ps, after := af, guard := gd } A w fun v' w' => v' = .int .u64 z ∧ Below w.heap.size w w' := by
  have h := exec_loadU (ev := A.eval) (w := w) (dst := dst) (ty := ty) (ps := ps) (af := af) (gd := gd) hx (keepC hc hB)
  exact does_value h ⟨rfl, Below.refl _ _⟩
theorem do_loadK {X Y : Int} {c : Bool} (hx : A.eval x = .pointer (some ⟨b, 0, none⟩)) (hr : K3 W0 62 b X Y c) (hB : Below W0.heap.size W0 w) :
    Does Tryz.prog { dst := dst, op := .load 62 x, type := ty, pos := ps, after := af, guard := gd } A w fun v' w' => v' = .agg #[.int .u64 X, .int .u64 Y, .bool c] ∧ Below w.heap.size w w' := by
  have h := exec_loadK (ev := A.eval) (w := w) (dst := dst) (ty := ty) (ps := ps) (af := af) (gd := gd) hx (hr.keep hB).c0 (hr.keep hB).c1 (hr.keep hB).c2
  exact does_value h ⟨rfl, Below.refl _ _⟩
theorem do_fld {z : Int} (hx : A.eval x = .agg #[.int .u64 z]) :
    Does Tryz.prog { dst := dst, op := .field 105 x 1, type := ty, pos := ps, after := af, guard := gd } A w fun v' w' => v' = .int .u64 z ∧ Below w.heap.size w w' := by
  have h := exec_fld (ev := A.eval) (w := w) (dst := dst) (ty := ty) (ps := ps) (af := af) (gd := gd) hx
  exact does_value h ⟨rfl, Below.refl _ _⟩
theorem do_b25 {X Y : Int} (hx : A.eval x = .int .u64 X) (hy : A.eval y = .int .u64 Y) :
    Does Tryz.prog { dst := dst, op := .build 27 #[(0, x), (1, y)], type := ty, pos := ps, after := af, guard := gd } A w fun v' w' => v' = .agg #[.int .u64 X, .int .u64 Y, .bool false] ∧ Below w.heap.size w w' := by
  have h := exec_b25 (ev := A.eval) (w := w) (dst := dst) (ty := ty) (ps := ps) (af := af) (gd := gd) hx hy
  exact does_value h ⟨rfl, Below.refl _ _⟩
theorem do_b60 {X Y : Int} {c : Bool} (hx : A.eval x = .agg #[.int .u64 X, .int .u64 Y, .bool c]) :
    Does Tryz.prog { dst := dst, op := .build 62 #[(0, x)], type := ty, pos := ps, after := af, guard := gd } A w fun v' w' => v' = .agg #[.int .u64 X, .int .u64 Y, .bool c] ∧ Below w.heap.size w w' := by
  have h := exec_b60 (ev := A.eval) (w := w) (dst := dst) (ty := ty) (ps := ps) (af := af) (gd := gd) hx
  exact does_value h ⟨rfl, Below.refl _ _⟩
end
end Go.Proofs.YtagnikeaellbiaaGreatDoor

namespace Go.Proofs.YtagnikeaellbiaaGreatDoor
open Go.RowKit M
set_option linter.unusedVariables false

set_option maxRecDepth 100000 in
set_option maxHeartbeats 2000000 in
theorem triP_some (x y : Fp) (w : World) :
    Calls Tryz.prog 71 #[.agg #[.int .u64 (fv x), .int .u64 (fv y), .bool false]] w fun e w' => e = .returned (.agg #[.int .u64 (fv x), .int .u64 (fv y), .int .u64 (fv 1)]) ∧ Below w.heap.size w w' := by
  obtain ⟨X, hX⟩ : ∃ X, X = ((w.alloc (Obj.cells #[.int .u64 (fv x), .int .u64 (fv y), .bool false] 62)).alloc (Obj.cells #[.int .u64 0, .int .u64 0, .int .u64 0] 117)).alloc (Obj.cells #[] 103) := ⟨_, rfl⟩
  have hp : K3 X 62 w.heap.size (fv x) (fv y) false := by rw [hX]; exact ((K3.new w _ _ _ _).alloc _).alloc _
  have hr : T3 X (w.heap.size + 1) 0 0 0 := by rw [hX]; exact ((T3.new _ 0 0 0).at (by simp)).alloc _
  have hb : Below w.heap.size w X := by rw [hX]; exact (((Below.refl _ w).alloc (Nat.le_refl _) _).alloc (by simp) _).alloc (by simp; omega) _
  rw [hX] at hp hr hb
  clear hX
  have c0 := hp.drew.c0
  have c1 := hp.drew.c1
  have c2 := hp.drew.c2
  go_enter Tryz.func71, Tryz.ntmps71
  go_wp2
  go_region_held3 (fun w' => w'.cell? ⟨w.heap.size, 0, none⟩ = some (.int .u64 (fv x)) ∧ w'.cell? ⟨w.heap.size, 1, none⟩ = some (.int .u64 (fv y)) ∧ w'.cell? ⟨w.heap.size, 2, none⟩ = some (.bool false)) (first | exact ⟨c0, c1, c2⟩ | exact ⟨keepC c0 b1, keepC c1 b1, keepC c2 b1⟩ | go_keep) ((go_at_call 58; refine (zpP _).mono ?_; rintro e w1 ⟨rfl, b1⟩))
  replace hp := (hp.drew).keep b1
  replace hr := (hr.drew).keep b1
  replace hb := keepB hb.drew hb.size b1
  clear b1 c0 c1 c2
  go_wp2
  refine pool_tail [.val (.pointer (some ⟨w.heap.size, 0, none⟩)),
    .val (.pointer (some ⟨w.heap.size, 0, none⟩)),
    .val (.int .u64 (fv x)),
    .val (.agg #[]),
    .val (.agg #[.int .u64 (fv x)]),
    .val (.pointer (some ⟨w.heap.size, 0, none⟩)),
    .val (.pointer (some ⟨w.heap.size, 1, none⟩)),
    .val (.int .u64 (fv y)),
    .val (.agg #[]),
    .val (.agg #[.int .u64 (fv y)]),
    .val (.agg #[]),
    .val (.agg #[.int .u64 (fv 1)]),
    .val (.agg #[.int .u64 (fv x), .int .u64 (fv y), .int .u64 (fv 1)]),
    .val undef] [[1], [15], [16], [3], [17, 18], [1], [20], [21], [3], [22, 23], [3], [25], [19, 24, 26], [2, 27]] (fun f => [(some 15, .pointer (some ⟨w.heap.size, 0, none⟩)), (some 16, .pointer (some ⟨w.heap.size, 0, none⟩)), (some 17, .int .u64 (fv x)), (some 18, .agg #[]), (some 19, .agg #[.int .u64 (fv x)]), (some 20, .pointer (some ⟨w.heap.size, 0, none⟩)), (some 21, .pointer (some ⟨w.heap.size, 1, none⟩)), (some 22, .int .u64 (fv y)), (some 23, .agg #[]), (some 24, .agg #[.int .u64 (fv y)]), (some 25, .agg #[]), (some 26, .agg #[.int .u64 (fv 1)]), (some 27, .agg #[.int .u64 (fv x), .int .u64 (fv y), .int .u64 (fv 1)])]) (fun f => [(2, .pointer (some ⟨w.heap.size + 1, 0, none⟩)), (27, .agg #[.int .u64 (fv x), .int .u64 (fv y), .int .u64 (fv 1)])]) (by kernel_rfl) (by kernel_rfl) (by kernel_rfl) (by kernel_rfl) (by kernel_rfl) (fun _ => by kernel_rfl) ?_ rfl (fun _ => by kernel_rfl) ?_
  · intro ix hix
    match ix, hix with
    | 0, _ => exact ob_val [(1, .pointer (some ⟨w.heap.size, 0, none⟩))] rfl rfl (fun _ => by kernel_rfl) (fun A w ⟨e0, _⟩ hB => do_f60 e0)
    | 1, _ => exact ob_val [(15, .pointer (some ⟨w.heap.size, 0, none⟩))] rfl rfl (fun _ => by kernel_rfl) (fun A w ⟨e0, _⟩ hB => do_f25a e0)
    | 2, _ => exact ob_val [(16, .pointer (some ⟨w.heap.size, 0, none⟩))] rfl rfl (fun _ => by kernel_rfl) (fun A w ⟨e0, _⟩ hB => do_loadU e0 (hp.drew).c0 hB)
    | 3, _ => exact ob_val [(3, .pointer (some ⟨w.heap.size + 1 + 1, 0, none⟩))] rfl rfl (fun _ => by kernel_rfl) (fun A w ⟨e0, _⟩ hB => do_load0 e0)
    | 4, _ => exact ob_val [(17, .int .u64 (fv x)), (18, .agg #[])] rfl rfl (fun _ => by kernel_rfl) (fun A w ⟨e0, e1, _⟩ hB => do_call2 cf_reduced e0 e1 (rdV x w))
    | 5, _ => exact ob_val [(1, .pointer (some ⟨w.heap.size, 0, none⟩))] rfl rfl (fun _ => by kernel_rfl) (fun A w ⟨e0, _⟩ hB => do_f60 e0)
    | 6, _ => exact ob_val [(20, .pointer (some ⟨w.heap.size, 0, none⟩))] rfl rfl (fun _ => by kernel_rfl) (fun A w ⟨e0, _⟩ hB => do_f25b e0)
    | 7, _ => exact ob_val [(21, .pointer (some ⟨w.heap.size, 1, none⟩))] rfl rfl (fun _ => by kernel_rfl) (fun A w ⟨e0, _⟩ hB => do_loadU e0 (hp.drew).c1 hB)
    | 8, _ => exact ob_val [(3, .pointer (some ⟨w.heap.size + 1 + 1, 0, none⟩))] rfl rfl (fun _ => by kernel_rfl) (fun A w ⟨e0, _⟩ hB => do_load0 e0)
    | 9, _ => exact ob_val [(22, .int .u64 (fv y)), (23, .agg #[])] rfl rfl (fun _ => by kernel_rfl) (fun A w ⟨e0, e1, _⟩ hB => do_call2 cf_reduced e0 e1 (rdV y w))
    | 10, _ => exact ob_val [(3, .pointer (some ⟨w.heap.size + 1 + 1, 0, none⟩))] rfl rfl (fun _ => by kernel_rfl) (fun A w ⟨e0, _⟩ hB => do_load0 e0)
    | 11, _ => exact ob_val [(25, .agg #[])] rfl rfl (fun _ => by kernel_rfl) (fun A w ⟨e0, _⟩ hB => do_call2 cf_reduced rfl e0 (rd1 w))
    | 12, _ => exact ob_val [(19, .agg #[.int .u64 (fv x)]), (24, .agg #[.int .u64 (fv y)]), (26, .agg #[.int .u64 (fv 1)])] rfl rfl (fun _ => by kernel_rfl) (fun A w ⟨e0, e1, e2, _⟩ hB => do_build e0 e1 e2)
    | ix + 13, h => exact absurd h (by simp)
  rintro f A w9 ⟨e0, e1, _⟩ hB _
  replace hr := (hr.drew).keep hB
  replace hb := keepB hb.drew hb.size hB
  refine does_skip (exec_storeT e0 e1 hr) ?_
  simp only [puts, List.foldl, Act.put, List.setIfInBounds_toArray, List.set_cons_zero, List.set_cons_succ]
  go_wp2
  exact bodyPost_ret (v := .agg #[.int .u64 (fv x), .int .u64 (fv y), .int .u64 (fv 1)]) (trip_res (fn := Tryz.f71) (p := 2) Tryz.results71 _ rfl (hr.set _ _ _)) rfl ⟨rfl, setT_below hb (by omega)⟩

set_option maxRecDepth 100000 in
set_option maxHeartbeats 2000000 in
theorem triP_none (w : World) :
    Calls Tryz.prog 71 #[.agg #[.int .u64 0, .int .u64 0, .bool true]] w fun e w' => e = .returned (.agg #[.int .u64 (fv 0), .int .u64 (fv 1), .int .u64 (fv 0)]) ∧ Below w.heap.size w w' := by
  obtain ⟨X, hX⟩ : ∃ X, X = ((w.alloc (Obj.cells #[.int .u64 0, .int .u64 0, .bool true] 62)).alloc (Obj.cells #[.int .u64 0, .int .u64 0, .int .u64 0] 117)).alloc (Obj.cells #[] 103) := ⟨_, rfl⟩
  have hp : K3 X 62 w.heap.size 0 0 true := by rw [hX]; exact ((K3.new w _ _ _ _).alloc _).alloc _
  have hr : T3 X (w.heap.size + 1) 0 0 0 := by rw [hX]; exact ((T3.new _ 0 0 0).at (by simp)).alloc _
  have hb : Below w.heap.size w X := by rw [hX]; exact (((Below.refl _ w).alloc (Nat.le_refl _) _).alloc (by simp) _).alloc (by simp; omega) _
  rw [hX] at hp hr hb
  clear hX
  have c0 := hp.drew.c0
  have c1 := hp.drew.c1
  have c2 := hp.drew.c2
  go_enter Tryz.func71, Tryz.ntmps71
  go_wp2
  go_region_held3 (fun w' => w'.cell? ⟨w.heap.size, 0, none⟩ = some (.int .u64 0) ∧ w'.cell? ⟨w.heap.size, 1, none⟩ = some (.int .u64 0) ∧ w'.cell? ⟨w.heap.size, 2, none⟩ = some (.bool true)) (first | exact ⟨c0, c1, c2⟩ | exact ⟨keepC c0 b1, keepC c1 b1, keepC c2 b1⟩ | go_keep) ((go_at_call 58; refine (zpP _).mono ?_; rintro e w1 ⟨rfl, b1⟩))
  replace hp := (hp.drew).keep b1
  replace hr := (hr.drew).keep b1
  replace hb := keepB hb.drew hb.size b1
  clear b1 c0 c1 c2
  go_wp2
  refine pool_tail [.val (.agg #[]),
    .val (.agg #[.int .u64 (fv 0)]),
    .val (.agg #[]),
    .val (.agg #[.int .u64 (fv 1)]),
    .val (.agg #[]),
    .val (.agg #[.int .u64 (fv 0)]),
    .val (.agg #[.int .u64 (fv 0), .int .u64 (fv 1), .int .u64 (fv 0)]),
    .val undef] [[3], [8], [3], [10], [3], [12], [9, 11, 13], [2, 14]] (fun f => [(some 8, .agg #[]), (some 9, .agg #[.int .u64 (fv 0)]), (some 10, .agg #[]), (some 11, .agg #[.int .u64 (fv 1)]), (some 12, .agg #[]), (some 13, .agg #[.int .u64 (fv 0)]), (some 14, .agg #[.int .u64 (fv 0), .int .u64 (fv 1), .int .u64 (fv 0)])]) (fun f => [(2, .pointer (some ⟨w.heap.size + 1, 0, none⟩)), (14, .agg #[.int .u64 (fv 0), .int .u64 (fv 1), .int .u64 (fv 0)])]) (by kernel_rfl) (by kernel_rfl) (by kernel_rfl) (by kernel_rfl) (by kernel_rfl) (fun _ => by kernel_rfl) ?_ rfl (fun _ => by kernel_rfl) ?_
  · intro ix hix
    match ix, hix with
    | 0, _ => exact ob_val [(3, .pointer (some ⟨w.heap.size + 1 + 1, 0, none⟩))] rfl rfl (fun _ => by kernel_rfl) (fun A w ⟨e0, _⟩ hB => do_load0 e0)
    | 1, _ => exact ob_val [(8, .agg #[])] rfl rfl (fun _ => by kernel_rfl) (fun A w ⟨e0, _⟩ hB => do_call2 cf_reduced rfl e0 (rd0 w))
    | 2, _ => exact ob_val [(3, .pointer (some ⟨w.heap.size + 1 + 1, 0, none⟩))] rfl rfl (fun _ => by kernel_rfl) (fun A w ⟨e0, _⟩ hB => do_load0 e0)
    | 3, _ => exact ob_val [(10, .agg #[])] rfl rfl (fun _ => by kernel_rfl) (fun A w ⟨e0, _⟩ hB => do_call2 cf_reduced rfl e0 (rd1 w))
    | 4, _ => exact ob_val [(3, .pointer (some ⟨w.heap.size + 1 + 1, 0, none⟩))] rfl rfl (fun _ => by kernel_rfl) (fun A w ⟨e0, _⟩ hB => do_load0 e0)
    | 5, _ => exact ob_val [(12, .agg #[])] rfl rfl (fun _ => by kernel_rfl) (fun A w ⟨e0, _⟩ hB => do_call2 cf_reduced rfl e0 (rd0 w))
    | 6, _ => exact ob_val [(9, .agg #[.int .u64 (fv 0)]), (11, .agg #[.int .u64 (fv 1)]), (13, .agg #[.int .u64 (fv 0)])] rfl rfl (fun _ => by kernel_rfl) (fun A w ⟨e0, e1, e2, _⟩ hB => do_build e0 e1 e2)
    | ix + 7, h => exact absurd h (by simp)
  rintro f A w9 ⟨e0, e1, _⟩ hB _
  replace hr := (hr.drew).keep hB
  replace hb := keepB hb.drew hb.size hB
  refine does_skip (exec_storeT e0 e1 hr) ?_
  simp only [puts, List.foldl, Act.put, List.setIfInBounds_toArray, List.set_cons_zero, List.set_cons_succ]
  go_wp2
  exact bodyPost_ret (v := .agg #[.int .u64 (fv 0), .int .u64 (fv 1), .int .u64 (fv 0)]) (trip_res (fn := Tryz.f71) (p := 2) Tryz.results71 _ rfl (hr.set _ _ _)) rfl ⟨rfl, setT_below hb (by omega)⟩

theorem triV : ∀ (p : Pt) (w : World), Calls Tryz.prog 71 #[ptW p] w fun e w' => e = .returned (.agg #[.int .u64 (fv (pX p)), .int .u64 (fv (pY p)), .int .u64 (fv (pZ p))]) ∧ Below w.heap.size w w'
  | none, w => triP_none w
  | some (x, y), w => triP_some x y w

set_option maxRecDepth 100000 in
set_option maxHeartbeats 2000000 in
theorem pntP_no (X Y Z : Fp) (w : World) (hz : (fv Z == 0) = true) :
    Calls Tryz.prog 73 #[.agg #[.int .u64 (fv X), .int .u64 (fv Y), .int .u64 (fv Z)]] w fun e w' => e = .returned (.agg #[.int .u64 0, .int .u64 0, .bool true]) ∧ Below w.heap.size w w' := by
  obtain ⟨X0, hX⟩ : ∃ X0, X0 = ((w.alloc (Obj.cells #[.int .u64 (fv X), .int .u64 (fv Y), .int .u64 (fv Z)] 117)).alloc (Obj.cells #[.int .u64 0, .int .u64 0, .bool false] 62)).alloc (Obj.cells #[.int .u64 (fv Z)] 105) := ⟨_, rfl⟩
  have ht : T3 X0 w.heap.size (fv X) (fv Y) (fv Z) := by rw [hX]; exact ((T3.new w _ _ _).alloc _).alloc _
  have hr : K3 X0 62 (w.heap.size + 1) 0 0 false := by rw [hX]; exact ((K3.new _ _ 0 0 false).at (by simp)).alloc _
  have hb : Below w.heap.size w X0 := by rw [hX]; exact (((Below.refl _ w).alloc (Nat.le_refl _) _).alloc (by simp) _).alloc (by simp; omega) _
  rw [hX] at ht hr hb
  clear hX
  go_enter Tryz.func73, Tryz.ntmps73
  go_wp2_with fail
  refine (zpP _).mono ?_
  rintro e w2 ⟨rfl, b2⟩
  replace hr := hr.keep b2
  replace hb := keepB hb hb.size b2
  have c0 := hr.c0
  have c1 := hr.c1
  have c2 := hr.c2
  have f0 := hr.frz 0
  have f1 := hr.frz 1
  have f2 := hr.frz 2
  clear b2
  go_wp2
  exact bodyPost_ret (v := .agg #[.int .u64 0, .int .u64 0, .bool true]) (cp_res (fn := Tryz.f73) (p := 2) Tryz.results73 _ rfl (hr.set 0 0 true)) rfl ⟨rfl, set3_below hb (by omega)⟩
set_option maxRecDepth 100000 in
set_option maxHeartbeats 2000000 in
theorem pntP_yes (X Y Z : Fp) (w : World) (hz : (fv Z == 0) = false) :
    Calls Tryz.prog 73 #[.agg #[.int .u64 (fv X), .int .u64 (fv Y), .int .u64 (fv Z)]] w fun e w' => e = .returned (.agg #[.int .u64 (fv (X * fi Z)), .int .u64 (fv (Y * fi Z)), .bool false]) ∧ Below w.heap.size w w' := by
  obtain ⟨X0, hX⟩ : ∃ X0, X0 = ((w.alloc (Obj.cells #[.int .u64 (fv X), .int .u64 (fv Y), .int .u64 (fv Z)] 117)).alloc (Obj.cells #[.int .u64 0, .int .u64 0, .bool false] 62)).alloc (Obj.cells #[.int .u64 (fv Z)] 105) := ⟨_, rfl⟩
  have ht : T3 X0 w.heap.size (fv X) (fv Y) (fv Z) := by rw [hX]; exact ((T3.new w _ _ _).alloc _).alloc _
  have hr : K3 X0 62 (w.heap.size + 1) 0 0 false := by rw [hX]; exact ((K3.new _ _ 0 0 false).at (by simp)).alloc _
  have hb : Below w.heap.size w X0 := by rw [hX]; exact (((Below.refl _ w).alloc (Nat.le_refl _) _).alloc (by simp) _).alloc (by simp; omega) _
  rw [hX] at ht hr hb
  clear hX
  go_enter Tryz.func73, Tryz.ntmps73
  go_wp2_with fail
  refine (ivV Z _).mono ?_
  rintro e w2 ⟨rfl, b2⟩
  replace ht := (ht.keep b2).alloc (Obj.cells #[.int .u64 (fv (fi Z))] 105)
  replace hr := (hr.keep b2).alloc (Obj.cells #[.int .u64 (fv (fi Z))] 105)
  replace hb := keepB hb hb.size b2
  have hi := R1.new w2 (fv (fi Z))
  replace hb := hb.alloc hb.size (Obj.cells #[.int .u64 (fv (fi Z))] 105)
  clear b2
  go_wp2
  refine pool_tail [.val (.pointer (some ⟨w.heap.size, 0, none⟩)),
    .val (.agg #[.int .u64 (fv X)]),
    .val (.agg #[.int .u64 (fv (fi Z))]),
    .val (.agg #[.int .u64 (fv (X * fi Z))]),
    .val (.int .u64 (fv (X * fi Z))),
    .val (.pointer (some ⟨w.heap.size, 1, none⟩)),
    .val (.agg #[.int .u64 (fv Y)]),
    .val (.agg #[.int .u64 (fv (fi Z))]),
    .val (.agg #[.int .u64 (fv (Y * fi Z))]),
    .val (.int .u64 (fv (Y * fi Z))),
    .val (.agg #[.int .u64 (fv (X * fi Z)), .int .u64 (fv (Y * fi Z)), .bool false]),
    .val (.agg #[.int .u64 (fv (X * fi Z)), .int .u64 (fv (Y * fi Z)), .bool false]),
    .val undef] [[1], [13], [4], [14, 15], [16], [1], [18], [4], [19, 20], [21], [17, 22], [23], [2, 24]] (fun f => [(some 13, .pointer (some ⟨w.heap.size, 0, none⟩)), (some 14, .agg #[.int .u64 (fv X)]), (some 15, .agg #[.int .u64 (fv (fi Z))]), (some 16, .agg #[.int .u64 (fv (X * fi Z))]), (some 17, .int .u64 (fv (X * fi Z))), (some 18, .pointer (some ⟨w.heap.size, 1, none⟩)), (some 19, .agg #[.int .u64 (fv Y)]), (some 20, .agg #[.int .u64 (fv (fi Z))]), (some 21, .agg #[.int .u64 (fv (Y * fi Z))]), (some 22, .int .u64 (fv (Y * fi Z))), (some 23, .agg #[.int .u64 (fv (X * fi Z)), .int .u64 (fv (Y * fi Z)), .bool false]), (some 24, .agg #[.int .u64 (fv (X * fi Z)), .int .u64 (fv (Y * fi Z)), .bool false])]) (fun f => [(2, .pointer (some ⟨w.heap.size + 1, 0, none⟩)), (24, .agg #[.int .u64 (fv (X * fi Z)), .int .u64 (fv (Y * fi Z)), .bool false])]) (by kernel_rfl) (by kernel_rfl) (by kernel_rfl) (by kernel_rfl) (by kernel_rfl) (fun _ => by kernel_rfl) ?_ rfl (fun _ => by kernel_rfl) ?_
  · intro ix hix
    match ix, hix with
    | 0, _ => exact ob_val [(1, .pointer (some ⟨w.heap.size, 0, none⟩))] rfl rfl (fun _ => by kernel_rfl) (fun A w ⟨e0, _⟩ hB => do_idx (k := 0) (by decide) e0)
    | 1, _ => exact ob_val [(13, .pointer (some ⟨w.heap.size, 0, none⟩))] rfl rfl (fun _ => by kernel_rfl) (fun A w ⟨e0, _⟩ hB => do_loadC e0 (ht.drew).c0 hB)
    | 2, _ => exact ob_val [(4, .pointer (some ⟨w2.heap.size, 0, none⟩))] rfl rfl (fun _ => by kernel_rfl) (fun A w ⟨e0, _⟩ hB => do_loadN e0 hi.drew hB)
    | 3, _ => exact ob_val [(14, .agg #[.int .u64 (fv X)]), (15, .agg #[.int .u64 (fv (fi Z))])] rfl rfl (fun _ => by kernel_rfl) (fun A w ⟨e0, e1, _⟩ hB => do_call2 cf_times e0 e1 (tmV X (fi Z) w))
    | 4, _ => exact ob_val [(16, .agg #[.int .u64 (fv (X * fi Z))])] rfl rfl (fun _ => by kernel_rfl) (fun A w ⟨e0, _⟩ hB => do_fld e0)
    | 5, _ => exact ob_val [(1, .pointer (some ⟨w.heap.size, 0, none⟩))] rfl rfl (fun _ => by kernel_rfl) (fun A w ⟨e0, _⟩ hB => do_idx (k := 1) (by decide) e0)
    | 6, _ => exact ob_val [(18, .pointer (some ⟨w.heap.size, 1, none⟩))] rfl rfl (fun _ => by kernel_rfl) (fun A w ⟨e0, _⟩ hB => do_loadC e0 (ht.drew).c1 hB)
    | 7, _ => exact ob_val [(4, .pointer (some ⟨w2.heap.size, 0, none⟩))] rfl rfl (fun _ => by kernel_rfl) (fun A w ⟨e0, _⟩ hB => do_loadN e0 hi.drew hB)
    | 8, _ => exact ob_val [(19, .agg #[.int .u64 (fv Y)]), (20, .agg #[.int .u64 (fv (fi Z))])] rfl rfl (fun _ => by kernel_rfl) (fun A w ⟨e0, e1, _⟩ hB => do_call2 cf_times e0 e1 (tmV Y (fi Z) w))
    | 9, _ => exact ob_val [(21, .agg #[.int .u64 (fv (Y * fi Z))])] rfl rfl (fun _ => by kernel_rfl) (fun A w ⟨e0, _⟩ hB => do_fld e0)
    | 10, _ => exact ob_val [(17, .int .u64 (fv (X * fi Z))), (22, .int .u64 (fv (Y * fi Z)))] rfl rfl (fun _ => by kernel_rfl) (fun A w ⟨e0, e1, _⟩ hB => do_b25 e0 e1)
    | 11, _ => exact ob_val [(23, .agg #[.int .u64 (fv (X * fi Z)), .int .u64 (fv (Y * fi Z)), .bool false])] rfl rfl (fun _ => by kernel_rfl) (fun A w ⟨e0, _⟩ hB => do_b60 e0)
    | ix + 12, h => exact absurd h (by simp)
  rintro f A w9 ⟨e0, e1, _⟩ hB _
  replace hr := (hr.drew).keep hB
  replace hb := keepB hb.drew hb.size hB
  refine does_skip (exec_storeK e0 e1 hr) ?_
  simp only [puts, List.foldl, Act.put, List.setIfInBounds_toArray, List.set_cons_zero, List.set_cons_succ]
  go_wp2
  exact bodyPost_ret (v := .agg #[.int .u64 (fv (X * fi Z)), .int .u64 (fv (Y * fi Z)), .bool false]) (cp_res (fn := Tryz.f73) (p := 2) Tryz.results73 _ rfl (hr.set _ _ _)) rfl ⟨rfl, set3_below hb (by omega)⟩

set_option maxRecDepth 100000 in
set_option maxHeartbeats 2000000 in
theorem cplus_of (x y u v a b s a2 b2 s2 a3 b3 s3 x4 y4 : Int) (c d c4 : Bool) (w : World)
    (K1 : ∀ w, Calls Tryz.prog 71 #[.agg #[.int .u64 x, .int .u64 y, .bool c]] w fun e w' => e = .returned (.agg #[.int .u64 a, .int .u64 b, .int .u64 s]) ∧ Below w.heap.size w w')
    (K2 : ∀ w, Calls Tryz.prog 71 #[.agg #[.int .u64 u, .int .u64 v, .bool d]] w fun e w' => e = .returned (.agg #[.int .u64 a2, .int .u64 b2, .int .u64 s2]) ∧ Below w.heap.size w w')
    (K3_ : ∀ w, Calls Tryz.prog 84 #[.agg #[.int .u64 a, .int .u64 b, .int .u64 s], .agg #[.int .u64 a2, .int .u64 b2, .int .u64 s2]] w fun e w' => e = .returned (.agg #[.int .u64 a3, .int .u64 b3, .int .u64 s3]) ∧ Below w.heap.size w w')
    (K4 : ∀ w, Calls Tryz.prog 73 #[.agg #[.int .u64 a3, .int .u64 b3, .int .u64 s3]] w fun e w' => e = .returned (.agg #[.int .u64 x4, .int .u64 y4, .bool c4]) ∧ Below w.heap.size w w') :
    Calls Tryz.prog 67 #[.agg #[.int .u64 x, .int .u64 y, .bool c], .agg #[.int .u64 u, .int .u64 v, .bool d]] w fun e w' => e = .returned (.agg #[.int .u64 x4, .int .u64 y4, .bool c4]) ∧ Below w.heap.size w w' := by
  obtain ⟨X, hX⟩ : ∃ X, X = ((w.alloc (Obj.cells #[.int .u64 x, .int .u64 y, .bool c] 62)).alloc (Obj.cells #[.int .u64 u, .int .u64 v, .bool d] 62)).alloc (Obj.cells #[.int .u64 0, .int .u64 0, .bool false] 62) := ⟨_, rfl⟩
  have hp : K3 X 62 w.heap.size x y c := by rw [hX]; exact ((K3.new w _ _ _ _).alloc _).alloc _
  have hq : K3 X 62 (w.heap.size + 1) u v d := by rw [hX]; exact ((K3.new _ _ u v d).at (by simp)).alloc _
  have hr : K3 X 62 (w.heap.size + 1 + 1) 0 0 false := by rw [hX]; exact (K3.new _ _ 0 0 false).at (by simp)
  have hb : Below w.heap.size w X := by rw [hX]; exact (((Below.refl _ w).alloc (Nat.le_refl _) _).alloc (by simp) _).alloc (by simp; omega) _
  rw [hX] at hp hq hr hb
  clear hX
  go_enter Tryz.func67, Tryz.ntmps67
  go_wp2
  refine pool_tail [.val (.agg #[.int .u64 x, .int .u64 y, .bool c]),
    .val (.agg #[.int .u64 a, .int .u64 b, .int .u64 s]),
    .val (.agg #[.int .u64 u, .int .u64 v, .bool d]),
    .val (.agg #[.int .u64 a2, .int .u64 b2, .int .u64 s2]),
    .val (.agg #[.int .u64 a3, .int .u64 b3, .int .u64 s3]),
    .val (.agg #[.int .u64 x4, .int .u64 y4, .bool c4]),
    .val undef] [[2], [5], [3], [7], [6, 8], [9], [4, 10]] (fun f => [(some 5, .agg #[.int .u64 x, .int .u64 y, .bool c]), (some 6, .agg #[.int .u64 a, .int .u64 b, .int .u64 s]), (some 7, .agg #[.int .u64 u, .int .u64 v, .bool d]), (some 8, .agg #[.int .u64 a2, .int .u64 b2, .int .u64 s2]), (some 9, .agg #[.int .u64 a3, .int .u64 b3, .int .u64 s3]), (some 10, .agg #[.int .u64 x4, .int .u64 y4, .bool c4])]) (fun f => [(4, .pointer (some ⟨w.heap.size + 1 + 1, 0, none⟩)), (10, .agg #[.int .u64 x4, .int .u64 y4, .bool c4])]) (by kernel_rfl) (by kernel_rfl) (by kernel_rfl) (by kernel_rfl) (by kernel_rfl) (fun _ => by kernel_rfl) ?_ rfl (fun _ => by kernel_rfl) ?_
  · intro ix hix
    match ix, hix with
    | 0, _ => exact ob_val [(2, .pointer (some ⟨w.heap.size, 0, none⟩))] rfl rfl (fun _ => by kernel_rfl) (fun A w ⟨e0, _⟩ hB => do_loadK e0 hp.drew hB)
    | 1, _ => exact ob_val [(5, .agg #[.int .u64 x, .int .u64 y, .bool c])] rfl rfl (fun _ => by kernel_rfl) (fun A w ⟨e0, _⟩ hB => do_call1 cf_triple e0 (K1 w))
    | 2, _ => exact ob_val [(3, .pointer (some ⟨w.heap.size + 1, 0, none⟩))] rfl rfl (fun _ => by kernel_rfl) (fun A w ⟨e0, _⟩ hB => do_loadK e0 hq.drew hB)
    | 3, _ => exact ob_val [(7, .agg #[.int .u64 u, .int .u64 v, .bool d])] rfl rfl (fun _ => by kernel_rfl) (fun A w ⟨e0, _⟩ hB => do_call1 cf_triple e0 (K2 w))
    | 4, _ => exact ob_val [(6, .agg #[.int .u64 a, .int .u64 b, .int .u64 s]), (8, .agg #[.int .u64 a2, .int .u64 b2, .int .u64 s2])] rfl rfl (fun _ => by kernel_rfl) (fun A w ⟨e0, e1, _⟩ hB => do_call2 cf_tplus e0 e1 (K3_ w))
    | 5, _ => exact ob_val [(9, .agg #[.int .u64 a3, .int .u64 b3, .int .u64 s3])] rfl rfl (fun _ => by kernel_rfl) (fun A w ⟨e0, _⟩ hB => do_call1 cf_point e0 (K4 w))
    | ix + 6, h => exact absurd h (by simp)
  rintro f A w9 ⟨e0, e1, _⟩ hB _
  replace hr := (hr.drew).keep hB
  replace hb := keepB hb.drew hb.size hB
  refine does_skip (exec_storeK e0 e1 hr) ?_
  simp only [puts, List.foldl, Act.put, List.setIfInBounds_toArray, List.set_cons_zero, List.set_cons_succ]
  go_wp2
  exact bodyPost_ret (v := .agg #[.int .u64 x4, .int .u64 y4, .bool c4]) (cp_res (fn := Tryz.f67) (p := 4) Tryz.results67 _ rfl (hr.set _ _ _)) rfl ⟨rfl, set3_below hb (by omega)⟩

end Go.Proofs.YtagnikeaellbiaaGreatDoor

namespace Go.Proofs.YtagnikeaellbiaaGreatDoor
open Go.RowKit M
set_option linter.unusedVariables false

set_option maxRecDepth 100000 in
set_option maxHeartbeats 2000000 in
theorem csqP (x : Fp) (w : World) :
    Calls Tryz.prog 61 #[.agg #[.int .u64 (fv x)]] w fun e w' => e = .returned (.agg #[.int .u64 (fv ((x * x - 3) * x + 111))]) ∧ Below w.heap.size w w' := by
  obtain ⟨X, hX⟩ : ∃ X, X = ((w.alloc (Obj.cells #[.int .u64 (fv x)] 105)).alloc (Obj.cells #[.int .u64 0] 105)).alloc (Obj.cells #[] 103) := ⟨_, rfl⟩
  have hx : R1 X w.heap.size (fv x) := by rw [hX]; exact ((R1.new w _).alloc _).alloc _
  have hr : R1 X (w.heap.size + 1) 0 := by rw [hX]; exact ((R1.new _ 0).at (by simp)).alloc _
  have hb : Below w.heap.size w X := by rw [hX]; exact (((Below.refl _ w).alloc (Nat.le_refl _) _).alloc (by simp) _).alloc (by simp; omega) _
  rw [hX] at hx hr hb
  clear hX
  go_enter Tryz.func61, Tryz.ntmps61
  go_wp2
  refine pool_tail [.val (.agg #[.int .u64 (fv x)]),
    .val (.agg #[.int .u64 (fv x)]),
    .val (.agg #[.int .u64 (fv (x * x))]),
    .val (.agg #[]),
    .val (.agg #[.int .u64 (fv 3)]),
    .val (.agg #[.int .u64 (fv (x * x - 3))]),
    .val (.agg #[.int .u64 (fv x)]),
    .val (.agg #[.int .u64 (fv ((x * x - 3) * x))]),
    .val (.agg #[]),
    .val (.agg #[.int .u64 (fv 111)]),
    .val (.agg #[.int .u64 (fv ((x * x - 3) * x + 111))]),
    .val undef] [[1], [1], [5, 6], [3], [8], [7, 9], [1], [10, 11], [3], [13], [12, 14], [2, 15]] (fun f => [(some 5, .agg #[.int .u64 (fv x)]), (some 6, .agg #[.int .u64 (fv x)]), (some 7, .agg #[.int .u64 (fv (x * x))]), (some 8, .agg #[]), (some 9, .agg #[.int .u64 (fv 3)]), (some 10, .agg #[.int .u64 (fv (x * x - 3))]), (some 11, .agg #[.int .u64 (fv x)]), (some 12, .agg #[.int .u64 (fv ((x * x - 3) * x))]), (some 13, .agg #[]), (some 14, .agg #[.int .u64 (fv 111)]), (some 15, .agg #[.int .u64 (fv ((x * x - 3) * x + 111))])]) (fun f => [(2, .pointer (some ⟨w.heap.size + 1, 0, none⟩)), (15, .agg #[.int .u64 (fv ((x * x - 3) * x + 111))])]) (by kernel_rfl) (by kernel_rfl) (by kernel_rfl) (by kernel_rfl) (by kernel_rfl) (fun _ => by kernel_rfl) ?_ rfl (fun _ => by kernel_rfl) ?_
  · intro ix hix
    match ix, hix with
    | 0, _ => exact ob_val [(1, .pointer (some ⟨w.heap.size, 0, none⟩))] rfl rfl (fun _ => by kernel_rfl) (fun A w ⟨e0, _⟩ hB => do_loadN e0 hx.drew hB)
    | 1, _ => exact ob_val [(1, .pointer (some ⟨w.heap.size, 0, none⟩))] rfl rfl (fun _ => by kernel_rfl) (fun A w ⟨e0, _⟩ hB => do_loadN e0 hx.drew hB)
    | 2, _ => exact ob_val [(5, .agg #[.int .u64 (fv x)]), (6, .agg #[.int .u64 (fv x)])] rfl rfl (fun _ => by kernel_rfl) (fun A w ⟨e0, e1, _⟩ hB => do_call2 cf_times e0 e1 (tmV x x w))
    | 3, _ => exact ob_val [(3, .pointer (some ⟨w.heap.size + 1 + 1, 0, none⟩))] rfl rfl (fun _ => by kernel_rfl) (fun A w ⟨e0, _⟩ hB => do_load0 e0)
    | 4, _ => exact ob_val [(8, .agg #[])] rfl rfl (fun _ => by kernel_rfl) (fun A w ⟨e0, _⟩ hB => do_call2 cf_reduced rfl e0 (rd3 w))
    | 5, _ => exact ob_val [(7, .agg #[.int .u64 (fv (x * x))]), (9, .agg #[.int .u64 (fv 3)])] rfl rfl (fun _ => by kernel_rfl) (fun A w ⟨e0, e1, _⟩ hB => do_call2 cf_minus e0 e1 (mnV (x * x) 3 w))
    | 6, _ => exact ob_val [(1, .pointer (some ⟨w.heap.size, 0, none⟩))] rfl rfl (fun _ => by kernel_rfl) (fun A w ⟨e0, _⟩ hB => do_loadN e0 hx.drew hB)
    | 7, _ => exact ob_val [(10, .agg #[.int .u64 (fv (x * x - 3))]), (11, .agg #[.int .u64 (fv x)])] rfl rfl (fun _ => by kernel_rfl) (fun A w ⟨e0, e1, _⟩ hB => do_call2 cf_times e0 e1 (tmV (x * x - 3) x w))
    | 8, _ => exact ob_val [(3, .pointer (some ⟨w.heap.size + 1 + 1, 0, none⟩))] rfl rfl (fun _ => by kernel_rfl) (fun A w ⟨e0, _⟩ hB => do_load0 e0)
    | 9, _ => exact ob_val [(13, .agg #[])] rfl rfl (fun _ => by kernel_rfl) (fun A w ⟨e0, _⟩ hB => do_call2 cf_reduced rfl e0 (rd111 w))
    | 10, _ => exact ob_val [(12, .agg #[.int .u64 (fv ((x * x - 3) * x))]), (14, .agg #[.int .u64 (fv 111)])] rfl rfl (fun _ => by kernel_rfl) (fun A w ⟨e0, e1, _⟩ hB => do_call2 cf_plus e0 e1 (plV ((x * x - 3) * x) 111 w))
    | ix + 11, h => exact absurd h (by simp)
  rintro f A w9 ⟨e0, e1, _⟩ hB _
  replace hr := (hr.drew).keep hB
  replace hb := keepB hb.drew hb.size hB
  refine does_skip (exec_store e0 e1 hr) ?_
  simp only [puts, List.foldl, Act.put, List.setIfInBounds_toArray, List.set_cons_zero, List.set_cons_succ]
  go_wp2
  exact bodyPost_ret (v := .agg #[.int .u64 (fv ((x * x - 3) * x + 111))]) (num_res (fn := Tryz.f61) (p := 2) Tryz.results61 _ rfl (hr.set _)) rfl ⟨rfl, hb.setCell (p := ⟨w.heap.size + 1, 0, none⟩) (by simp) _⟩
theorem csqV (x : Fp) (w : World) :
    Calls Tryz.prog 61 #[.agg #[.int .u64 (fv x)]] w fun e w' => e = .returned (.agg #[.int .u64 (fv (crv x))]) ∧ Below w.heap.size w w' := by
  have := csqP x w
  rwa [show (x * x - 3) * x + 111 = crv x by unfold crv; grobner] at this
end Go.Proofs.YtagnikeaellbiaaGreatDoor
