import Derived.Test.YtjmhmajfkdglnaaGreatDoorMrg26
import Derived.Test.YtjmhmajfkdglnaaGreatDoorMrg16
import Derived.Test.YtjmhmajfkdglnaaGreatDoorMrg17
set_option linter.unusedVariables false
set_option maxRecDepth 100000
set_option maxHeartbeats 16000000
namespace Go.Proofs.YtjmhmajfkdglnaaGreatDoor
open Go.RowKit M
def nth3 (x y z : Int) : Nat → Int
  | 0 => x
  | 1 => y
  | _ => z
theorem T3.nth {W : World} {b : Nat} {x y z : Int} (h : T3 W b x y z) {i : Nat} (hi : i < 3) : W.cell? ⟨b, i, none⟩ = some (.int .u64 (nth3 x y z i)) := by
  match i, hi with
  | 0, _ => exact h.c0
  | 1, _ => exact h.c1
  | 2, _ => exact h.c2
theorem crs_of (X1 Y1 Z1 X2 Y2 Z2 ti tj ui uj a b c : Int) (i j : Nat) (hi : i < 3) (hj : j < 3) (w : World)
    (eti : nth3 X1 Y1 Z1 i = ti) (etj : nth3 X1 Y1 Z1 j = tj) (eui : nth3 X2 Y2 Z2 i = ui) (euj : nth3 X2 Y2 Z2 j = uj)
    (Ka : CalN 104 #[.agg #[.int .u64 ti], .agg #[.int .u64 uj]] a) (Kb : CalN 104 #[.agg #[.int .u64 tj], .agg #[.int .u64 ui]] b) (Kc : CalN 136 #[.agg #[.int .u64 a], .agg #[.int .u64 b]] c) :
    Calls Tryz.prog 178 #[.agg #[.int .u64 X1, .int .u64 Y1, .int .u64 Z1], .agg #[.int .u64 X2, .int .u64 Y2, .int .u64 Z2], .int .i64 (i : Int), .int .i64 (j : Int)] w fun e w' => e = .returned (.agg #[.int .u64 c]) ∧ Below w.heap.size w w' := by
  obtain ⟨X, hX⟩ : ∃ X, X = ((w.alloc (Obj.cells #[.int .u64 X1, .int .u64 Y1, .int .u64 Z1] 189)).alloc (Obj.cells #[.int .u64 X2, .int .u64 Y2, .int .u64 Z2] 189)).alloc (Obj.cells #[.int .u64 0] 179) := ⟨_, rfl⟩
  have tt : T3 X w.heap.size X1 Y1 Z1 := by rw [hX]; exact ((T3.new w X1 Y1 Z1).alloc _).alloc _
  have tu : T3 X (w.heap.size + 1) X2 Y2 Z2 := by rw [hX]; exact ((T3.new _ X2 Y2 Z2).at (by simp)).alloc _
  have tr : R1 X (w.heap.size + 1 + 1) 0 := by rw [hX]; exact (R1.new _ 0).at (by simp)
  have hb : Below w.heap.size w X := by rw [hX]; exact (((Below.refl _ w).alloc (Nat.le_refl _) _).alloc (by simp) _).alloc (by simp; omega) _
  have h1 : X.drew.cell? ⟨w.heap.size, i, none⟩ = some (.int .u64 ti) := eti ▸ tt.drew.nth hi
  have h2 : X.drew.cell? ⟨w.heap.size, j, none⟩ = some (.int .u64 tj) := etj ▸ tt.drew.nth hj
  have h3 : X.drew.cell? ⟨w.heap.size + 1, i, none⟩ = some (.int .u64 ui) := eui ▸ tu.drew.nth hi
  have h4 : X.drew.cell? ⟨w.heap.size + 1, j, none⟩ = some (.int .u64 uj) := euj ▸ tu.drew.nth hj
  rw [hX] at tr hb h1 h2 h3 h4
  clear hX tt tu eti etj eui euj
  go_enter Tryz.func178, Tryz.ntmps178
  go_wp2
  refine pool_tail [.val (.int .i64 (i : Int)),
    .val (.pointer (some ⟨w.heap.size, i, none⟩)),
    .val (.agg #[.int .u64 ti]),
    .val (.int .i64 (j : Int)),
    .val (.pointer (some ⟨w.heap.size + 1, j, none⟩)),
    .val (.agg #[.int .u64 uj]),
    .val (.agg #[.int .u64 a]),
    .val (.int .i64 (j : Int)),
    .val (.pointer (some ⟨w.heap.size, j, none⟩)),
    .val (.agg #[.int .u64 tj]),
    .val (.int .i64 (i : Int)),
    .val (.pointer (some ⟨w.heap.size + 1, i, none⟩)),
    .val (.agg #[.int .u64 ui]),
    .val (.agg #[.int .u64 b]),
    .val (.agg #[.int .u64 c]),
    .val undef] [[2], [4, 9], [10], [3], [5, 12], [13], [11, 14], [3], [4, 16], [17], [2], [5, 19], [20], [18, 21], [15, 22], [8, 23]] (fun f => [(some 9, .int .i64 (i : Int)), (some 10, .pointer (some ⟨w.heap.size, i, none⟩)), (some 11, .agg #[.int .u64 ti]), (some 12, .int .i64 (j : Int)), (some 13, .pointer (some ⟨w.heap.size + 1, j, none⟩)), (some 14, .agg #[.int .u64 uj]), (some 15, .agg #[.int .u64 a]), (some 16, .int .i64 (j : Int)), (some 17, .pointer (some ⟨w.heap.size, j, none⟩)), (some 18, .agg #[.int .u64 tj]), (some 19, .int .i64 (i : Int)), (some 20, .pointer (some ⟨w.heap.size + 1, i, none⟩)), (some 21, .agg #[.int .u64 ui]), (some 22, .agg #[.int .u64 b]), (some 23, .agg #[.int .u64 c])]) (fun f => [(8, .pointer (some ⟨w.heap.size + 1 + 1, 0, none⟩)), (23, .agg #[.int .u64 c])]) (by kernel_rfl) (by kernel_rfl) (by kernel_rfl) (by kernel_rfl) (by kernel_rfl) (fun _ => by kernel_rfl) ?_ rfl (fun _ => by kernel_rfl) ?_
  · intro ix hix
    match ix, hix with
    | 0, _ => exact ob_val [(2, .int .i64 (i : Int))] rfl rfl (fun _ => by kernel_rfl) (fun A w ⟨e0, _⟩ hB => do_move e0)
    | 1, _ => exact ob_val [(4, .pointer (some ⟨w.heap.size, 0, none⟩)), (9, .int .i64 (i : Int))] rfl rfl (fun _ => by kernel_rfl) (fun A w ⟨e0, e1, _⟩ hB => do_idxT hi e0 e1)
    | 2, _ => exact ob_val [(10, .pointer (some ⟨w.heap.size, i, none⟩))] rfl rfl (fun _ => by kernel_rfl) (fun A w ⟨e0, _⟩ hB => do_loadC e0 h1 hB)
    | 3, _ => exact ob_val [(3, .int .i64 (j : Int))] rfl rfl (fun _ => by kernel_rfl) (fun A w ⟨e0, _⟩ hB => do_move e0)
    | 4, _ => exact ob_val [(5, .pointer (some ⟨w.heap.size + 1, 0, none⟩)), (12, .int .i64 (j : Int))] rfl rfl (fun _ => by kernel_rfl) (fun A w ⟨e0, e1, _⟩ hB => do_idxT hj e0 e1)
    | 5, _ => exact ob_val [(13, .pointer (some ⟨w.heap.size + 1, j, none⟩))] rfl rfl (fun _ => by kernel_rfl) (fun A w ⟨e0, _⟩ hB => do_loadC e0 h4 hB)
    | 6, _ => exact ob_val [(11, .agg #[.int .u64 ti]), (14, .agg #[.int .u64 uj])] rfl rfl (fun _ => by kernel_rfl) (fun A w ⟨e0, e1, _⟩ hB => do_call2 cf_times e0 e1 (Ka w))
    | 7, _ => exact ob_val [(3, .int .i64 (j : Int))] rfl rfl (fun _ => by kernel_rfl) (fun A w ⟨e0, _⟩ hB => do_move e0)
    | 8, _ => exact ob_val [(4, .pointer (some ⟨w.heap.size, 0, none⟩)), (16, .int .i64 (j : Int))] rfl rfl (fun _ => by kernel_rfl) (fun A w ⟨e0, e1, _⟩ hB => do_idxT hj e0 e1)
    | 9, _ => exact ob_val [(17, .pointer (some ⟨w.heap.size, j, none⟩))] rfl rfl (fun _ => by kernel_rfl) (fun A w ⟨e0, _⟩ hB => do_loadC e0 h2 hB)
    | 10, _ => exact ob_val [(2, .int .i64 (i : Int))] rfl rfl (fun _ => by kernel_rfl) (fun A w ⟨e0, _⟩ hB => do_move e0)
    | 11, _ => exact ob_val [(5, .pointer (some ⟨w.heap.size + 1, 0, none⟩)), (19, .int .i64 (i : Int))] rfl rfl (fun _ => by kernel_rfl) (fun A w ⟨e0, e1, _⟩ hB => do_idxT hi e0 e1)
    | 12, _ => exact ob_val [(20, .pointer (some ⟨w.heap.size + 1, i, none⟩))] rfl rfl (fun _ => by kernel_rfl) (fun A w ⟨e0, _⟩ hB => do_loadC e0 h3 hB)
    | 13, _ => exact ob_val [(18, .agg #[.int .u64 tj]), (21, .agg #[.int .u64 ui])] rfl rfl (fun _ => by kernel_rfl) (fun A w ⟨e0, e1, _⟩ hB => do_call2 cf_times e0 e1 (Kb w))
    | 14, _ => exact ob_val [(15, .agg #[.int .u64 a]), (22, .agg #[.int .u64 b])] rfl rfl (fun _ => by kernel_rfl) (fun A w ⟨e0, e1, _⟩ hB => do_call2 cf_plus e0 e1 (Kc w))
    | ix + 15, h => exact absurd h (by simp)
  rintro f A w9 ⟨e0, e1, _⟩ hB _
  replace tr := (tr.drew).keep hB
  replace hb := keepB hb.drew hb.size hB
  refine does_skip (exec_store e0 e1 tr) ?_
  simp only [puts, List.foldl, Act.put, List.setIfInBounds_toArray, List.set_cons_zero, List.set_cons_succ]
  go_wp2
  exact bodyPost_ret (v := .agg #[.int .u64 c]) (num_res (fn := Tryz.f178) (p := 8) Tryz.results178 _ rfl (tr.set c)) rfl ⟨rfl, hb.setCell (p := ⟨w.heap.size + 1 + 1, 0, none⟩) (by simp; omega) _⟩
theorem crV (X1 Y1 Z1 X2 Y2 Z2 a b c d : Fp) (i j : Nat) (hi : i < 3) (hj : j < 3) (h1 : nth3 (fv X1) (fv Y1) (fv Z1) i = fv a) (h2 : nth3 (fv X1) (fv Y1) (fv Z1) j = fv b) (h3 : nth3 (fv X2) (fv Y2) (fv Z2) i = fv c) (h4 : nth3 (fv X2) (fv Y2) (fv Z2) j = fv d) :
    CalN 178 #[.agg #[.int .u64 (fv X1), .int .u64 (fv Y1), .int .u64 (fv Z1)], .agg #[.int .u64 (fv X2), .int .u64 (fv Y2), .int .u64 (fv Z2)], .int .i64 (i : Int), .int .i64 (j : Int)] (fv (a * d + b * c)) := fun w =>
  crs_of _ _ _ _ _ _ (fv a) (fv b) (fv c) (fv d) (fv (a * d)) (fv (b * c)) (fv (a * d + b * c)) i j hi hj w h1 h2 h3 h4 (tmV a d) (tmV b c) (plV _ _)
theorem trV (X1 Y1 Z1 X2 Y2 Z2 : Fp) (w : World) :
    Calls Tryz.prog 139 #[.agg #[.int .u64 (fv X1), .int .u64 (fv Y1), .int .u64 (fv Z1)], .agg #[.int .u64 (fv X2), .int .u64 (fv Y2), .int .u64 (fv Z2)]] w
      fun e w' => e = .returned (.agg #[.int .u64 (fv (cX X1 Y1 Z1 X2 Y2 Z2)), .int .u64 (fv (cY X1 Y1 Z1 X2 Y2 Z2)), .int .u64 (fv (cZ X1 Y1 Z1 X2 Y2 Z2))]) ∧ Below w.heap.size w w' := by
  have K := trp_of (fv X1) (fv Y1) (fv Z1) (fv X2) (fv Y2) (fv Z2) _ _ _ _ _ _ _ _ _ _ _ _ _ _ _ _ _ _ _ _ _ _ _ _ _ _ _ _ _ w rd3 rd111 (tmV X1 X2) (tmV Y1 Y2) (tmV Z1 Z2)
    (crV X1 Y1 Z1 X2 Y2 Z2 X1 Y1 X2 Y2 0 1 (by decide) (by decide) rfl rfl rfl rfl)
    (crV X1 Y1 Z1 X2 Y2 Z2 X1 Z1 X2 Z2 0 2 (by decide) (by decide) rfl rfl rfl rfl)
    (crV X1 Y1 Z1 X2 Y2 Z2 Y1 Z1 Y2 Z2 1 2 (by decide) (by decide) rfl rfl rfl rfl)
    (tmV _ _) (mnV _ _) (tmV _ _) (plV _ _) (mnV _ _) (tmV _ _) (mnV _ _) (tmV _ _) (mnV _ _) (tmV _ _) (mnV _ _) (tmV _ _)
    (tmV _ _) (tmV _ _) (mnV _ _) (tmV _ _) (tmV _ _) (plV _ _) (tmV _ _) (tmV _ _) (plV _ _)
  refine K.mono ?_
  rintro e w' ⟨rfl, hb⟩
  refine ⟨?_, hb⟩
  have e1 : (X1 * Y2 + Y1 * X2) * (Y1 * Y2 + (X1 * Z2 + Z1 * X2 - 111 * (Z1 * Z2)) * 3) - (Y1 * Z2 + Z1 * Y2) * ((111 * (X1 * Z2 + Z1 * X2) - X1 * X2 - Z1 * Z2 * 3) * 3) = cX X1 Y1 Z1 X2 Y2 Z2 := by unfold cX; grobner
  have e2 : (X1 * X2 - Z1 * Z2) * 3 * ((111 * (X1 * Z2 + Z1 * X2) - X1 * X2 - Z1 * Z2 * 3) * 3) + (Y1 * Y2 + (X1 * Z2 + Z1 * X2 - 111 * (Z1 * Z2)) * 3) * (Y1 * Y2 - (X1 * Z2 + Z1 * X2 - 111 * (Z1 * Z2)) * 3) = cY X1 Y1 Z1 X2 Y2 Z2 := by unfold cY; grobner
  have e3 : (Y1 * Z2 + Z1 * Y2) * (Y1 * Y2 - (X1 * Z2 + Z1 * X2 - 111 * (Z1 * Z2)) * 3) + (X1 * Y2 + Y1 * X2) * ((X1 * X2 - Z1 * Z2) * 3) = cZ X1 Y1 Z1 X2 Y2 Z2 := by unfold cZ; grobner
  rw [e1, e2, e3]
theorem zpP (w : World) : Calls Tryz.prog 102 #[] w fun e w' => e = .returned (.agg #[.int .u64 0, .int .u64 0, .bool true]) ∧ Below w.heap.size w w' := by
  go_enter Tryz.func102, Tryz.ntmps102
  go_wp2
  refine bodyPost_ret (v := .agg #[.int .u64 0, .int .u64 0, .bool true]) (by simp [results, Tryz.results102, go_sem]) rfl ⟨rfl, ?_⟩
  exact (Below.refl _ w).alloc (Nat.le_refl _) _
section
variable {ev : Operand → Value} {w : World} {dst : Option Tmp} {ty : TypeId} {ps : String} {af : Array Edge} {gd : Option (Nat × Bool)} {x y : Operand} {b i : Nat}
theorem exec_f60 (hx : ev x = .pointer (some ⟨b, 0, none⟩)) :
    (execOp ev { dst := dst, op := .fieldAddr 106 x 0, type := ty, pos := ps, after := af, guard := gd }).run Tryz.prog w = .ok (.value (.pointer (some ⟨b, 0, none⟩))) w := by
  simp [execOp, hx, go_sem]
theorem exec_f25a (hx : ev x = .pointer (some ⟨b, 0, none⟩)) :
    (execOp ev { dst := dst, op := .fieldAddr 28 x 0, type := ty, pos := ps, after := af, guard := gd }).run Tryz.prog w = .ok (.value (.pointer (some ⟨b, 0, none⟩))) w := by
  simp [execOp, hx, go_sem]
theorem exec_f25b (hx : ev x = .pointer (some ⟨b, 0, none⟩)) :
    (execOp ev { dst := dst, op := .fieldAddr 28 x 1, type := ty, pos := ps, after := af, guard := gd }).run Tryz.prog w = .ok (.value (.pointer (some ⟨b, 1, none⟩))) w := by
  simp [execOp, hx, go_sem]
theorem exec_loadU {z : Int} (hx : ev x = .pointer (some ⟨b, i, none⟩)) (hc : w.cell? ⟨b, i, none⟩ = some (.int .u64 z)) :
    (execOp ev { dst := dst, op := .load 22 x, type := ty, pos := ps, after := af, guard := gd }).run Tryz.prog w = .ok (.value (.int .u64 z)) w := by
  simp [execOp, hx, hc, go_sem]
theorem exec_loadK {X Y : Int} {c : Bool} (hx : ev x = .pointer (some ⟨b, 0, none⟩)) (h0 : w.cell? ⟨b, 0, none⟩ = some (.int .u64 X)) (h1 : w.cell? ⟨b, 1, none⟩ = some (.int .u64 Y)) (h2 : w.cell? ⟨b, 2, none⟩ = some (.bool c)) :
    (execOp ev { dst := dst, op := .load 106 x, type := ty, pos := ps, after := af, guard := gd }).run Tryz.prog w = .ok (.value (.agg #[.int .u64 X, .int .u64 Y, .bool c])) w := by
  simp [execOp, hx, h0, h1, h2, go_sem]
theorem exec_storeK {X Y X0 Y0 : Int} {c c0 : Bool} (hx : ev x = .pointer (some ⟨b, 0, none⟩)) (hy : ev y = .agg #[.int .u64 X, .int .u64 Y, .bool c]) (hr : K3 w 106 b X0 Y0 c0) :
    (execOp ev { dst := dst, op := .store 106 x y, type := ty, pos := ps, after := af, guard := gd }).run Tryz.prog w = .ok .skip (set3 w b X Y c) := by
  have h1 := hr.c0
  have h2 := hr.c1
  have h3 := hr.c2
  have h4 := hr.frz
  simp [execOp, hx, hy, h1, h2, h3, h4, go_sem, set3]
theorem exec_fld {z : Int} (hx : ev x = .agg #[.int .u64 z]) :
    (execOp ev { dst := dst, op := .field 179 x 1, type := ty, pos := ps, after := af, guard := gd }).run Tryz.prog w = .ok (.value (.int .u64 z)) w := by
  simp [execOp, hx, fldP, go_sem]
theorem exec_b25 {X Y : Int} (hx : ev x = .int .u64 X) (hy : ev y = .int .u64 Y) :
    (execOp ev { dst := dst, op := .build 28 #[(0, x), (1, y)], type := ty, pos := ps, after := af, guard := gd }).run Tryz.prog w = .ok (.value (.agg #[.int .u64 X, .int .u64 Y, .bool false])) w := by
  simp [execOp, hx, hy, go_sem]
theorem exec_b60 {X Y : Int} {c : Bool} (hx : ev x = .agg #[.int .u64 X, .int .u64 Y, .bool c]) :
    (execOp ev { dst := dst, op := .build 106 #[(0, x)], type := ty, pos := ps, after := af, guard := gd }).run Tryz.prog w = .ok (.value (.agg #[.int .u64 X, .int .u64 Y, .bool c])) w := by
  simp [execOp, hx, go_sem]
theorem cf_triple (args : Array Value) (w : World) : (callFunc 109 args).run Tryz.prog w = .ok (.enter 109 args) w := by kernel_rfl
theorem cf_tplus (args : Array Value) (w : World) : (callFunc 139 args).run Tryz.prog w = .ok (.enter 139 args) w := by kernel_rfl
theorem cf_point (args : Array Value) (w : World) : (callFunc 111 args).run Tryz.prog w = .ok (.enter 111 args) w := by kernel_rfl
end
section
variable {A : Act} {w W0 : World} {dst : Option Tmp} {ty : TypeId} {ps : String} {af : Array Edge} {gd : Option (Nat × Bool)} {x y : Operand} {b i : Nat}
theorem do_f60 (hx : A.eval x = .pointer (some ⟨b, 0, none⟩)) :
    Does Tryz.prog { dst := dst, op := .fieldAddr 106 x 0, type := ty, pos := ps, after := af, guard := gd } A w fun v' w' => v' = .pointer (some ⟨b, 0, none⟩) ∧ Below w.heap.size w w' := by
  have h := exec_f60 (ev := A.eval) (w := w) (dst := dst) (ty := ty) (ps := ps) (af := af) (gd := gd) hx
  exact does_value h ⟨rfl, Below.refl _ _⟩
theorem do_f25a (hx : A.eval x = .pointer (some ⟨b, 0, none⟩)) :
    Does Tryz.prog { dst := dst, op := .fieldAddr 28 x 0, type := ty, pos := ps, after := af, guard := gd } A w fun v' w' => v' = .pointer (some ⟨b, 0, none⟩) ∧ Below w.heap.size w w' := by
  have h := exec_f25a (ev := A.eval) (w := w) (dst := dst) (ty := ty) (ps := ps) (af := af) (gd := gd) hx
  exact does_value h ⟨rfl, Below.refl _ _⟩
theorem do_f25b (hx : A.eval x = .pointer (some ⟨b, 0, none⟩)) :
    Does Tryz.prog { dst := dst, op := .fieldAddr 28 x 1, type := ty, pos := ps, after := af, guard := gd } A w fun v' w' => v' = .pointer (some ⟨b, 1, none⟩) ∧ Below w.heap.size w w' := by
  have h := exec_f25b (ev := A.eval) (w := w) (dst := dst) (ty := ty) (ps := ps) (af := af) (gd := gd) hx
  exact does_value h ⟨rfl, Below.refl _ _⟩
theorem do_loadU {z : Int} (hx : A.eval x = .pointer (some ⟨b, i, none⟩)) (hc : W0.cell? ⟨b, i, none⟩ = some (.int .u64 z)) (hB : Below W0.heap.size W0 w) :
    Does Tryz.prog { dst := dst, op := .load 22 x, type := ty, pos := ps, after := af, guard := gd } A w fun v' w' => v' = .int .u64 z ∧ Below w.heap.size w w' := by
  have h := exec_loadU (ev := A.eval) (w := w) (dst := dst) (ty := ty) (ps := ps) (af := af) (gd := gd) hx (keepC hc hB)
  exact does_value h ⟨rfl, Below.refl _ _⟩
theorem do_loadK {X Y : Int} {c : Bool} (hx : A.eval x = .pointer (some ⟨b, 0, none⟩)) (hr : K3 W0 106 b X Y c) (hB : Below W0.heap.size W0 w) :
    Does Tryz.prog { dst := dst, op := .load 106 x, type := ty, pos := ps, after := af, guard := gd } A w fun v' w' => v' = .agg #[.int .u64 X, .int .u64 Y, .bool c] ∧ Below w.heap.size w w' := by
  have h := exec_loadK (ev := A.eval) (w := w) (dst := dst) (ty := ty) (ps := ps) (af := af) (gd := gd) hx (hr.keep hB).c0 (hr.keep hB).c1 (hr.keep hB).c2
  exact does_value h ⟨rfl, Below.refl _ _⟩
theorem do_fld {z : Int} (hx : A.eval x = .agg #[.int .u64 z]) :
    Does Tryz.prog { dst := dst, op := .field 179 x 1, type := ty, pos := ps, after := af, guard := gd } A w fun v' w' => v' = .int .u64 z ∧ Below w.heap.size w w' := by
  have h := exec_fld (ev := A.eval) (w := w) (dst := dst) (ty := ty) (ps := ps) (af := af) (gd := gd) hx
  exact does_value h ⟨rfl, Below.refl _ _⟩
theorem do_b25 {X Y : Int} (hx : A.eval x = .int .u64 X) (hy : A.eval y = .int .u64 Y) :
    Does Tryz.prog { dst := dst, op := .build 28 #[(0, x), (1, y)], type := ty, pos := ps, after := af, guard := gd } A w fun v' w' => v' = .agg #[.int .u64 X, .int .u64 Y, .bool false] ∧ Below w.heap.size w w' := by
  have h := exec_b25 (ev := A.eval) (w := w) (dst := dst) (ty := ty) (ps := ps) (af := af) (gd := gd) hx hy
  exact does_value h ⟨rfl, Below.refl _ _⟩
theorem do_b60 {X Y : Int} {c : Bool} (hx : A.eval x = .agg #[.int .u64 X, .int .u64 Y, .bool c]) :
    Does Tryz.prog { dst := dst, op := .build 106 #[(0, x)], type := ty, pos := ps, after := af, guard := gd } A w fun v' w' => v' = .agg #[.int .u64 X, .int .u64 Y, .bool c] ∧ Below w.heap.size w w' := by
  have h := exec_b60 (ev := A.eval) (w := w) (dst := dst) (ty := ty) (ps := ps) (af := af) (gd := gd) hx
  exact does_value h ⟨rfl, Below.refl _ _⟩
end
theorem triP_some (x y : Fp) (w : World) :
    Calls Tryz.prog 109 #[.agg #[.int .u64 (fv x), .int .u64 (fv y), .bool false]] w fun e w' => e = .returned (.agg #[.int .u64 (fv x), .int .u64 (fv y), .int .u64 (fv 1)]) ∧ Below w.heap.size w w' := by
  obtain ⟨X, hX⟩ : ∃ X, X = ((w.alloc (Obj.cells #[.int .u64 (fv x), .int .u64 (fv y), .bool false] 106)).alloc (Obj.cells #[.int .u64 0, .int .u64 0, .int .u64 0] 189)).alloc (Obj.cells #[] 177) := ⟨_, rfl⟩
  have hp : K3 X 106 w.heap.size (fv x) (fv y) false := by rw [hX]; exact ((K3.new w _ _ _ _).alloc _).alloc _
  have hr : T3 X (w.heap.size + 1) 0 0 0 := by rw [hX]; exact ((T3.new _ 0 0 0).at (by simp)).alloc _
  have hb : Below w.heap.size w X := by rw [hX]; exact (((Below.refl _ w).alloc (Nat.le_refl _) _).alloc (by simp) _).alloc (by simp; omega) _
  rw [hX] at hp hr hb
  clear hX
  have c0 := hp.drew.c0
  have c1 := hp.drew.c1
  have c2 := hp.drew.c2
  go_enter Tryz.func109, Tryz.ntmps109
  go_wp2
  go_region_held3 (fun w' => w'.cell? ⟨w.heap.size, 0, none⟩ = some (.int .u64 (fv x)) ∧ w'.cell? ⟨w.heap.size, 1, none⟩ = some (.int .u64 (fv y)) ∧ w'.cell? ⟨w.heap.size, 2, none⟩ = some (.bool false)) (first | exact ⟨c0, c1, c2⟩ | exact ⟨keepC c0 b1, keepC c1 b1, keepC c2 b1⟩ | go_keep) ((go_at_call 102; refine (zpP _).mono ?_; rintro e w1 ⟨rfl, b1⟩))
  replace hp := (hp.drew).keep b1
  replace hr := (hr.drew).keep b1
  replace hb := keepB hb.drew hb.size b1
  clear b1 c0 c1 c2
  go_wp2
  refine pool_tail [.val (.pointer (some ⟨w.heap.size, 0, none⟩)),
    .val (.pointer (some ⟨w.heap.size, 0, none⟩)),
    .val (.int .u64 (fv x)),
    .val (.agg #[]),
    .val (.agg #[.int .u64 (fv x)]),
    .val (.pointer (some ⟨w.heap.size, 0, none⟩)),
    .val (.pointer (some ⟨w.heap.size, 1, none⟩)),
    .val (.int .u64 (fv y)),
    .val (.agg #[]),
    .val (.agg #[.int .u64 (fv y)]),
    .val (.agg #[]),
    .val (.agg #[.int .u64 (fv 1)]),
    .val (.agg #[.int .u64 (fv x), .int .u64 (fv y), .int .u64 (fv 1)]),
    .val undef] [[1], [15], [16], [3], [17, 18], [1], [20], [21], [3], [22, 23], [3], [25], [19, 24, 26], [2, 27]] (fun f => [(some 15, .pointer (some ⟨w.heap.size, 0, none⟩)), (some 16, .pointer (some ⟨w.heap.size, 0, none⟩)), (some 17, .int .u64 (fv x)), (some 18, .agg #[]), (some 19, .agg #[.int .u64 (fv x)]), (some 20, .pointer (some ⟨w.heap.size, 0, none⟩)), (some 21, .pointer (some ⟨w.heap.size, 1, none⟩)), (some 22, .int .u64 (fv y)), (some 23, .agg #[]), (some 24, .agg #[.int .u64 (fv y)]), (some 25, .agg #[]), (some 26, .agg #[.int .u64 (fv 1)]), (some 27, .agg #[.int .u64 (fv x), .int .u64 (fv y), .int .u64 (fv 1)])]) (fun f => [(2, .pointer (some ⟨w.heap.size + 1, 0, none⟩)), (27, .agg #[.int .u64 (fv x), .int .u64 (fv y), .int .u64 (fv 1)])]) (by kernel_rfl) (by kernel_rfl) (by kernel_rfl) (by kernel_rfl) (by kernel_rfl) (fun _ => by kernel_rfl) ?_ rfl (fun _ => by kernel_rfl) ?_
  · intro ix hix
    match ix, hix with
    | 0, _ => exact ob_val [(1, .pointer (some ⟨w.heap.size, 0, none⟩))] rfl rfl (fun _ => by kernel_rfl) (fun A w ⟨e0, _⟩ hB => do_f60 e0)
    | 1, _ => exact ob_val [(15, .pointer (some ⟨w.heap.size, 0, none⟩))] rfl rfl (fun _ => by kernel_rfl) (fun A w ⟨e0, _⟩ hB => do_f25a e0)
    | 2, _ => exact ob_val [(16, .pointer (some ⟨w.heap.size, 0, none⟩))] rfl rfl (fun _ => by kernel_rfl) (fun A w ⟨e0, _⟩ hB => do_loadU e0 (hp.drew).c0 hB)
    | 3, _ => exact ob_val [(3, .pointer (some ⟨w.heap.size + 1 + 1, 0, none⟩))] rfl rfl (fun _ => by kernel_rfl) (fun A w ⟨e0, _⟩ hB => do_load0 e0)
    | 4, _ => exact ob_val [(17, .int .u64 (fv x)), (18, .agg #[])] rfl rfl (fun _ => by kernel_rfl) (fun A w ⟨e0, e1, _⟩ hB => do_call2 cf_reduced e0 e1 (rdV x w))
    | 5, _ => exact ob_val [(1, .pointer (some ⟨w.heap.size, 0, none⟩))] rfl rfl (fun _ => by kernel_rfl) (fun A w ⟨e0, _⟩ hB => do_f60 e0)
    | 6, _ => exact ob_val [(20, .pointer (some ⟨w.heap.size, 0, none⟩))] rfl rfl (fun _ => by kernel_rfl) (fun A w ⟨e0, _⟩ hB => do_f25b e0)
    | 7, _ => exact ob_val [(21, .pointer (some ⟨w.heap.size, 1, none⟩))] rfl rfl (fun _ => by kernel_rfl) (fun A w ⟨e0, _⟩ hB => do_loadU e0 (hp.drew).c1 hB)
    | 8, _ => exact ob_val [(3, .pointer (some ⟨w.heap.size + 1 + 1, 0, none⟩))] rfl rfl (fun _ => by kernel_rfl) (fun A w ⟨e0, _⟩ hB => do_load0 e0)
    | 9, _ => exact ob_val [(22, .int .u64 (fv y)), (23, .agg #[])] rfl rfl (fun _ => by kernel_rfl) (fun A w ⟨e0, e1, _⟩ hB => do_call2 cf_reduced e0 e1 (rdV y w))
    | 10, _ => exact ob_val [(3, .pointer (some ⟨w.heap.size + 1 + 1, 0, none⟩))] rfl rfl (fun _ => by kernel_rfl) (fun A w ⟨e0, _⟩ hB => do_load0 e0)
    | 11, _ => exact ob_val [(25, .agg #[])] rfl rfl (fun _ => by kernel_rfl) (fun A w ⟨e0, _⟩ hB => do_call2 cf_reduced rfl e0 (rd1 w))
    | 12, _ => exact ob_val [(19, .agg #[.int .u64 (fv x)]), (24, .agg #[.int .u64 (fv y)]), (26, .agg #[.int .u64 (fv 1)])] rfl rfl (fun _ => by kernel_rfl) (fun A w ⟨e0, e1, e2, _⟩ hB => do_build e0 e1 e2)
    | ix + 13, h => exact absurd h (by simp)
  rintro f A w9 ⟨e0, e1, _⟩ hB _
  replace hr := (hr.drew).keep hB
  replace hb := keepB hb.drew hb.size hB
  refine does_skip (exec_storeT e0 e1 hr) ?_
  simp only [puts, List.foldl, Act.put, List.setIfInBounds_toArray, List.set_cons_zero, List.set_cons_succ]
  go_wp2
  exact bodyPost_ret (v := .agg #[.int .u64 (fv x), .int .u64 (fv y), .int .u64 (fv 1)]) (trip_res (fn := Tryz.f109) (p := 2) Tryz.results109 _ rfl (hr.set _ _ _)) rfl ⟨rfl, setT_below hb (by omega)⟩
theorem triP_none (w : World) :
    Calls Tryz.prog 109 #[.agg #[.int .u64 0, .int .u64 0, .bool true]] w fun e w' => e = .returned (.agg #[.int .u64 (fv 0), .int .u64 (fv 1), .int .u64 (fv 0)]) ∧ Below w.heap.size w w' := by
  obtain ⟨X, hX⟩ : ∃ X, X = ((w.alloc (Obj.cells #[.int .u64 0, .int .u64 0, .bool true] 106)).alloc (Obj.cells #[.int .u64 0, .int .u64 0, .int .u64 0] 189)).alloc (Obj.cells #[] 177) := ⟨_, rfl⟩
  have hp : K3 X 106 w.heap.size 0 0 true := by rw [hX]; exact ((K3.new w _ _ _ _).alloc _).alloc _
  have hr : T3 X (w.heap.size + 1) 0 0 0 := by rw [hX]; exact ((T3.new _ 0 0 0).at (by simp)).alloc _
  have hb : Below w.heap.size w X := by rw [hX]; exact (((Below.refl _ w).alloc (Nat.le_refl _) _).alloc (by simp) _).alloc (by simp; omega) _
  rw [hX] at hp hr hb
  clear hX
  have c0 := hp.drew.c0
  have c1 := hp.drew.c1
  have c2 := hp.drew.c2
  go_enter Tryz.func109, Tryz.ntmps109
  go_wp2
  go_region_held3 (fun w' => w'.cell? ⟨w.heap.size, 0, none⟩ = some (.int .u64 0) ∧ w'.cell? ⟨w.heap.size, 1, none⟩ = some (.int .u64 0) ∧ w'.cell? ⟨w.heap.size, 2, none⟩ = some (.bool true)) (first | exact ⟨c0, c1, c2⟩ | exact ⟨keepC c0 b1, keepC c1 b1, keepC c2 b1⟩ | go_keep) ((go_at_call 102; refine (zpP _).mono ?_; rintro e w1 ⟨rfl, b1⟩))
  replace hp := (hp.drew).keep b1
  replace hr := (hr.drew).keep b1
  replace hb := keepB hb.drew hb.size b1
  clear b1 c0 c1 c2
  go_wp2
  refine pool_tail [.val (.agg #[]),
    .val (.agg #[.int .u64 (fv 0)]),
    .val (.agg #[]),
    .val (.agg #[.int .u64 (fv 1)]),
    .val (.agg #[]),
    .val (.agg #[.int .u64 (fv 0)]),
    .val (.agg #[.int .u64 (fv 0), .int .u64 (fv 1), .int .u64 (fv 0)]),
    .val undef] [[3], [8], [3], [10], [3], [12], [9, 11, 13], [2, 14]] (fun f => [(some 8, .agg #[]), (some 9, .agg #[.int .u64 (fv 0)]), (some 10, .agg #[]), (some 11, .agg #[.int .u64 (fv 1)]), (some 12, .agg #[]), (some 13, .agg #[.int .u64 (fv 0)]), (some 14, .agg #[.int .u64 (fv 0), .int .u64 (fv 1), .int .u64 (fv 0)])]) (fun f => [(2, .pointer (some ⟨w.heap.size + 1, 0, none⟩)), (14, .agg #[.int .u64 (fv 0), .int .u64 (fv 1), .int .u64 (fv 0)])]) (by kernel_rfl) (by kernel_rfl) (by kernel_rfl) (by kernel_rfl) (by kernel_rfl) (fun _ => by kernel_rfl) ?_ rfl (fun _ => by kernel_rfl) ?_
  · intro ix hix
    match ix, hix with
    | 0, _ => exact ob_val [(3, .pointer (some ⟨w.heap.size + 1 + 1, 0, none⟩))] rfl rfl (fun _ => by kernel_rfl) (fun A w ⟨e0, _⟩ hB => do_load0 e0)
    | 1, _ => exact ob_val [(8, .agg #[])] rfl rfl (fun _ => by kernel_rfl) (fun A w ⟨e0, _⟩ hB => do_call2 cf_reduced rfl e0 (rd0 w))
    | 2, _ => exact ob_val [(3, .pointer (some ⟨w.heap.size + 1 + 1, 0, none⟩))] rfl rfl (fun _ => by kernel_rfl) (fun A w ⟨e0, _⟩ hB => do_load0 e0)
    | 3, _ => exact ob_val [(10, .agg #[])] rfl rfl (fun _ => by kernel_rfl) (fun A w ⟨e0, _⟩ hB => do_call2 cf_reduced rfl e0 (rd1 w))
    | 4, _ => exact ob_val [(3, .pointer (some ⟨w.heap.size + 1 + 1, 0, none⟩))] rfl rfl (fun _ => by kernel_rfl) (fun A w ⟨e0, _⟩ hB => do_load0 e0)
    | 5, _ => exact ob_val [(12, .agg #[])] rfl rfl (fun _ => by kernel_rfl) (fun A w ⟨e0, _⟩ hB => do_call2 cf_reduced rfl e0 (rd0 w))
    | 6, _ => exact ob_val [(9, .agg #[.int .u64 (fv 0)]), (11, .agg #[.int .u64 (fv 1)]), (13, .agg #[.int .u64 (fv 0)])] rfl rfl (fun _ => by kernel_rfl) (fun A w ⟨e0, e1, e2, _⟩ hB => do_build e0 e1 e2)
    | ix + 7, h => exact absurd h (by simp)
  rintro f A w9 ⟨e0, e1, _⟩ hB _
  replace hr := (hr.drew).keep hB
  replace hb := keepB hb.drew hb.size hB
  refine does_skip (exec_storeT e0 e1 hr) ?_
  simp only [puts, List.foldl, Act.put, List.setIfInBounds_toArray, List.set_cons_zero, List.set_cons_succ]
  go_wp2
  exact bodyPost_ret (v := .agg #[.int .u64 (fv 0), .int .u64 (fv 1), .int .u64 (fv 0)]) (trip_res (fn := Tryz.f109) (p := 2) Tryz.results109 _ rfl (hr.set _ _ _)) rfl ⟨rfl, setT_below hb (by omega)⟩
theorem triV : ∀ (p : Pt) (w : World), Calls Tryz.prog 109 #[ptW p] w fun e w' => e = .returned (.agg #[.int .u64 (fv (pX p)), .int .u64 (fv (pY p)), .int .u64 (fv (pZ p))]) ∧ Below w.heap.size w w'
  | none, w => triP_none w
  | some (x, y), w => triP_some x y w
theorem pntP_no (X Y Z : Fp) (w : World) (hz : (fv Z == 0) = true) :
    Calls Tryz.prog 111 #[.agg #[.int .u64 (fv X), .int .u64 (fv Y), .int .u64 (fv Z)]] w fun e w' => e = .returned (.agg #[.int .u64 0, .int .u64 0, .bool true]) ∧ Below w.heap.size w w' := by
  obtain ⟨X0, hX⟩ : ∃ X0, X0 = ((w.alloc (Obj.cells #[.int .u64 (fv X), .int .u64 (fv Y), .int .u64 (fv Z)] 189)).alloc (Obj.cells #[.int .u64 0, .int .u64 0, .bool false] 106)).alloc (Obj.cells #[.int .u64 (fv Z)] 179) := ⟨_, rfl⟩
  have ht : T3 X0 w.heap.size (fv X) (fv Y) (fv Z) := by rw [hX]; exact ((T3.new w _ _ _).alloc _).alloc _
  have hr : K3 X0 106 (w.heap.size + 1) 0 0 false := by rw [hX]; exact ((K3.new _ _ 0 0 false).at (by simp)).alloc _
  have hb : Below w.heap.size w X0 := by rw [hX]; exact (((Below.refl _ w).alloc (Nat.le_refl _) _).alloc (by simp) _).alloc (by simp; omega) _
  rw [hX] at ht hr hb
  clear hX
  go_enter Tryz.func111, Tryz.ntmps111
  go_wp2_with fail
  refine (zpP _).mono ?_
  rintro e w2 ⟨rfl, b2⟩
  replace hr := hr.keep b2
  replace hb := keepB hb hb.size b2
  have c0 := hr.c0
  have c1 := hr.c1
  have c2 := hr.c2
  have f0 := hr.frz 0
  have f1 := hr.frz 1
  have f2 := hr.frz 2
  clear b2
  go_wp2
  exact bodyPost_ret (v := .agg #[.int .u64 0, .int .u64 0, .bool true]) (cp_res (fn := Tryz.f111) (p := 2) Tryz.results111 _ rfl (hr.set 0 0 true)) rfl ⟨rfl, set3_below hb (by omega)⟩
theorem pntP_yes (X Y Z : Fp) (w : World) (hz : (fv Z == 0) = false) :
    Calls Tryz.prog 111 #[.agg #[.int .u64 (fv X), .int .u64 (fv Y), .int .u64 (fv Z)]] w fun e w' => e = .returned (.agg #[.int .u64 (fv (X * fi Z)), .int .u64 (fv (Y * fi Z)), .bool false]) ∧ Below w.heap.size w w' := by
  obtain ⟨X0, hX⟩ : ∃ X0, X0 = ((w.alloc (Obj.cells #[.int .u64 (fv X), .int .u64 (fv Y), .int .u64 (fv Z)] 189)).alloc (Obj.cells #[.int .u64 0, .int .u64 0, .bool false] 106)).alloc (Obj.cells #[.int .u64 (fv Z)] 179) := ⟨_, rfl⟩
  have ht : T3 X0 w.heap.size (fv X) (fv Y) (fv Z) := by rw [hX]; exact ((T3.new w _ _ _).alloc _).alloc _
  have hr : K3 X0 106 (w.heap.size + 1) 0 0 false := by rw [hX]; exact ((K3.new _ _ 0 0 false).at (by simp)).alloc _
  have hb : Below w.heap.size w X0 := by rw [hX]; exact (((Below.refl _ w).alloc (Nat.le_refl _) _).alloc (by simp) _).alloc (by simp; omega) _
  rw [hX] at ht hr hb
  clear hX
  go_enter Tryz.func111, Tryz.ntmps111
  go_wp2_with fail
  refine (ivV Z _).mono ?_
  rintro e w2 ⟨rfl, b2⟩
  replace ht := (ht.keep b2).alloc (Obj.cells #[.int .u64 (fv (fi Z))] 179)
  replace hr := (hr.keep b2).alloc (Obj.cells #[.int .u64 (fv (fi Z))] 179)
  replace hb := keepB hb hb.size b2
  have hi := R1.new w2 (fv (fi Z))
  replace hb := hb.alloc hb.size (Obj.cells #[.int .u64 (fv (fi Z))] 179)
  clear b2
  go_wp2
  refine pool_tail [.val (.pointer (some ⟨w.heap.size, 0, none⟩)),
    .val (.agg #[.int .u64 (fv X)]),
    .val (.agg #[.int .u64 (fv (fi Z))]),
    .val (.agg #[.int .u64 (fv (X * fi Z))]),
    .val (.int .u64 (fv (X * fi Z))),
    .val (.pointer (some ⟨w.heap.size, 1, none⟩)),
    .val (.agg #[.int .u64 (fv Y)]),
    .val (.agg #[.int .u64 (fv (fi Z))]),
    .val (.agg #[.int .u64 (fv (Y * fi Z))]),
    .val (.int .u64 (fv (Y * fi Z))),
    .val (.agg #[.int .u64 (fv (X * fi Z)), .int .u64 (fv (Y * fi Z)), .bool false]),
    .val (.agg #[.int .u64 (fv (X * fi Z)), .int .u64 (fv (Y * fi Z)), .bool false]),
    .val undef] [[1], [13], [4], [14, 15], [16], [1], [18], [4], [19, 20], [21], [17, 22], [23], [2, 24]] (fun f => [(some 13, .pointer (some ⟨w.heap.size, 0, none⟩)), (some 14, .agg #[.int .u64 (fv X)]), (some 15, .agg #[.int .u64 (fv (fi Z))]), (some 16, .agg #[.int .u64 (fv (X * fi Z))]), (some 17, .int .u64 (fv (X * fi Z))), (some 18, .pointer (some ⟨w.heap.size, 1, none⟩)), (some 19, .agg #[.int .u64 (fv Y)]), (some 20, .agg #[.int .u64 (fv (fi Z))]), (some 21, .agg #[.int .u64 (fv (Y * fi Z))]), (some 22, .int .u64 (fv (Y * fi Z))), (some 23, .agg #[.int .u64 (fv (X * fi Z)), .int .u64 (fv (Y * fi Z)), .bool false]), (some 24, .agg #[.int .u64 (fv (X * fi Z)), .int .u64 (fv (Y * fi Z)), .bool false])]) (fun f => [(2, .pointer (some ⟨w.heap.size + 1, 0, none⟩)), (24, .agg #[.int .u64 (fv (X * fi Z)), .int .u64 (fv (Y * fi Z)), .bool false])]) (by kernel_rfl) (by kernel_rfl) (by kernel_rfl) (by kernel_rfl) (by kernel_rfl) (fun _ => by kernel_rfl) ?_ rfl (fun _ => by kernel_rfl) ?_
  · intro ix hix
    match ix, hix with
    | 0, _ => exact ob_val [(1, .pointer (some ⟨w.heap.size, 0, none⟩))] rfl rfl (fun _ => by kernel_rfl) (fun A w ⟨e0, _⟩ hB => do_idx (k := 0) (by decide) e0)
    | 1, _ => exact ob_val [(13, .pointer (some ⟨w.heap.size, 0, none⟩))] rfl rfl (fun _ => by kernel_rfl) (fun A w ⟨e0, _⟩ hB => do_loadC e0 (ht.drew).c0 hB)
    | 2, _ => exact ob_val [(4, .pointer (some ⟨w2.heap.size, 0, none⟩))] rfl rfl (fun _ => by kernel_rfl) (fun A w ⟨e0, _⟩ hB => do_loadN e0 hi.drew hB)
    | 3, _ => exact ob_val [(14, .agg #[.int .u64 (fv X)]), (15, .agg #[.int .u64 (fv (fi Z))])] rfl rfl (fun _ => by kernel_rfl) (fun A w ⟨e0, e1, _⟩ hB => do_call2 cf_times e0 e1 (tmV X (fi Z) w))
    | 4, _ => exact ob_val [(16, .agg #[.int .u64 (fv (X * fi Z))])] rfl rfl (fun _ => by kernel_rfl) (fun A w ⟨e0, _⟩ hB => do_fld e0)
    | 5, _ => exact ob_val [(1, .pointer (some ⟨w.heap.size, 0, none⟩))] rfl rfl (fun _ => by kernel_rfl) (fun A w ⟨e0, _⟩ hB => do_idx (k := 1) (by decide) e0)
    | 6, _ => exact ob_val [(18, .pointer (some ⟨w.heap.size, 1, none⟩))] rfl rfl (fun _ => by kernel_rfl) (fun A w ⟨e0, _⟩ hB => do_loadC e0 (ht.drew).c1 hB)
    | 7, _ => exact ob_val [(4, .pointer (some ⟨w2.heap.size, 0, none⟩))] rfl rfl (fun _ => by kernel_rfl) (fun A w ⟨e0, _⟩ hB => do_loadN e0 hi.drew hB)
    | 8, _ => exact ob_val [(19, .agg #[.int .u64 (fv Y)]), (20, .agg #[.int .u64 (fv (fi Z))])] rfl rfl (fun _ => by kernel_rfl) (fun A w ⟨e0, e1, _⟩ hB => do_call2 cf_times e0 e1 (tmV Y (fi Z) w))
    | 9, _ => exact ob_val [(21, .agg #[.int .u64 (fv (Y * fi Z))])] rfl rfl (fun _ => by kernel_rfl) (fun A w ⟨e0, _⟩ hB => do_fld e0)
    | 10, _ => exact ob_val [(17, .int .u64 (fv (X * fi Z))), (22, .int .u64 (fv (Y * fi Z)))] rfl rfl (fun _ => by kernel_rfl) (fun A w ⟨e0, e1, _⟩ hB => do_b25 e0 e1)
    | 11, _ => exact ob_val [(23, .agg #[.int .u64 (fv (X * fi Z)), .int .u64 (fv (Y * fi Z)), .bool false])] rfl rfl (fun _ => by kernel_rfl) (fun A w ⟨e0, _⟩ hB => do_b60 e0)
    | ix + 12, h => exact absurd h (by simp)
  rintro f A w9 ⟨e0, e1, _⟩ hB _
  replace hr := (hr.drew).keep hB
  replace hb := keepB hb.drew hb.size hB
  refine does_skip (exec_storeK e0 e1 hr) ?_
  simp only [puts, List.foldl, Act.put, List.setIfInBounds_toArray, List.set_cons_zero, List.set_cons_succ]
  go_wp2
  exact bodyPost_ret (v := .agg #[.int .u64 (fv (X * fi Z)), .int .u64 (fv (Y * fi Z)), .bool false]) (cp_res (fn := Tryz.f111) (p := 2) Tryz.results111 _ rfl (hr.set _ _ _)) rfl ⟨rfl, set3_below hb (by omega)⟩
theorem cplus_of (x y u v a b s a2 b2 s2 a3 b3 s3 x4 y4 : Int) (c d c4 : Bool) (w : World)
    (K1 : ∀ w, Calls Tryz.prog 109 #[.agg #[.int .u64 x, .int .u64 y, .bool c]] w fun e w' => e = .returned (.agg #[.int .u64 a, .int .u64 b, .int .u64 s]) ∧ Below w.heap.size w w')
    (K2 : ∀ w, Calls Tryz.prog 109 #[.agg #[.int .u64 u, .int .u64 v, .bool d]] w fun e w' => e = .returned (.agg #[.int .u64 a2, .int .u64 b2, .int .u64 s2]) ∧ Below w.heap.size w w')
    (K3_ : ∀ w, Calls Tryz.prog 139 #[.agg #[.int .u64 a, .int .u64 b, .int .u64 s], .agg #[.int .u64 a2, .int .u64 b2, .int .u64 s2]] w fun e w' => e = .returned (.agg #[.int .u64 a3, .int .u64 b3, .int .u64 s3]) ∧ Below w.heap.size w w')
    (K4 : ∀ w, Calls Tryz.prog 111 #[.agg #[.int .u64 a3, .int .u64 b3, .int .u64 s3]] w fun e w' => e = .returned (.agg #[.int .u64 x4, .int .u64 y4, .bool c4]) ∧ Below w.heap.size w w') :
    Calls Tryz.prog 107 #[.agg #[.int .u64 x, .int .u64 y, .bool c], .agg #[.int .u64 u, .int .u64 v, .bool d]] w fun e w' => e = .returned (.agg #[.int .u64 x4, .int .u64 y4, .bool c4]) ∧ Below w.heap.size w w' := by
  obtain ⟨X, hX⟩ : ∃ X, X = ((w.alloc (Obj.cells #[.int .u64 x, .int .u64 y, .bool c] 106)).alloc (Obj.cells #[.int .u64 u, .int .u64 v, .bool d] 106)).alloc (Obj.cells #[.int .u64 0, .int .u64 0, .bool false] 106) := ⟨_, rfl⟩
  have hp : K3 X 106 w.heap.size x y c := by rw [hX]; exact ((K3.new w _ _ _ _).alloc _).alloc _
  have hq : K3 X 106 (w.heap.size + 1) u v d := by rw [hX]; exact ((K3.new _ _ u v d).at (by simp)).alloc _
  have hr : K3 X 106 (w.heap.size + 1 + 1) 0 0 false := by rw [hX]; exact (K3.new _ _ 0 0 false).at (by simp)
  have hb : Below w.heap.size w X := by rw [hX]; exact (((Below.refl _ w).alloc (Nat.le_refl _) _).alloc (by simp) _).alloc (by simp; omega) _
  rw [hX] at hp hq hr hb
  clear hX
  go_enter Tryz.func107, Tryz.ntmps107
  go_wp2
  refine pool_tail [.val (.agg #[.int .u64 x, .int .u64 y, .bool c]),
    .val (.agg #[.int .u64 a, .int .u64 b, .int .u64 s]),
    .val (.agg #[.int .u64 u, .int .u64 v, .bool d]),
    .val (.agg #[.int .u64 a2, .int .u64 b2, .int .u64 s2]),
    .val (.agg #[.int .u64 a3, .int .u64 b3, .int .u64 s3]),
    .val (.agg #[.int .u64 x4, .int .u64 y4, .bool c4]),
    .val undef] [[2], [5], [3], [7], [6, 8], [9], [4, 10]] (fun f => [(some 5, .agg #[.int .u64 x, .int .u64 y, .bool c]), (some 6, .agg #[.int .u64 a, .int .u64 b, .int .u64 s]), (some 7, .agg #[.int .u64 u, .int .u64 v, .bool d]), (some 8, .agg #[.int .u64 a2, .int .u64 b2, .int .u64 s2]), (some 9, .agg #[.int .u64 a3, .int .u64 b3, .int .u64 s3]), (some 10, .agg #[.int .u64 x4, .int .u64 y4, .bool c4])]) (fun f => [(4, .pointer (some ⟨w.heap.size + 1 + 1, 0, none⟩)), (10, .agg #[.int .u64 x4, .int .u64 y4, .bool c4])]) (by kernel_rfl) (by kernel_rfl) (by kernel_rfl) (by kernel_rfl) (by kernel_rfl) (fun _ => by kernel_rfl) ?_ rfl (fun _ => by kernel_rfl) ?_
  · intro ix hix
    match ix, hix with
    | 0, _ => exact ob_val [(2, .pointer (some ⟨w.heap.size, 0, none⟩))] rfl rfl (fun _ => by kernel_rfl) (fun A w ⟨e0, _⟩ hB => do_loadK e0 hp.drew hB)
    | 1, _ => exact ob_val [(5, .agg #[.int .u64 x, .int .u64 y, .bool c])] rfl rfl (fun _ => by kernel_rfl) (fun A w ⟨e0, _⟩ hB => do_call1 cf_triple e0 (K1 w))
    | 2, _ => exact ob_val [(3, .pointer (some ⟨w.heap.size + 1, 0, none⟩))] rfl rfl (fun _ => by kernel_rfl) (fun A w ⟨e0, _⟩ hB => do_loadK e0 hq.drew hB)
    | 3, _ => exact ob_val [(7, .agg #[.int .u64 u, .int .u64 v, .bool d])] rfl rfl (fun _ => by kernel_rfl) (fun A w ⟨e0, _⟩ hB => do_call1 cf_triple e0 (K2 w))
    | 4, _ => exact ob_val [(6, .agg #[.int .u64 a, .int .u64 b, .int .u64 s]), (8, .agg #[.int .u64 a2, .int .u64 b2, .int .u64 s2])] rfl rfl (fun _ => by kernel_rfl) (fun A w ⟨e0, e1, _⟩ hB => do_call2 cf_tplus e0 e1 (K3_ w))
    | 5, _ => exact ob_val [(9, .agg #[.int .u64 a3, .int .u64 b3, .int .u64 s3])] rfl rfl (fun _ => by kernel_rfl) (fun A w ⟨e0, _⟩ hB => do_call1 cf_point e0 (K4 w))
    | ix + 6, h => exact absurd h (by simp)
  rintro f A w9 ⟨e0, e1, _⟩ hB _
  replace hr := (hr.drew).keep hB
  replace hb := keepB hb.drew hb.size hB
  refine does_skip (exec_storeK e0 e1 hr) ?_
  simp only [puts, List.foldl, Act.put, List.setIfInBounds_toArray, List.set_cons_zero, List.set_cons_succ]
  go_wp2
  exact bodyPost_ret (v := .agg #[.int .u64 x4, .int .u64 y4, .bool c4]) (cp_res (fn := Tryz.f107) (p := 4) Tryz.results107 _ rfl (hr.set _ _ _)) rfl ⟨rfl, set3_below hb (by omega)⟩
end Go.Proofs.YtjmhmajfkdglnaaGreatDoor
