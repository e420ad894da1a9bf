import Derived.Test.YtjmhmajfkdglnaaGreatDoorMrg19
import Derived.Test.YtjmhmajfkdglnaaGreatDoorMrg15
import Derived.Test.YtjmhmajfkdglnaaGreatDoorMrg7
import Derived.Test.YtjmhmajfkdglnaaGreatDoorMrg14
import Derived.Deep.RegionHeld3
set_option linter.unusedVariables false
set_option maxRecDepth 100000
set_option maxHeartbeats 16000000
namespace Go.Proofs.YtjmhmajfkdglnaaGreatDoor
open Go.RowKit M
theorem redP_of (n c : Int) (w : World) (h0 : 0 ≤ n) (hc : n.tmod 2305843009213693951 = c) :
    Calls Tryz.prog 135 #[.int .u64 n, .agg #[]] w fun e w' => e = .returned (.agg #[.int .u64 c]) ∧ Below w.heap.size w w' := by
  have hm := methP
  have hf := foldP
  have V := valP
  go_enter Tryz.func135, Tryz.ntmps135
  go_wp2
  go_region_held3 (fun _ => True) (trivial) ((go_simp; go_at_call 244; refine (V _).mono ?_; rintro e w' ⟨rfl, rfl⟩))
  go_wp2
  refine bodyPost_ret (v := .agg #[.int .u64 c]) (by simp [results, Tryz.results135, go_sem]) rfl ⟨rfl, ?_⟩
  exact ((((Below.refl _ w).alloc (Nat.le_refl _) _).alloc (by simp) _).alloc (by simp; omega) _).drew
theorem fv_ge (x : Fp) : 0 ≤ fv x := by unfold fv; omega
theorem fv_lt (x : Fp) : fv x < 2305843009213693951 := by have := val_lt x; unfold fv; omega
theorem rdV (x : Fp) (w : World) :
    Calls Tryz.prog 135 #[.int .u64 (fv x), .agg #[]] w fun e w' => e = .returned (.agg #[.int .u64 (fv x)]) ∧ Below w.heap.size w w' :=
  redP_of _ _ w (fv_ge x) (Int.tmod_eq_of_lt (fv_ge x) (fv_lt x))
theorem rd0 (w : World) : Calls Tryz.prog 135 #[.int .u64 0, .agg #[]] w fun e w' => e = .returned (.agg #[.int .u64 (fv 0)]) ∧ Below w.heap.size w w' := rdV 0 w
theorem rd1 (w : World) : Calls Tryz.prog 135 #[.int .u64 1, .agg #[]] w fun e w' => e = .returned (.agg #[.int .u64 (fv 1)]) ∧ Below w.heap.size w w' := rdV 1 w
theorem rd3 (w : World) : Calls Tryz.prog 135 #[.int .u64 3, .agg #[]] w fun e w' => e = .returned (.agg #[.int .u64 (fv 3)]) ∧ Below w.heap.size w w' := rdV 3 w
theorem rd111 (w : World) : Calls Tryz.prog 135 #[.int .u64 111, .agg #[]] w fun e w' => e = .returned (.agg #[.int .u64 (fv 111)]) ∧ Below w.heap.size w w' := rdV 111 w
theorem tmV (a b : Fp) (w : World) :
    Calls Tryz.prog 104 #[.agg #[.int .u64 (fv a)], .agg #[.int .u64 (fv b)]] w fun e w' => e = .returned (.agg #[.int .u64 (fv (a * b))]) ∧ Below w.heap.size w w' := by
  have := timP_any a.val b.val w (val_lt a) (val_lt b)
  rw [← Fin.val_mul] at this
  exact this
theorem fv_sub (a b : Fp) : fv (a - b) = if fv a < fv b then fv a - fv b + 2305843009213693951 else fv a - fv b := by
  have ha := val_lt a
  have hb := val_lt b
  unfold fv
  rw [Fin.val_sub]
  generalize a.val = A at *
  generalize b.val = B at *
  split <;> omega
theorem mnV (a b : Fp) (w : World) :
    Calls Tryz.prog 134 #[.agg #[.int .u64 (fv a)], .agg #[.int .u64 (fv b)]] w fun e w' => e = .returned (.agg #[.int .u64 (fv (a - b))]) ∧ Below w.heap.size w w' :=
  mnP_any (fv a) (fv b) (fv (a - b)) w (fv_ge a) (fv_lt a) (fv_ge b) (fv_lt b) (fv_sub a b)
theorem ngV (a : Fp) (w : World) :
    Calls Tryz.prog 177 #[.agg #[.int .u64 (fv a)]] w fun e w' => e = .returned (.agg #[.int .u64 (fv (0 - a))]) ∧ Below w.heap.size w w' :=
  ngP_of (fv a) (fv (0 - a)) w (fun w => mnV 0 a w)
theorem plV (a b : Fp) (w : World) :
    Calls Tryz.prog 136 #[.agg #[.int .u64 (fv a)], .agg #[.int .u64 (fv b)]] w fun e w' => e = .returned (.agg #[.int .u64 (fv (a + b))]) ∧ Below w.heap.size w w' := by
  have := plP_of (fv a) (fv b) (fv (0 - b)) (fv (a - (0 - b))) w (ngV b) (mnV a (0 - b))
  rwa [show a - (0 - b) = a + b by grobner] at this
theorem ivP_of (a c : Int) (w : World)
    (T : ∀ w, Calls Tryz.prog 182 #[.agg #[.int .u64 a], .int .u64 2305843009213693949] w fun e w' => e = .returned (.agg #[.int .u64 c]) ∧ Below w.heap.size w w') :
    Calls Tryz.prog 142 #[.agg #[.int .u64 a]] w fun e w' => e = .returned (.agg #[.int .u64 c]) ∧ Below w.heap.size w w' := by
  have hme := methP
  have V := valP
  have hp : ∀ w' : World, w'.heap[w.heap.size]? = some (.cells #[.int .u64 a] 179) → (partAt ⟨w.heap.size, 0, none⟩ 0 0).run Tryz.prog w' = .ok ⟨w.heap.size, 0, none⟩ w' := fun w' h => partP h
  obtain ⟨X, hX⟩ : ∃ X, X = ((w.alloc (Obj.cells #[.int .u64 a] 179)).alloc (Obj.cells #[.int .u64 0] 179)).drew := ⟨_, rfl⟩
  have hx : R1 X w.heap.size a := by rw [hX]; exact ((R1.new w a).alloc _).drew
  have hr : R1 X (w.heap.size + 1) 0 := by rw [hX]; exact ((R1.new _ 0).drew).at (by simp)
  have hbX : Below w.heap.size w X := by rw [hX]; exact (((Below.refl _ w).alloc (Nat.le_refl _) _).alloc (by simp) _).drew
  have hl : w.heap.size ≤ X.heap.size := hbX.size
  have hx1 := hx.alloc (Obj.cells #[] 177)
  have hr1 := hr.alloc (Obj.cells #[] 177)
  have hb1 := hbX.alloc hl (Obj.cells #[] 177)
  have c0 := hx.cell
  have c1 := hx1.cell
  have e0 := hx
  have e1 := hx1
  have hl1 : w.heap.size ≤ (X.alloc (Obj.cells #[] 177)).heap.size := hb1.size
  unfold R1 at e0 e1
  rw [hX] at hx hr hx1 hr1 hb1 c0 c1 e0 e1 hl1
  clear hX hbX hl
  go_enter Tryz.func142, Tryz.ntmps142
  go_wp2
  go_region_held3 (fun w' => w'.cell? ⟨w.heap.size, 0, none⟩ = some (.int .u64 a) ∧ w'.heap[w.heap.size]? = some (.cells #[.int .u64 a] 179)) (first | exact ⟨c0, e0⟩ | exact ⟨c1, e1⟩ | exact ⟨c2, e2⟩ | exact ⟨c3, e3⟩ | go_keep) ((go_simp; first
    | (go_at_call 244; refine (V _).mono ?_; rintro e w' ⟨rfl, rfl⟩)
    | (go_at_call 182; refine (T _).mono ?_; rintro e w2 ⟨rfl, b2⟩; have hx2 := hx1.keep b2; have hr2 := hr1.keep b2; have c2 := hx2.cell; have e2 := hx2; unfold R1 at e2; have cc := hr2.cell; have ff := hr2.frz; have hx3 : R1 (w2.setCell ⟨w.heap.size + 1, 0, none⟩ (.int .u64 c)) w.heap.size a := hx2.other (by simp) 0 _; have c3 := hx3.cell; have e3 := hx3; unfold R1 at e3)))
  go_wp2
  exact bodyPost_ret (v := .agg #[.int .u64 c]) (num_res (fn := Tryz.f142) (p := 2) Tryz.results142 _ rfl (hr2.set c)) rfl ⟨rfl, (keepB hb1 hl1 b2).setCell (p := ⟨w.heap.size + 1, 0, none⟩) (by simp) _⟩
theorem ivn_is (p a k : Nat) (hk : k = p - 2) : a ^ k % p = ivn p a := by subst hk; rfl
theorem pow_fi (a : Fp) (k : Nat) (hk : k = 2305843009213693951 - 2) : a.val ^ k % 2305843009213693951 = (fi a).val := (ivn_is _ _ _ hk).trans (fi_val a).symm
theorem ivV (a : Fp) (w : World) :
    Calls Tryz.prog 142 #[.agg #[.int .u64 (fv a)]] w fun e w' => e = .returned (.agg #[.int .u64 (fv (fi a))]) ∧ Below w.heap.size w w' := by
  refine ivP_of (fv a) (fv (fi a)) w fun w => ?_
  obtain ⟨k, hk⟩ : ∃ k : Nat, k = 2305843009213693949 := ⟨_, rfl⟩
  have := powP_any a.val k w (val_lt a) (by omega)
  rw [pow_fi a k (by omega)] at this
  rw [hk] at this
  exact this
def CalN (F : FuncId) (args : Array Value) (r : Int) : Prop := ∀ w : World, Calls Tryz.prog F args w fun e w' => e = .returned (.agg #[.int .u64 r]) ∧ Below w.heap.size w w'
section
variable {ev : Operand → Value} {w : World} {dst : Option Tmp} {ty : TypeId} {ps : String} {af : Array Edge} {gd : Option (Nat × Bool)} {x y : Operand} {b i : Nat}
theorem exec_call1 {F : FuncId} {at_ : Array TypeId} {u : Value} (hF : ev (.func F) = .func (.func F) #[] #[]) (hcf : ∀ (args : Array Value) (w : World), (callFunc F args).run Tryz.prog w = .ok (.enter F args) w) (hx : ev x = u) :
    (execOp ev { dst := dst, op := .call { callee := .value (.func F), args := #[x], argTypes := at_ }, type := ty, pos := ps, after := af, guard := gd }).run Tryz.prog w = .ok (.enter F #[u]) w := by
  simp [execOp, hx, hF, hcf, go_sem]
theorem exec_call2 {F : FuncId} {at_ : Array TypeId} {u v : Value} (hF : ev (.func F) = .func (.func F) #[] #[]) (hcf : ∀ (args : Array Value) (w : World), (callFunc F args).run Tryz.prog w = .ok (.enter F args) w) (hx : ev x = u) (hy : ev y = v) :
    (execOp ev { dst := dst, op := .call { callee := .value (.func F), args := #[x, y], argTypes := at_ }, type := ty, pos := ps, after := af, guard := gd }).run Tryz.prog w = .ok (.enter F #[u, v]) w := by
  simp [execOp, hx, hy, hF, hcf, go_sem]
theorem exec_call4 {F : FuncId} {at_ : Array TypeId} {x3 x4 : Operand} {u v u3 u4 : Value} (hF : ev (.func F) = .func (.func F) #[] #[]) (hcf : ∀ (args : Array Value) (w : World), (callFunc F args).run Tryz.prog w = .ok (.enter F args) w) (hx : ev x = u) (hy : ev y = v) (h3 : ev x3 = u3) (h4 : ev x4 = u4) :
    (execOp ev { dst := dst, op := .call { callee := .value (.func F), args := #[x, y, x3, x4], argTypes := at_ }, type := ty, pos := ps, after := af, guard := gd }).run Tryz.prog w = .ok (.enter F #[u, v, u3, u4]) w := by
  simp [execOp, hx, hy, h3, h4, hF, hcf, go_sem]
theorem exec_move {u : Value} (hx : ev x = u) :
    (execOp ev { dst := dst, op := .move x, type := ty, pos := ps, after := af, guard := gd }).run Tryz.prog w = .ok (.value u) w := by
  simp [execOp, hx, go_sem]
theorem exec_loadN {z : Int} (hx : ev x = .pointer (some ⟨b, i, none⟩)) (hc : w.cell? ⟨b, i, none⟩ = some (.int .u64 z)) :
    (execOp ev { dst := dst, op := .load 179 x, type := ty, pos := ps, after := af, guard := gd }).run Tryz.prog w = .ok (.value (.agg #[.int .u64 z])) w := by
  simp [execOp, hx, hc, go_sem]
theorem exec_load0 (hx : ev x = .pointer (some ⟨b, i, none⟩)) :
    (execOp ev { dst := dst, op := .load 177 x, type := ty, pos := ps, after := af, guard := gd }).run Tryz.prog w = .ok (.value (.agg #[])) w := by
  simp [execOp, hx, go_sem]
theorem exec_alloc : (execOp ev { dst := dst, op := .alloc 179, type := ty, pos := ps, after := af, guard := gd }).run Tryz.prog w = .ok (.value (.pointer (some ⟨w.heap.size, 0, none⟩))) (w.alloc (.cells #[.int .u64 0] 179)) := by
  simp [execOp, go_sem]
theorem exec_store {z z0 : Int} (hx : ev x = .pointer (some ⟨b, 0, none⟩)) (hy : ev y = .agg #[.int .u64 z]) (hr : R1 w b z0) :
    (execOp ev { dst := dst, op := .store 179 x y, type := ty, pos := ps, after := af, guard := gd }).run Tryz.prog w = .ok .skip (w.setCell ⟨b, 0, none⟩ (.int .u64 z)) := by
  have h1 := hr.cell
  have h2 := hr.frz
  simp [execOp, hx, hy, h1, h2, go_sem]
theorem cf_times (args : Array Value) (w : World) : (callFunc 104 args).run Tryz.prog w = .ok (.enter 104 args) w := by kernel_rfl
theorem cf_minus (args : Array Value) (w : World) : (callFunc 134 args).run Tryz.prog w = .ok (.enter 134 args) w := by kernel_rfl
theorem cf_plus (args : Array Value) (w : World) : (callFunc 136 args).run Tryz.prog w = .ok (.enter 136 args) w := by kernel_rfl
theorem cf_reduced (args : Array Value) (w : World) : (callFunc 135 args).run Tryz.prog w = .ok (.enter 135 args) w := by kernel_rfl
end
section
variable {A : Act} {w W0 : World} {dst : Option Tmp} {ty : TypeId} {ps : String} {af : Array Edge} {gd : Option (Nat × Bool)} {x y x3 x4 : Operand} {b i : Nat}
theorem do_call1 {F : FuncId} {at_ : Array TypeId} {u r : Value} (hcf : ∀ (args : Array Value) (w : World), (callFunc F args).run Tryz.prog w = .ok (.enter F args) w) (hx : A.eval x = u)
    (hc : Calls Tryz.prog F #[u] w fun e w' => e = .returned r ∧ Below w.heap.size w w') :
    Does Tryz.prog { dst := dst, op := .call { callee := .value (.func F), args := #[x], argTypes := at_ }, type := ty, pos := ps, after := af, guard := gd } A w fun v' w' => v' = r ∧ Below w.heap.size w w' :=
  does_call (exec_call1 rfl hcf hx) (hc.mono fun _ _ ⟨h, h'⟩ => ⟨r, h, rfl, h'⟩)
theorem do_call2 {F : FuncId} {at_ : Array TypeId} {u v r : Value} (hcf : ∀ (args : Array Value) (w : World), (callFunc F args).run Tryz.prog w = .ok (.enter F args) w) (hx : A.eval x = u) (hy : A.eval y = v)
    (hc : Calls Tryz.prog F #[u, v] w fun e w' => e = .returned r ∧ Below w.heap.size w w') :
    Does Tryz.prog { dst := dst, op := .call { callee := .value (.func F), args := #[x, y], argTypes := at_ }, type := ty, pos := ps, after := af, guard := gd } A w fun v' w' => v' = r ∧ Below w.heap.size w w' :=
  does_call (exec_call2 rfl hcf hx hy) (hc.mono fun _ _ ⟨h, h'⟩ => ⟨r, h, rfl, h'⟩)
theorem do_call4 {F : FuncId} {at_ : Array TypeId} {u v u3 u4 r : Value} (hcf : ∀ (args : Array Value) (w : World), (callFunc F args).run Tryz.prog w = .ok (.enter F args) w) (hx : A.eval x = u) (hy : A.eval y = v) (h3 : A.eval x3 = u3) (h4 : A.eval x4 = u4)
    (hc : Calls Tryz.prog F #[u, v, u3, u4] w fun e w' => e = .returned r ∧ Below w.heap.size w w') :
    Does Tryz.prog { dst := dst, op := .call { callee := .value (.func F), args := #[x, y, x3, x4], argTypes := at_ }, type := ty, pos := ps, after := af, guard := gd } A w fun v' w' => v' = r ∧ Below w.heap.size w w' :=
  does_call (exec_call4 rfl hcf hx hy h3 h4) (hc.mono fun _ _ ⟨h, h'⟩ => ⟨r, h, rfl, h'⟩)
theorem do_loadN {z : Int} (hx : A.eval x = .pointer (some ⟨b, 0, none⟩)) (hr : R1 W0 b z) (hB : Below W0.heap.size W0 w) :
    Does Tryz.prog { dst := dst, op := .load 179 x, type := ty, pos := ps, after := af, guard := gd } A w fun v' w' => v' = .agg #[.int .u64 z] ∧ Below w.heap.size w w' :=
  does_value (exec_loadN hx (hr.keep hB).cell) ⟨rfl, Below.refl _ _⟩
theorem do_loadC {z : Int} (hx : A.eval x = .pointer (some ⟨b, i, none⟩)) (hr : W0.cell? ⟨b, i, none⟩ = some (.int .u64 z)) (hB : Below W0.heap.size W0 w) :
    Does Tryz.prog { dst := dst, op := .load 179 x, type := ty, pos := ps, after := af, guard := gd } A w fun v' w' => v' = .agg #[.int .u64 z] ∧ Below w.heap.size w w' :=
  does_value (exec_loadN hx (keepC hr hB)) ⟨rfl, Below.refl _ _⟩
theorem do_load0 (hx : A.eval x = .pointer (some ⟨b, i, none⟩)) :
    Does Tryz.prog { dst := dst, op := .load 177 x, type := ty, pos := ps, after := af, guard := gd } A w fun v' w' => v' = .agg #[] ∧ Below w.heap.size w w' :=
  does_value (exec_load0 hx) ⟨rfl, Below.refl _ _⟩
theorem do_move {u : Value} (hx : A.eval x = u) :
    Does Tryz.prog { dst := dst, op := .move x, type := ty, pos := ps, after := af, guard := gd } A w fun v' w' => v' = u ∧ Below w.heap.size w w' := by
  have h := exec_move (ev := A.eval) (w := w) (dst := dst) (ty := ty) (ps := ps) (af := af) (gd := gd) hx
  exact does_value h ⟨rfl, Below.refl _ _⟩
theorem do_new : Does Tryz.prog { dst := dst, op := .alloc 179, type := ty, pos := ps, after := af, guard := gd } A w fun v w' => v = .pointer (some ⟨w.heap.size, 0, none⟩) ∧ w' = w.alloc (.cells #[.int .u64 0] 179) :=
  by
  have h := exec_alloc (ev := A.eval) (w := w) (dst := dst) (ty := ty) (ps := ps) (af := af) (gd := gd)
  exact does_value h ⟨rfl, rfl⟩
theorem do_put {z : Int} (hx : A.eval x = .pointer (some ⟨b, 0, none⟩)) (hy : A.eval y = .agg #[.int .u64 z]) (hr : w.heap[b]? = some (.cells #[.int .u64 0] 179)) :
    Does Tryz.prog { dst := dst, op := .store 179 x y, type := ty, pos := ps, after := af, guard := gd } A w fun _ w' => Turned b (.cells #[.int .u64 z] 179) w w' := by
  have h1 : R1 w b 0 := hr
  refine does_skip (exec_store hx hy h1) ⟨rfl, rfl, rfl, by simp [World.setCell], h1.set z, fun k hk => ?_⟩
  simp [World.setCell, Array.getElem?_modify, Ne.symm hk]
end
theorem csqP (x : Fp) (w : World) :
    Calls Tryz.prog 105 #[.agg #[.int .u64 (fv x)]] w fun e w' => e = .returned (.agg #[.int .u64 (fv ((x * x - 3) * x + 111))]) ∧ Below w.heap.size w w' := by
  obtain ⟨X, hX⟩ : ∃ X, X = ((w.alloc (Obj.cells #[.int .u64 (fv x)] 179)).alloc (Obj.cells #[.int .u64 0] 179)).alloc (Obj.cells #[] 177) := ⟨_, rfl⟩
  have hx : R1 X w.heap.size (fv x) := by rw [hX]; exact ((R1.new w _).alloc _).alloc _
  have hr : R1 X (w.heap.size + 1) 0 := by rw [hX]; exact ((R1.new _ 0).at (by simp)).alloc _
  have hb : Below w.heap.size w X := by rw [hX]; exact (((Below.refl _ w).alloc (Nat.le_refl _) _).alloc (by simp) _).alloc (by simp; omega) _
  rw [hX] at hx hr hb
  clear hX
  go_enter Tryz.func105, Tryz.ntmps105
  go_wp2
  refine pool_tail [.val (.agg #[.int .u64 (fv x)]),
    .val (.agg #[.int .u64 (fv x)]),
    .val (.agg #[.int .u64 (fv (x * x))]),
    .val (.agg #[]),
    .val (.agg #[.int .u64 (fv 3)]),
    .val (.agg #[.int .u64 (fv (x * x - 3))]),
    .val (.agg #[.int .u64 (fv x)]),
    .val (.agg #[.int .u64 (fv ((x * x - 3) * x))]),
    .val (.agg #[]),
    .val (.agg #[.int .u64 (fv 111)]),
    .val (.agg #[.int .u64 (fv ((x * x - 3) * x + 111))]),
    .val undef] [[1], [1], [5, 6], [3], [8], [7, 9], [1], [10, 11], [3], [13], [12, 14], [2, 15]] (fun f => [(some 5, .agg #[.int .u64 (fv x)]), (some 6, .agg #[.int .u64 (fv x)]), (some 7, .agg #[.int .u64 (fv (x * x))]), (some 8, .agg #[]), (some 9, .agg #[.int .u64 (fv 3)]), (some 10, .agg #[.int .u64 (fv (x * x - 3))]), (some 11, .agg #[.int .u64 (fv x)]), (some 12, .agg #[.int .u64 (fv ((x * x - 3) * x))]), (some 13, .agg #[]), (some 14, .agg #[.int .u64 (fv 111)]), (some 15, .agg #[.int .u64 (fv ((x * x - 3) * x + 111))])]) (fun f => [(2, .pointer (some ⟨w.heap.size + 1, 0, none⟩)), (15, .agg #[.int .u64 (fv ((x * x - 3) * x + 111))])]) (by kernel_rfl) (by kernel_rfl) (by kernel_rfl) (by kernel_rfl) (by kernel_rfl) (fun _ => by kernel_rfl) ?_ rfl (fun _ => by kernel_rfl) ?_
  · intro ix hix
    match ix, hix with
    | 0, _ => exact ob_val [(1, .pointer (some ⟨w.heap.size, 0, none⟩))] rfl rfl (fun _ => by kernel_rfl) (fun A w ⟨e0, _⟩ hB => do_loadN e0 hx.drew hB)
    | 1, _ => exact ob_val [(1, .pointer (some ⟨w.heap.size, 0, none⟩))] rfl rfl (fun _ => by kernel_rfl) (fun A w ⟨e0, _⟩ hB => do_loadN e0 hx.drew hB)
    | 2, _ => exact ob_val [(5, .agg #[.int .u64 (fv x)]), (6, .agg #[.int .u64 (fv x)])] rfl rfl (fun _ => by kernel_rfl) (fun A w ⟨e0, e1, _⟩ hB => do_call2 cf_times e0 e1 (tmV x x w))
    | 3, _ => exact ob_val [(3, .pointer (some ⟨w.heap.size + 1 + 1, 0, none⟩))] rfl rfl (fun _ => by kernel_rfl) (fun A w ⟨e0, _⟩ hB => do_load0 e0)
    | 4, _ => exact ob_val [(8, .agg #[])] rfl rfl (fun _ => by kernel_rfl) (fun A w ⟨e0, _⟩ hB => do_call2 cf_reduced rfl e0 (rd3 w))
    | 5, _ => exact ob_val [(7, .agg #[.int .u64 (fv (x * x))]), (9, .agg #[.int .u64 (fv 3)])] rfl rfl (fun _ => by kernel_rfl) (fun A w ⟨e0, e1, _⟩ hB => do_call2 cf_minus e0 e1 (mnV (x * x) 3 w))
    | 6, _ => exact ob_val [(1, .pointer (some ⟨w.heap.size, 0, none⟩))] rfl rfl (fun _ => by kernel_rfl) (fun A w ⟨e0, _⟩ hB => do_loadN e0 hx.drew hB)
    | 7, _ => exact ob_val [(10, .agg #[.int .u64 (fv (x * x - 3))]), (11, .agg #[.int .u64 (fv x)])] rfl rfl (fun _ => by kernel_rfl) (fun A w ⟨e0, e1, _⟩ hB => do_call2 cf_times e0 e1 (tmV (x * x - 3) x w))
    | 8, _ => exact ob_val [(3, .pointer (some ⟨w.heap.size + 1 + 1, 0, none⟩))] rfl rfl (fun _ => by kernel_rfl) (fun A w ⟨e0, _⟩ hB => do_load0 e0)
    | 9, _ => exact ob_val [(13, .agg #[])] rfl rfl (fun _ => by kernel_rfl) (fun A w ⟨e0, _⟩ hB => do_call2 cf_reduced rfl e0 (rd111 w))
    | 10, _ => exact ob_val [(12, .agg #[.int .u64 (fv ((x * x - 3) * x))]), (14, .agg #[.int .u64 (fv 111)])] rfl rfl (fun _ => by kernel_rfl) (fun A w ⟨e0, e1, _⟩ hB => do_call2 cf_plus e0 e1 (plV ((x * x - 3) * x) 111 w))
    | ix + 11, h => exact absurd h (by simp)
  rintro f A w9 ⟨e0, e1, _⟩ hB _
  replace hr := (hr.drew).keep hB
  replace hb := keepB hb.drew hb.size hB
  refine does_skip (exec_store e0 e1 hr) ?_
  simp only [puts, List.foldl, Act.put, List.setIfInBounds_toArray, List.set_cons_zero, List.set_cons_succ]
  go_wp2
  exact bodyPost_ret (v := .agg #[.int .u64 (fv ((x * x - 3) * x + 111))]) (num_res (fn := Tryz.f105) (p := 2) Tryz.results105 _ rfl (hr.set _)) rfl ⟨rfl, hb.setCell (p := ⟨w.heap.size + 1, 0, none⟩) (by simp) _⟩
theorem csqV (x : Fp) (w : World) :
    Calls Tryz.prog 105 #[.agg #[.int .u64 (fv x)]] w fun e w' => e = .returned (.agg #[.int .u64 (fv (crv x))]) ∧ Below w.heap.size w w' := by
  have := csqP x w
  rwa [show (x * x - 3) * x + 111 = crv x by unfold crv; grobner] at this
end Go.Proofs.YtjmhmajfkdglnaaGreatDoor
namespace Go.Proofs.YtjmhmajfkdglnaaGreatDoor
open Go.RowKit
theorem sqS_no (x r z : Int) (w : World) (h1 : x < 2305843009213693951) (hz : (z == x) = false)
    (L : ∀ w, Calls Tryz.prog 94 #[.int .u64 x, .int .u64 576460752303423488, .int .u64 2305843009213693951] w fun e w' => e = .returned (.int .u64 r) ∧ w = w')
    (M : ∀ w, Calls Tryz.prog 83 #[.int .u64 r, .int .u64 r] w fun e w' => e = .returned (.int .u64 z) ∧ w = w') :
    Calls Tryz.prog 145 #[.int .u64 x] w fun e w' => e = .returned (.tuple #[.int .u64 0, .bool false]) ∧ w = w' := by
  go_enter Tryz.func145, Tryz.ntmps145
  go_wp2_with (first | (go_at_call 94; refine (L _).mono ?_; rintro e w' ⟨rfl, rfl⟩) | (go_at_call 83; refine (M _).mono ?_; rintro e w' ⟨rfl, rfl⟩))
  go_ret2
  exact ⟨rfl, rfl⟩
theorem sqS_odd (x r : Int) (w : World) (h1 : x < 2305843009213693951) (ho : (r % 2 == 1) = true) (hr0 : 0 ≤ r) (hr : r ≤ 2305843009213693951)
    (L : ∀ w, Calls Tryz.prog 94 #[.int .u64 x, .int .u64 576460752303423488, .int .u64 2305843009213693951] w fun e w' => e = .returned (.int .u64 r) ∧ w = w')
    (M : ∀ w, Calls Tryz.prog 83 #[.int .u64 r, .int .u64 r] w fun e w' => e = .returned (.int .u64 x) ∧ w = w') :
    Calls Tryz.prog 145 #[.int .u64 x] w fun e w' => e = .returned (.tuple #[.int .u64 (2305843009213693951 - r), .bool true]) ∧ w = w' := by
  go_enter Tryz.func145, Tryz.ntmps145
  go_wp2_with (first | (go_at_call 94; refine (L _).mono ?_; rintro e w' ⟨rfl, rfl⟩) | (go_at_call 83; refine (M _).mono ?_; rintro e w' ⟨rfl, rfl⟩))
  go_ret2
  exact ⟨rfl, rfl⟩
theorem sqS_even (x r : Int) (w : World) (h1 : x < 2305843009213693951) (ho : (r % 2 == 1) = false) (hr0 : 0 ≤ r)
    (L : ∀ w, Calls Tryz.prog 94 #[.int .u64 x, .int .u64 576460752303423488, .int .u64 2305843009213693951] w fun e w' => e = .returned (.int .u64 r) ∧ w = w')
    (M : ∀ w, Calls Tryz.prog 83 #[.int .u64 r, .int .u64 r] w fun e w' => e = .returned (.int .u64 x) ∧ w = w') :
    Calls Tryz.prog 145 #[.int .u64 x] w fun e w' => e = .returned (.tuple #[.int .u64 r, .bool true]) ∧ w = w' := by
  go_enter Tryz.func145, Tryz.ntmps145
  go_wp2_with (first | (go_at_call 94; refine (L _).mono ?_; rintro e w' ⟨rfl, rfl⟩) | (go_at_call 83; refine (M _).mono ?_; rintro e w' ⟨rfl, rfl⟩))
  go_ret2
  exact ⟨rfl, rfl⟩
theorem results_ct {P : Program} {fn : Func} {p u : Tmp} {ty : TypeId} (h : fn.results = #[.cell p ty, .tmp u]) (tmps : Array Value) (w : World) (g y : Nat) (d : TypeDesc)
    (hp : tmps.getD p undef = .pointer (some ⟨g, 0, none⟩)) (hc : Rp w ty g y)
    (hu : P.underlying ty = some d) (hd : d.isRow = true) (hi : (P.info? ty).map (·.size) = some 1) :
    (results fn tmps).run P w = .ok (.tuple #[.agg #[.int .u64 y], tmps.getD u undef]) w := by
  have hp' : tmps[p]?.getD undef = .pointer (some ⟨g, 0, none⟩) := by simpa using hp
  simp [results, h, hp', asAddr, run_loadVar_mid w g 0 ty [.int .u64 y] d hc.range hu hd hi]
theorem evenP_no (x r z : Nat) (w : World) (hz : ((z : Int) == (x : Int)) = false)
    (L : ∀ w, Calls Tryz.prog 182 #[.agg #[.int .u64 x], .int .u64 576460752303423488] w fun e w' => e = .returned (.agg #[.int .u64 r]) ∧ Below w.heap.size w w')
    (M : ∀ w, Calls Tryz.prog 104 #[.agg #[.int .u64 r], .agg #[.int .u64 r]] w fun e w' => e = .returned (.agg #[.int .u64 z]) ∧ Below w.heap.size w w') :
    Calls Tryz.prog 188 #[.agg #[.int .u64 x]] w fun e w' => e = .returned (.tuple #[.agg #[.int .u64 0], .bool false]) ∧ Below w.heap.size w w' := by
  go_enter Tryz.func188, Tryz.ntmps188
  go_wp2_with fail
  refine (L _).mono ?_
  rintro e w1 ⟨rfl, b1⟩
  have hx0 : Rp ((w.alloc (Obj.cells #[.int .u64 (x : Int)] 179)).alloc (Obj.cells #[.int .u64 0] 179)) 179 w.heap.size x := (Rp.new w _ x).alloc _
  have hr0' : Rp ((w.alloc (Obj.cells #[.int .u64 (x : Int)] 179)).alloc (Obj.cells #[.int .u64 0] 179)) 179 (w.heap.size + 1) 0 := (Rp.new _ _ 0).at (by simp)
  have hx1 := hx0.below b1 hx0.lt
  have hr1 := hr0'.below b1 hr0'.lt
  have hw1 : Below w.heap.size w w1 := (((Below.refl _ w).alloc (Nat.le_refl _) _).alloc (by simp) _).trans (b1.mono (by simp; omega))
  have hl1 : w.heap.size + 2 ≤ w1.heap.size := by have := b1.size; simp at this; omega
  clear b1 hx0 hr0'
  have rR := (Rp.new w1 179 r).drew
  have rX := (hx1.alloc (Obj.cells #[.int .u64 (r : Int)] 179)).drew
  have rO := (hr1.alloc (Obj.cells #[.int .u64 (r : Int)] 179)).drew
  have hw2 := (hw1.alloc hw1.size (Obj.cells #[.int .u64 (r : Int)] 179)).drew
  have cR := rR.cell
  have cX := rX.cell
  go_wp2
  go_region_held3 (fun w' => w'.cell? ⟨w1.heap.size, 0, none⟩ = some (.int .u64 (r : Int)) ∧ w'.cell? ⟨w.heap.size, 0, none⟩ = some (.int .u64 (x : Int))) (first | exact ⟨cR, cX⟩ | exact ⟨qR, qX⟩ | go_keep) ((go_at_call 104; refine (M _).mono ?_; rintro e w3 ⟨rfl, b3⟩; have sR := rR.below b3 rR.lt; have sX := rX.below b3 rX.lt; have sO := rO.below b3 rO.lt; have qR := sR.cell; have qX := sX.cell))
  have hw3 := hw2.trans (b3.mono hw2.size)
  have qO := sO.cell
  have fO := sO.frz
  have fR := sR.frz
  have hne : w1.heap.size ≠ w.heap.size + 1 := by omega
  clear b3 hw2 rX rO rR cR cX hx1 hr1 hw1 L M sX qX
  go_wp2
  have rF := sO.set 0
  refine bodyPost_ret (v := .tuple #[.agg #[.int .u64 0], .bool false]) (results_ct (fn := Tryz.f188) (p := 2) (u := 3) (ty := 179) Tryz.results188 _ _ (w.heap.size + 1) _ _ rfl rF Tryz.underlying179 rfl (by kernel_rfl)) rfl ⟨rfl, ?_⟩
  exact hw3.setCell (p := ⟨w.heap.size + 1, 0, none⟩) (by simp) _
theorem evenP_even (x r : Nat) (w : World) (ho : (((r : Nat) : Int) % 2 == 1) = false)
    (L : ∀ w, Calls Tryz.prog 182 #[.agg #[.int .u64 x], .int .u64 576460752303423488] w fun e w' => e = .returned (.agg #[.int .u64 r]) ∧ Below w.heap.size w w')
    (M : ∀ w, Calls Tryz.prog 104 #[.agg #[.int .u64 r], .agg #[.int .u64 r]] w fun e w' => e = .returned (.agg #[.int .u64 x]) ∧ Below w.heap.size w w') :
    Calls Tryz.prog 188 #[.agg #[.int .u64 x]] w fun e w' => e = .returned (.tuple #[.agg #[.int .u64 r], .bool true]) ∧ Below w.heap.size w w' := by
  go_enter Tryz.func188, Tryz.ntmps188
  go_wp2_with fail
  refine (L _).mono ?_
  rintro e w1 ⟨rfl, b1⟩
  have hx0 : Rp ((w.alloc (Obj.cells #[.int .u64 (x : Int)] 179)).alloc (Obj.cells #[.int .u64 0] 179)) 179 w.heap.size x := (Rp.new w _ x).alloc _
  have hr0' : Rp ((w.alloc (Obj.cells #[.int .u64 (x : Int)] 179)).alloc (Obj.cells #[.int .u64 0] 179)) 179 (w.heap.size + 1) 0 := (Rp.new _ _ 0).at (by simp)
  have hx1 := hx0.below b1 hx0.lt
  have hr1 := hr0'.below b1 hr0'.lt
  have hw1 : Below w.heap.size w w1 := (((Below.refl _ w).alloc (Nat.le_refl _) _).alloc (by simp) _).trans (b1.mono (by simp; omega))
  have hl1 : w.heap.size + 2 ≤ w1.heap.size := by have := b1.size; simp at this; omega
  clear b1 hx0 hr0'
  have rR := (Rp.new w1 179 r).drew
  have rX := (hx1.alloc (Obj.cells #[.int .u64 (r : Int)] 179)).drew
  have rO := (hr1.alloc (Obj.cells #[.int .u64 (r : Int)] 179)).drew
  have hw2 := (hw1.alloc hw1.size (Obj.cells #[.int .u64 (r : Int)] 179)).drew
  have cR := rR.cell
  have cX := rX.cell
  go_wp2
  go_region_held3 (fun w' => w'.cell? ⟨w1.heap.size, 0, none⟩ = some (.int .u64 (r : Int)) ∧ w'.cell? ⟨w.heap.size, 0, none⟩ = some (.int .u64 (x : Int))) (first | exact ⟨cR, cX⟩ | exact ⟨qR, qX⟩ | go_keep) ((go_at_call 104; refine (M _).mono ?_; rintro e w3 ⟨rfl, b3⟩; have sR := rR.below b3 rR.lt; have sX := rX.below b3 rX.lt; have sO := rO.below b3 rO.lt; have qR := sR.cell; have qX := sX.cell))
  have hw3 := hw2.trans (b3.mono hw2.size)
  have qO := sO.cell
  have fO := sO.frz
  have fR := sR.frz
  have hne : w1.heap.size ≠ w.heap.size + 1 := by omega
  clear b3 hw2 rX rO rR cR cX hx1 hr1 hw1 L M sX qX
  go_wp2
  have rF := sO.set r
  refine bodyPost_ret (v := .tuple #[.agg #[.int .u64 r], .bool true]) (results_ct (fn := Tryz.f188) (p := 2) (u := 3) (ty := 179) Tryz.results188 _ _ (w.heap.size + 1) _ _ rfl rF Tryz.underlying179 rfl (by kernel_rfl)) rfl ⟨rfl, ?_⟩
  exact hw3.setCell (p := ⟨w.heap.size + 1, 0, none⟩) (by simp) _
theorem evenP_odd (x r : Nat) (w : World) (ho : (((r : Nat) : Int) % 2 == 1) = true) (r' : Nat)
    (N : ∀ w, Calls Tryz.prog 177 #[.agg #[.int .u64 r]] w fun e w' => e = .returned (.agg #[.int .u64 r']) ∧ Below w.heap.size w w')
    (L : ∀ w, Calls Tryz.prog 182 #[.agg #[.int .u64 x], .int .u64 576460752303423488] w fun e w' => e = .returned (.agg #[.int .u64 r]) ∧ Below w.heap.size w w')
    (M : ∀ w, Calls Tryz.prog 104 #[.agg #[.int .u64 r], .agg #[.int .u64 r]] w fun e w' => e = .returned (.agg #[.int .u64 x]) ∧ Below w.heap.size w w') :
    Calls Tryz.prog 188 #[.agg #[.int .u64 x]] w fun e w' => e = .returned (.tuple #[.agg #[.int .u64 r'], .bool true]) ∧ Below w.heap.size w w' := by
  go_enter Tryz.func188, Tryz.ntmps188
  go_wp2_with fail
  refine (L _).mono ?_
  rintro e w1 ⟨rfl, b1⟩
  have hx0 : Rp ((w.alloc (Obj.cells #[.int .u64 (x : Int)] 179)).alloc (Obj.cells #[.int .u64 0] 179)) 179 w.heap.size x := (Rp.new w _ x).alloc _
  have hr0' : Rp ((w.alloc (Obj.cells #[.int .u64 (x : Int)] 179)).alloc (Obj.cells #[.int .u64 0] 179)) 179 (w.heap.size + 1) 0 := (Rp.new _ _ 0).at (by simp)
  have hx1 := hx0.below b1 hx0.lt
  have hr1 := hr0'.below b1 hr0'.lt
  have hw1 : Below w.heap.size w w1 := (((Below.refl _ w).alloc (Nat.le_refl _) _).alloc (by simp) _).trans (b1.mono (by simp; omega))
  have hl1 : w.heap.size + 2 ≤ w1.heap.size := by have := b1.size; simp at this; omega
  clear b1 hx0 hr0'
  have rR := (Rp.new w1 179 r).drew
  have rX := (hx1.alloc (Obj.cells #[.int .u64 (r : Int)] 179)).drew
  have rO := (hr1.alloc (Obj.cells #[.int .u64 (r : Int)] 179)).drew
  have hw2 := (hw1.alloc hw1.size (Obj.cells #[.int .u64 (r : Int)] 179)).drew
  have cR := rR.cell
  have cX := rX.cell
  go_wp2
  go_region_held3 (fun w' => w'.cell? ⟨w1.heap.size, 0, none⟩ = some (.int .u64 (r : Int)) ∧ w'.cell? ⟨w.heap.size, 0, none⟩ = some (.int .u64 (x : Int))) (first | exact ⟨cR, cX⟩ | exact ⟨qR, qX⟩ | go_keep) ((go_at_call 104; refine (M _).mono ?_; rintro e w3 ⟨rfl, b3⟩; have sR := rR.below b3 rR.lt; have sX := rX.below b3 rX.lt; have sO := rO.below b3 rO.lt; have qR := sR.cell; have qX := sX.cell))
  have hw3 := hw2.trans (b3.mono hw2.size)
  have qO := sO.cell
  have fO := sO.frz
  have fR := sR.frz
  have hne : w1.heap.size ≠ w.heap.size + 1 := by omega
  clear b3 hw2 rX rO rR cR cX hx1 hr1 hw1 L M sX qX
  go_wp2_with fail
  refine (N _).mono ?_
  rintro e w4 ⟨rfl, b4⟩
  replace sR := sR.below b4 sR.lt
  replace sO := sO.below b4 sO.lt
  replace hw3 := hw3.trans (b4.mono hw3.size)
  clear b4 qR qO fO fR N
  have qR := sR.cell
  have qO := sO.cell
  have fO := sO.frz
  have fR := sR.frz
  have tR := sR.set r'
  have tO : Rp (w4.setCell ⟨w1.heap.size, 0, none⟩ (.int .u64 (r' : Int))) _ _ _ := sO.other (Ne.symm hne) _
  have hw4 := hw3.setCell (p := ⟨w1.heap.size, 0, none⟩) (by simp; omega) (.int .u64 (r' : Int))
  have uR := tR.cell
  have uO := tO.cell
  have gO := tO.frz
  go_wp2
  have rF := tO.set r'
  refine bodyPost_ret (v := .tuple #[.agg #[.int .u64 r'], .bool true]) (results_ct (fn := Tryz.f188) (p := 2) (u := 3) (ty := 179) Tryz.results188 _ _ (w.heap.size + 1) _ _ rfl rF Tryz.underlying179 rfl (by kernel_rfl)) rfl ⟨rfl, ?_⟩
  exact hw4.setCell (p := ⟨w.heap.size + 1, 0, none⟩) (by simp) _
end Go.Proofs.YtjmhmajfkdglnaaGreatDoor
