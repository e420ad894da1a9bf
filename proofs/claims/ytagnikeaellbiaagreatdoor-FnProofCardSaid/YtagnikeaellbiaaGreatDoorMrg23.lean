import Derived.Test.YtagnikeaellbiaaGreatDoorMrg20
import Derived.Test.YtagnikeaellbiaaGreatDoorMrg13
import Derived.Test.YtagnikeaellbiaaGreatDoorMrg22
import Derived.Test.YtagnikeaellbiaaGreatDoorMrg8
namespace Go.Proofs.YtagnikeaellbiaaGreatDoor
open Go.RowKit M
set_option linter.unusedVariables false

set_option maxRecDepth 100000 in
set_option maxHeartbeats 2000000 in
theorem redP_of (n c : Int) (w : World) (h0 : 0 ≤ n) (hc : n.tmod 2305843009213693951 = c) :
    Calls Tryz.prog 88 #[.int .u64 n, .agg #[]] w fun e w' => e = .returned (.agg #[.int .u64 c]) ∧ Below w.heap.size w w' := by
  have hm := methP
  have hf := foldP
  have V := valP
  go_enter Tryz.func88, Tryz.ntmps88
  go_wp2
  go_region_held3 (fun _ => True) (trivial) ((go_simp; go_at_call 169; refine (V _).mono ?_; rintro e w' ⟨rfl, rfl⟩))
  go_wp2
  refine bodyPost_ret (v := .agg #[.int .u64 c]) (by simp [results, Tryz.results88, go_sem]) rfl ⟨rfl, ?_⟩
  exact ((((Below.refl _ w).alloc (Nat.le_refl _) _).alloc (by simp) _).alloc (by simp; omega) _).drew
theorem fv_ge (x : Fp) : 0 ≤ fv x := by unfold fv; omega
theorem fv_lt (x : Fp) : fv x < 2305843009213693951 := by have := val_lt x; unfold fv; omega
theorem rdV (x : Fp) (w : World) :
    Calls Tryz.prog 88 #[.int .u64 (fv x), .agg #[]] w fun e w' => e = .returned (.agg #[.int .u64 (fv x)]) ∧ Below w.heap.size w w' :=
  redP_of _ _ w (fv_ge x) (Int.tmod_eq_of_lt (fv_ge x) (fv_lt x))
theorem rd0 (w : World) : Calls Tryz.prog 88 #[.int .u64 0, .agg #[]] w fun e w' => e = .returned (.agg #[.int .u64 (fv 0)]) ∧ Below w.heap.size w w' := rdV 0 w
theorem rd1 (w : World) : Calls Tryz.prog 88 #[.int .u64 1, .agg #[]] w fun e w' => e = .returned (.agg #[.int .u64 (fv 1)]) ∧ Below w.heap.size w w' := rdV 1 w
theorem rd3 (w : World) : Calls Tryz.prog 88 #[.int .u64 3, .agg #[]] w fun e w' => e = .returned (.agg #[.int .u64 (fv 3)]) ∧ Below w.heap.size w w' := rdV 3 w
theorem rd111 (w : World) : Calls Tryz.prog 88 #[.int .u64 111, .agg #[]] w fun e w' => e = .returned (.agg #[.int .u64 (fv 111)]) ∧ Below w.heap.size w w' := rdV 111 w

theorem tmV (a b : Fp) (w : World) :
    Calls Tryz.prog 60 #[.agg #[.int .u64 (fv a)], .agg #[.int .u64 (fv b)]] w fun e w' => e = .returned (.agg #[.int .u64 (fv (a * b))]) ∧ Below w.heap.size w w' := by
  have := timP_any a.val b.val w (val_lt a) (val_lt b)
  rw [← Fin.val_mul] at this
  exact this
theorem fv_sub (a b : Fp) : fv (a - b) = if fv a < fv b then fv a - fv b + 2305843009213693951 else fv a - fv b := by
  have ha := val_lt a
  have hb := val_lt b
  unfold fv
  rw [Fin.val_sub]
  generalize a.val = A at *
  generalize b.val = B at *
  split <;> omega
theorem mnV (a b : Fp) (w : World) :
    Calls Tryz.prog 87 #[.agg #[.int .u64 (fv a)], .agg #[.int .u64 (fv b)]] w fun e w' => e = .returned (.agg #[.int .u64 (fv (a - b))]) ∧ Below w.heap.size w w' :=
  mnP_any (fv a) (fv b) (fv (a - b)) w (fv_ge a) (fv_lt a) (fv_ge b) (fv_lt b) (fv_sub a b)
theorem ngV (a : Fp) (w : World) :
    Calls Tryz.prog 105 #[.agg #[.int .u64 (fv a)]] w fun e w' => e = .returned (.agg #[.int .u64 (fv (0 - a))]) ∧ Below w.heap.size w w' :=
  ngP_of (fv a) (fv (0 - a)) w (fun w => mnV 0 a w)
theorem plV (a b : Fp) (w : World) :
    Calls Tryz.prog 89 #[.agg #[.int .u64 (fv a)], .agg #[.int .u64 (fv b)]] w fun e w' => e = .returned (.agg #[.int .u64 (fv (a + b))]) ∧ Below w.heap.size w w' := by
  have := plP_of (fv a) (fv b) (fv (0 - b)) (fv (a - (0 - b))) w (ngV b) (mnV a (0 - b))
  rwa [show a - (0 - b) = a + b by grobner] at this

set_option maxRecDepth 100000 in
set_option maxHeartbeats 2000000 in
theorem ivP_of (a c : Int) (w : World)
    (T : ∀ w, Calls Tryz.prog 108 #[.agg #[.int .u64 a], .int .u64 2305843009213693949] w fun e w' => e = .returned (.agg #[.int .u64 c]) ∧ Below w.heap.size w w') :
    Calls Tryz.prog 92 #[.agg #[.int .u64 a]] w fun e w' => e = .returned (.agg #[.int .u64 c]) ∧ Below w.heap.size w w' := by
  have hme := methP
  have V := valP
  have hp : ∀ w' : World, w'.heap[w.heap.size]? = some (.cells #[.int .u64 a] 105) → (partAt ⟨w.heap.size, 0, none⟩ 0 0).run Tryz.prog w' = .ok ⟨w.heap.size, 0, none⟩ w' := fun w' h => partP h
  obtain ⟨X, hX⟩ : ∃ X, X = ((w.alloc (Obj.cells #[.int .u64 a] 105)).alloc (Obj.cells #[.int .u64 0] 105)).drew := ⟨_, rfl⟩
  have hx : R1 X w.heap.size a := by rw [hX]; exact ((R1.new w a).alloc _).drew
  have hr : R1 X (w.heap.size + 1) 0 := by rw [hX]; exact ((R1.new _ 0).drew).at (by simp)
  have hbX : Below w.heap.size w X := by rw [hX]; exact (((Below.refl _ w).alloc (Nat.le_refl _) _).alloc (by simp) _).drew
  have hl : w.heap.size ≤ X.heap.size := hbX.size
  have hx1 := hx.alloc (Obj.cells #[] 103)
  have hr1 := hr.alloc (Obj.cells #[] 103)
  have hb1 := hbX.alloc hl (Obj.cells #[] 103)
  have c0 := hx.cell
  have c1 := hx1.cell
  have e0 := hx
  have e1 := hx1
  have hl1 : w.heap.size ≤ (X.alloc (Obj.cells #[] 103)).heap.size := hb1.size
  unfold R1 at e0 e1
  rw [hX] at hx hr hx1 hr1 hb1 c0 c1 e0 e1 hl1
  clear hX hbX hl
  go_enter Tryz.func92, Tryz.ntmps92
  go_wp2
  go_region_held3 (fun w' => w'.cell? ⟨w.heap.size, 0, none⟩ = some (.int .u64 a) ∧ w'.heap[w.heap.size]? = some (.cells #[.int .u64 a] 105)) (first | exact ⟨c0, e0⟩ | exact ⟨c1, e1⟩ | exact ⟨c2, e2⟩ | exact ⟨c3, e3⟩ | go_keep) ((go_simp; first
    | (go_at_call 169; refine (V _).mono ?_; rintro e w' ⟨rfl, rfl⟩)
    | (go_at_call 108; refine (T _).mono ?_; rintro e w2 ⟨rfl, b2⟩; have hx2 := hx1.keep b2; have hr2 := hr1.keep b2; have c2 := hx2.cell; have e2 := hx2; unfold R1 at e2; have cc := hr2.cell; have ff := hr2.frz; have hx3 : R1 (w2.setCell ⟨w.heap.size + 1, 0, none⟩ (.int .u64 c)) w.heap.size a := hx2.other (by simp) 0 _; have c3 := hx3.cell; have e3 := hx3; unfold R1 at e3)))
  go_wp2
  exact bodyPost_ret (v := .agg #[.int .u64 c]) (num_res (fn := Tryz.f92) (p := 2) Tryz.results92 _ rfl (hr2.set c)) rfl ⟨rfl, (keepB hb1 hl1 b2).setCell (p := ⟨w.heap.size + 1, 0, none⟩) (by simp) _⟩
theorem ivn_is (p a k : Nat) (hk : k = p - 2) : a ^ k % p = ivn p a := by subst hk; rfl
theorem pow_fi (a : Fp) (k : Nat) (hk : k = 2305843009213693951 - 2) : a.val ^ k % 2305843009213693951 = (fi a).val := (ivn_is _ _ _ hk).trans (fi_val a).symm
theorem ivV (a : Fp) (w : World) :
    Calls Tryz.prog 92 #[.agg #[.int .u64 (fv a)]] w fun e w' => e = .returned (.agg #[.int .u64 (fv (fi a))]) ∧ Below w.heap.size w w' := by
  refine ivP_of (fv a) (fv (fi a)) w fun w => ?_
  obtain ⟨k, hk⟩ : ∃ k : Nat, k = 2305843009213693949 := ⟨_, rfl⟩
  have := powP_any a.val k w (val_lt a) (by omega)
  rw [pow_fi a k (by omega)] at this
  rw [hk] at this
  exact this
end Go.Proofs.YtagnikeaellbiaaGreatDoor

namespace Go.Proofs.YtagnikeaellbiaaGreatDoor
open Go.RowKit M
set_option linter.unusedVariables false
set_option maxRecDepth 100000

/-- a contract: the call gives this number -/
def CalN (F : FuncId) (args : Array Value) (r : Int) : Prop := ∀ w : World, Calls Tryz.prog F args w fun e w' => e = .returned (.agg #[.int .u64 r]) ∧ Below w.heap.size w w'
section
variable {ev : Operand → Value} {w : World} {dst : Option Tmp} {ty : TypeId} {ps : String} {af : Array Edge} {gd : Option (Nat × Bool)} {x y : Operand} {b i : Nat}
theorem exec_call1 {F : FuncId} {at_ : Array TypeId} {u : Value} (hF : ev (.func F) = .func (.func F) #[] #[]) (hcf : ∀ (args : Array Value) (w : World), (callFunc F args).run Tryz.prog w = .ok (.enter F args) w) (hx : ev x = u) :
    (execOp ev { dst := dst, op := .call { callee := .value (.func F), args := #[x], argTypes := at_ }, type := ty, pos := ps, after := af, guard := gd }).run Tryz.prog w = .ok (.enter F #[u]) w := by
  simp [execOp, hx, hF, hcf, go_sem]
theorem exec_call2 {F : FuncId} {at_ : Array TypeId} {u v : Value} (hF : ev (.func F) = .func (.func F) #[] #[]) (hcf : ∀ (args : Array Value) (w : World), (callFunc F args).run Tryz.prog w = .ok (.enter F args) w) (hx : ev x = u) (hy : ev y = v) :
    (execOp ev { dst := dst, op := .call { callee := .value (.func F), args := #[x, y], argTypes := at_ }, type := ty, pos := ps, after := af, guard := gd }).run Tryz.prog w = .ok (.enter F #[u, v]) w := by
  simp [execOp, hx, hy, hF, hcf, go_sem]
theorem exec_call4 {F : FuncId} {at_ : Array TypeId} {x3 x4 : Operand} {u v u3 u4 : Value} (hF : ev (.func F) = .func (.func F) #[] #[]) (hcf : ∀ (args : Array Value) (w : World), (callFunc F args).run Tryz.prog w = .ok (.enter F args) w) (hx : ev x = u) (hy : ev y = v) (h3 : ev x3 = u3) (h4 : ev x4 = u4) :
    (execOp ev { dst := dst, op := .call { callee := .value (.func F), args := #[x, y, x3, x4], argTypes := at_ }, type := ty, pos := ps, after := af, guard := gd }).run Tryz.prog w = .ok (.enter F #[u, v, u3, u4]) w := by
  simp [execOp, hx, hy, h3, h4, hF, hcf, go_sem]
theorem exec_move {u : Value} (hx : ev x = u) :
    (execOp ev { dst := dst, op := .move x, type := ty, pos := ps, after := af, guard := gd }).run Tryz.prog w = .ok (.value u) w := by
  simp [execOp, hx, go_sem]
theorem exec_loadN {z : Int} (hx : ev x = .pointer (some ⟨b, i, none⟩)) (hc : w.cell? ⟨b, i, none⟩ = some (.int .u64 z)) :
    (execOp ev { dst := dst, op := .load 105 x, type := ty, pos := ps, after := af, guard := gd }).run Tryz.prog w = .ok (.value (.agg #[.int .u64 z])) w := by
  simp [execOp, hx, hc, go_sem]
theorem exec_load0 (hx : ev x = .pointer (some ⟨b, i, none⟩)) :
    (execOp ev { dst := dst, op := .load 103 x, type := ty, pos := ps, after := af, guard := gd }).run Tryz.prog w = .ok (.value (.agg #[])) w := by
  simp [execOp, hx, go_sem]
theorem exec_alloc : (execOp ev { dst := dst, op := .alloc 105, type := ty, pos := ps, after := af, guard := gd }).run Tryz.prog w = .ok (.value (.pointer (some ⟨w.heap.size, 0, none⟩))) (w.alloc (.cells #[.int .u64 0] 105)) := by
  simp [execOp, go_sem]
theorem exec_store {z z0 : Int} (hx : ev x = .pointer (some ⟨b, 0, none⟩)) (hy : ev y = .agg #[.int .u64 z]) (hr : R1 w b z0) :
    (execOp ev { dst := dst, op := .store 105 x y, type := ty, pos := ps, after := af, guard := gd }).run Tryz.prog w = .ok .skip (w.setCell ⟨b, 0, none⟩ (.int .u64 z)) := by
  have h1 := hr.cell
  have h2 := hr.frz
  simp [execOp, hx, hy, h1, h2, go_sem]
theorem cf_times (args : Array Value) (w : World) : (callFunc 60 args).run Tryz.prog w = .ok (.enter 60 args) w := by kernel_rfl
theorem cf_minus (args : Array Value) (w : World) : (callFunc 87 args).run Tryz.prog w = .ok (.enter 87 args) w := by kernel_rfl
theorem cf_plus (args : Array Value) (w : World) : (callFunc 89 args).run Tryz.prog w = .ok (.enter 89 args) w := by kernel_rfl
theorem cf_reduced (args : Array Value) (w : World) : (callFunc 88 args).run Tryz.prog w = .ok (.enter 88 args) w := by kernel_rfl
end

section
variable {A : Act} {w W0 : World} {dst : Option Tmp} {ty : TypeId} {ps : String} {af : Array Edge} {gd : Option (Nat × Bool)} {x y x3 x4 : Operand} {b i : Nat}
theorem do_call1 {F : FuncId} {at_ : Array TypeId} {u r : Value} (hcf : ∀ (args : Array Value) (w : World), (callFunc F args).run Tryz.prog w = .ok (.enter F args) w) (hx : A.eval x = u)
    (hc : Calls Tryz.prog F #[u] w fun e w' => e = .returned r ∧ Below w.heap.size w w') :
    Does Tryz.prog { dst := dst, op := .call { callee := .value (.func F), args := #[x], argTypes := at_ }, type := ty, pos := ps, after := af, guard := gd } A w fun v' w' => v' = r ∧ Below w.heap.size w w' :=
  does_call (exec_call1 rfl hcf hx) (hc.mono fun _ _ ⟨h, h'⟩ => ⟨r, h, rfl, h'⟩)
theorem do_call2 {F : FuncId} {at_ : Array TypeId} {u v r : Value} (hcf : ∀ (args : Array Value) (w : World), (callFunc F args).run Tryz.prog w = .ok (.enter F args) w) (hx : A.eval x = u) (hy : A.eval y = v)
    (hc : Calls Tryz.prog F #[u, v] w fun e w' => e = .returned r ∧ Below w.heap.size w w') :
    Does Tryz.prog { dst := dst, op := .call { callee := .value (.func F), args := #[x, y], argTypes := at_ }, type := ty, pos := ps, after := af, guard := gd } A w fun v' w' => v' = r ∧ Below w.heap.size w w' :=
  does_call (exec_call2 rfl hcf hx hy) (hc.mono fun _ _ ⟨h, h'⟩ => ⟨r, h, rfl, h'⟩)
theorem do_call4 {F : FuncId} {at_ : Array TypeId} {u v u3 u4 r : Value} (hcf : ∀ (args : Array Value) (w : World), (callFunc F args).run Tryz.prog w = .ok (.enter F args) w) (hx : A.eval x = u) (hy : A.eval y = v) (h3 : A.eval x3 = u3) (h4 : A.eval x4 = u4)
    (hc : Calls Tryz.prog F #[u, v, u3, u4] w fun e w' => e = .returned r ∧ Below w.heap.size w w') :
    Does Tryz.prog { dst := dst, op := .call { callee := .value (.func F), args := #[x, y, x3, x4], argTypes := at_ }, type := ty, pos := ps, after := af, guard := gd } A w fun v' w' => v' = r ∧ Below w.heap.size w w' :=
  does_call (exec_call4 rfl hcf hx hy h3 h4) (hc.mono fun _ _ ⟨h, h'⟩ => ⟨r, h, rfl, h'⟩)
theorem do_loadN {z : Int} (hx : A.eval x = .pointer (some ⟨b, 0, none⟩)) (hr : R1 W0 b z) (hB : Below W0.heap.size W0 w) :
    Does Tryz.prog { dst := dst, op := .load 105 x, type := ty, pos := ps, after := af, guard := gd } A w fun v' w' => v' = .agg #[.int .u64 z] ∧ Below w.heap.size w w' :=
  does_value (exec_loadN hx (hr.keep hB).cell) ⟨rfl, Below.refl _ _⟩
theorem do_loadC {z : Int} (hx : A.eval x = .pointer (some ⟨b, i, none⟩)) (hr : W0.cell? ⟨b, i, none⟩ = some (.int .u64 z)) (hB : Below W0.heap.size W0 w) :
    Does Tryz.prog { dst := dst, op := .load 105 x, type := ty, pos := ps, after := af, guard := gd } A w fun v' w' => v' = .agg #[.int .u64 z] ∧ Below w.heap.size w w' :=
  does_value (exec_loadN hx (keepC hr hB)) ⟨rfl, Below.refl _ _⟩
theorem do_load0 (hx : A.eval x = .pointer (some ⟨b, i, none⟩)) :
    Does Tryz.prog { dst := dst, op := .load 103 x, type := ty, pos := ps, after := af, guard := gd } A w fun v' w' => v' = .agg #[] ∧ Below w.heap.size w w' :=
  does_value (exec_load0 hx) ⟨rfl, Below.refl _ _⟩
set_option maxRecDepth 100000 in
theorem do_move {u : Value} (hx : A.eval x = u) :
    Does Tryz.prog { dst := dst, op := .move x, type := ty, pos := ps, after := af, guard := gd } A w fun v' w' => v' = u ∧ Below w.heap.size w w' := by
  have h := exec_move (ev := A.eval) (w := w) (dst := dst) (ty := ty) (ps := ps) (af := af) (gd := gd) hx
  exact does_value h ⟨rfl, Below.refl _ _⟩
set_option maxRecDepth 100000 in
theorem do_new : Does Tryz.prog { dst := dst, op := .alloc 105, type := ty, pos := ps, after := af, guard := gd } A w fun v w' => v = .pointer (some ⟨w.heap.size, 0, none⟩) ∧ w' = w.alloc (.cells #[.int .u64 0] 105) :=
  by
  have h := exec_alloc (ev := A.eval) (w := w) (dst := dst) (ty := ty) (ps := ps) (af := af) (gd := gd)
  exact does_value h ⟨rfl, rfl⟩
theorem do_put {z : Int} (hx : A.eval x = .pointer (some ⟨b, 0, none⟩)) (hy : A.eval y = .agg #[.int .u64 z]) (hr : w.heap[b]? = some (.cells #[.int .u64 0] 105)) :
    Does Tryz.prog { dst := dst, op := .store 105 x y, type := ty, pos := ps, after := af, guard := gd } A w fun _ w' => Turned b (.cells #[.int .u64 z] 105) w w' := by
  have h1 : R1 w b 0 := hr
  refine does_skip (exec_store hx hy h1) ⟨rfl, rfl, rfl, by simp [World.setCell], h1.set z, fun k hk => ?_⟩
  simp [World.setCell, Array.getElem?_modify, Ne.symm hk]
end
end Go.Proofs.YtagnikeaellbiaaGreatDoor

namespace Go.Proofs.YtagnikeaellbiaaGreatDoor
open Go.RowKit M
set_option linter.unusedVariables false
set_option maxRecDepth 100000

/-- a block that holds a triple -/
def T3 (W : World) (b : Nat) (x y z : Int) : Prop := W.heap[b]? = some (.cells #[.int .u64 x, .int .u64 y, .int .u64 z] 117)
section
variable {W W' : World} {b : Nat} {x y z : Int}
theorem T3.c0 (h : T3 W b x y z) : W.cell? ⟨b, 0, none⟩ = some (.int .u64 x) := by unfold T3 at h; simp [World.cell?, h]
theorem T3.c1 (h : T3 W b x y z) : W.cell? ⟨b, 1, none⟩ = some (.int .u64 y) := by unfold T3 at h; simp [World.cell?, h]
theorem T3.c2 (h : T3 W b x y z) : W.cell? ⟨b, 2, none⟩ = some (.int .u64 z) := by unfold T3 at h; simp [World.cell?, h]
theorem T3.frz (h : T3 W b x y z) (i : Nat) : W.frozen? ⟨b, i, none⟩ = false := by unfold T3 at h; simp [World.frozen?, h]
theorem T3.lt (h : T3 W b x y z) : b < W.heap.size := (Array.getElem?_eq_some_iff.1 h).1
theorem T3.below {N : Nat} (h : T3 W b x y z) (hb : Below N W W') (hl : b < N) : T3 W' b x y z := (hb.block b hl).trans h
theorem T3.keep (h : T3 W b x y z) (hb : Below W.heap.size W W') : T3 W' b x y z := h.below hb h.lt
theorem T3.new (w : World) (x y z : Int) : T3 (w.alloc (.cells #[.int .u64 x, .int .u64 y, .int .u64 z] 117)) w.heap.size x y z := heap_alloc_new w _
theorem T3.alloc (h : T3 W b x y z) (o : Obj) : T3 (W.alloc o) b x y z := (Below.heap_alloc W o b h.lt).trans h
theorem T3.drew (h : T3 W b x y z) : T3 W.drew b x y z := h
theorem T3.at {b' : Nat} (h : T3 W b x y z) (e : b = b') : T3 W b' x y z := e ▸ h
theorem T3.range (h : T3 W b x y z) : W.rangeAt b 0 [.int .u64 x, .int .u64 y, .int .u64 z] := fun j v hj => by
  match j, hj with
  | 0, hj => cases hj; exact h.c0
  | 1, hj => cases hj; exact h.c1
  | 2, hj => cases hj; exact h.c2
def setT (W : World) (b : Nat) (x y z : Int) : World := ((W.setCell ⟨b, 0, none⟩ (.int .u64 x)).setCell ⟨b, 1, none⟩ (.int .u64 y)).setCell ⟨b, 2, none⟩ (.int .u64 z)
theorem T3.set (h : T3 W b x y z) (x' y' z' : Int) : T3 (setT W b x' y' z') b x' y' z' := by
  unfold T3 setT at *
  simp [World.setCell, Array.getElem?_modify, h]
theorem T3.other {b' : Nat} (h : T3 W b x y z) (hne : b ≠ b') (x' y' z' : Int) : T3 (setT W b' x' y' z') b x y z := by
  unfold T3 setT at *
  rw [← h]
  simp [World.setCell, Array.getElem?_modify, Ne.symm hne]
theorem setT_below {N : Nat} {w : World} (h : Below N w W) (hb : N ≤ b) : Below N w (setT W b x y z) :=
  ((h.setCell (p := ⟨b, 0, none⟩) hb _).setCell (p := ⟨b, 1, none⟩) hb _).setCell (p := ⟨b, 2, none⟩) hb _
theorem trip_res {fn : Func} {p : Tmp} (h : fn.results = #[.cell p 117]) (tmps : Array Value) (hp : tmps.getD p undef = .pointer (some ⟨b, 0, none⟩)) (hc : T3 W b x y z) :
    (results fn tmps).run Tryz.prog W = .ok (.agg #[.int .u64 x, .int .u64 y, .int .u64 z]) W :=
  results_mid h tmps W b 0 [.int .u64 x, .int .u64 y, .int .u64 z] _ hp hc.range Tryz.underlying117 rfl (by kernel_rfl)
end

section
variable {ev : Operand → Value} {w : World} {dst : Option Tmp} {ty : TypeId} {ps : String} {af : Array Edge} {gd : Option (Nat × Bool)} {x y : Operand} {b i : Nat}
theorem exec_idx {k : Nat} (hk : k < 3) (hx : ev x = .pointer (some ⟨b, 0, none⟩)) (hy : ev (.const (.int .i64 (k : Int))) = .int .i64 (k : Int)) :
    (execOp ev { dst := dst, op := .indexAddr 117 x (.const (.int .i64 (k : Int))), type := ty, pos := ps, after := af, guard := gd }).run Tryz.prog w = .ok (.value (.pointer (some ⟨b, k, none⟩))) w := by
  have h1 : (0 : Int) ≤ (k : Int) := by omega
  have h2 : (k : Int) < 3 := by omega
  simp [execOp, hx, hy, h2, go_sem]
theorem exec_idxT {k : Nat} (hk : k < 3) (hx : ev x = .pointer (some ⟨b, 0, none⟩)) (hy : ev y = .int .i64 (k : Int)) :
    (execOp ev { dst := dst, op := .indexAddr 117 x y, type := ty, pos := ps, after := af, guard := gd }).run Tryz.prog w = .ok (.value (.pointer (some ⟨b, k, none⟩))) w := by
  have h2 : (k : Int) < 3 := by omega
  simp [execOp, hx, hy, h2, go_sem]
theorem exec_loadT {X Y Z : Int} (hx : ev x = .pointer (some ⟨b, 0, none⟩)) (h0 : w.cell? ⟨b, 0, none⟩ = some (.int .u64 X)) (h1 : w.cell? ⟨b, 1, none⟩ = some (.int .u64 Y)) (h2 : w.cell? ⟨b, 2, none⟩ = some (.int .u64 Z)) :
    (execOp ev { dst := dst, op := .load 117 x, type := ty, pos := ps, after := af, guard := gd }).run Tryz.prog w = .ok (.value (.agg #[.int .u64 X, .int .u64 Y, .int .u64 Z])) w := by
  simp [execOp, hx, h0, h1, h2, go_sem]
theorem exec_storeT {X Y Z X0 Y0 Z0 : Int} (hx : ev x = .pointer (some ⟨b, 0, none⟩)) (hy : ev y = .agg #[.int .u64 X, .int .u64 Y, .int .u64 Z]) (hr : T3 w b X0 Y0 Z0) :
    (execOp ev { dst := dst, op := .store 117 x y, type := ty, pos := ps, after := af, guard := gd }).run Tryz.prog w = .ok .skip (setT w b X Y Z) := by
  have h1 := hr.c0
  have h2 := hr.c1
  have h3 := hr.c2
  have h4 := hr.frz
  simp [execOp, hx, hy, h1, h2, h3, h4, go_sem, setT]
theorem exec_build3 {x3 : Operand} {X Y Z : Int} (hx : ev x = .agg #[.int .u64 X]) (hy : ev y = .agg #[.int .u64 Y]) (hz : ev x3 = .agg #[.int .u64 Z]) :
    (execOp ev { dst := dst, op := .build 117 #[(0, x), (1, y), (2, x3)], type := ty, pos := ps, after := af, guard := gd }).run Tryz.prog w = .ok (.value (.agg #[.int .u64 X, .int .u64 Y, .int .u64 Z])) w := by
  simp [execOp, hx, hy, hz, go_sem]
theorem cf_crossed (args : Array Value) (w : World) : (callFunc 103 args).run Tryz.prog w = .ok (.enter 103 args) w := by kernel_rfl
end

section
variable {A : Act} {w W0 : World} {dst : Option Tmp} {ty : TypeId} {ps : String} {af : Array Edge} {gd : Option (Nat × Bool)} {x y x3 x4 : Operand} {b i : Nat}
theorem do_loadT {X Y Z : Int} (hx : A.eval x = .pointer (some ⟨b, 0, none⟩)) (hr : T3 W0 b X Y Z) (hB : Below W0.heap.size W0 w) :
    Does Tryz.prog { dst := dst, op := .load 117 x, type := ty, pos := ps, after := af, guard := gd } A w fun v' w' => v' = .agg #[.int .u64 X, .int .u64 Y, .int .u64 Z] ∧ Below w.heap.size w w' :=
  does_value (exec_loadT hx (hr.keep hB).c0 (hr.keep hB).c1 (hr.keep hB).c2) ⟨rfl, Below.refl _ _⟩
set_option maxRecDepth 100000 in
theorem do_idx {k : Nat} (hk : k < 3) (hx : A.eval x = .pointer (some ⟨b, 0, none⟩)) :
    Does Tryz.prog { dst := dst, op := .indexAddr 117 x (.const (.int .i64 (k : Int))), type := ty, pos := ps, after := af, guard := gd } A w fun v' w' => v' = .pointer (some ⟨b, k, none⟩) ∧ Below w.heap.size w w' :=
  by
  have h := exec_idx (ev := A.eval) (w := w) (dst := dst) (ty := ty) (ps := ps) (af := af) (gd := gd) hk hx rfl
  exact does_value h ⟨rfl, Below.refl _ _⟩
set_option maxRecDepth 100000 in
theorem do_idxT {k : Nat} (hk : k < 3) (hx : A.eval x = .pointer (some ⟨b, 0, none⟩)) (hy : A.eval y = .int .i64 (k : Int)) :
    Does Tryz.prog { dst := dst, op := .indexAddr 117 x y, type := ty, pos := ps, after := af, guard := gd } A w fun v' w' => v' = .pointer (some ⟨b, k, none⟩) ∧ Below w.heap.size w w' := by
  have h := exec_idxT (ev := A.eval) (w := w) (dst := dst) (ty := ty) (ps := ps) (af := af) (gd := gd) hk hx hy
  exact does_value h ⟨rfl, Below.refl _ _⟩
set_option maxRecDepth 100000 in
theorem do_build {X Y Z : Int} (hx : A.eval x = .agg #[.int .u64 X]) (hy : A.eval y = .agg #[.int .u64 Y]) (hz : A.eval x3 = .agg #[.int .u64 Z]) :
    Does Tryz.prog { dst := dst, op := .build 117 #[(0, x), (1, y), (2, x3)], type := ty, pos := ps, after := af, guard := gd } A w fun v' w' => v' = .agg #[.int .u64 X, .int .u64 Y, .int .u64 Z] ∧ Below w.heap.size w w' := by
  have h := exec_build3 (w := w) (dst := dst) (ty := ty) (ps := ps) (af := af) (gd := gd) hx hy hz
  exact does_value h ⟨rfl, Below.refl _ _⟩
end
end Go.Proofs.YtagnikeaellbiaaGreatDoor
