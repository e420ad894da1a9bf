import Derived.Test.YtjmhmajfkdglnaaGreatDoorMrg16
import Derived.Test.YtjmhmajfkdglnaaGreatDoorMrg0
import Derived.Test.YtjmhmajfkdglnaaGreatDoorProg
import Derived.Deep.MidRow
import Derived.Test.YtjmhmajfkdglnaaGreatDoorMrg14
import Derived.Test.YtjmhmajfkdglnaaGreatDoorMrg3
import Derived.Test.YtjmhmajfkdglnaaGreatDoorChecked
import Derived.WalkKit
import Derived.ProofKit
import Derived.WalkSpells
import Derived.WalkLawsBesides
import Derived.Outline
import Derived.Laws.BytesArg
set_option linter.unusedVariables false
set_option maxRecDepth 100000
set_option maxHeartbeats 16000000
namespace Go.Proofs.YtjmhmajfkdglnaaGreatDoor
open Go.RowKit M
def px : Pt → Int
  | none => 0
  | some (x, _) => fv x
def py : Pt → Int
  | none => 0
  | some (_, y) => fv y
def pb : Pt → Bool
  | none => true
  | some _ => false
theorem ptW_eq : ∀ p, ptW p = .agg #[.int .u64 (px p), .int .u64 (py p), .bool (pb p)]
  | none => rfl
  | some (_, _) => rfl
theorem sumS_xyz (p q : Pt) (w : World) :
    Calls Tryz.prog 42 #[.agg #[.int .u64 (px p), .int .u64 (py p), .bool (pb p)], .agg #[.int .u64 (px q), .int .u64 (py q), .bool (pb q)]] w fun e w' => e = .returned (.agg #[.int .u64 (px (ad p q)), .int .u64 (py (ad p q)), .bool (pb (ad p q))]) ∧ Below w.heap.size w w' := by
  have := sumS_any p q w
  rwa [ptW_eq, ptW_eq, ptW_eq] at this
def R3 (W : World) (b : Nat) (x y : Int) (c : Bool) : Prop := W.heap[b]? = some (.cells #[.int .u64 x, .int .u64 y, .bool c] 28)
variable {W W' : World} {b : Nat} {x y : Int} {c : Bool}
theorem R3.c0 (h : R3 W b x y c) : W.cell? ⟨b, 0, none⟩ = some (.int .u64 x) := by unfold R3 at h; simp [World.cell?, h]
theorem R3.c1 (h : R3 W b x y c) : W.cell? ⟨b, 1, none⟩ = some (.int .u64 y) := by unfold R3 at h; simp [World.cell?, h]
theorem R3.c2 (h : R3 W b x y c) : W.cell? ⟨b, 2, none⟩ = some (.bool c) := by unfold R3 at h; simp [World.cell?, h]
theorem R3.frz (h : R3 W b x y c) (i : Nat) : W.frozen? ⟨b, i, none⟩ = false := by unfold R3 at h; simp [World.frozen?, h]
theorem R3.lt (h : R3 W b x y c) : b < W.heap.size := (Array.getElem?_eq_some_iff.1 h).1
theorem R3.below {N : Nat} (h : R3 W b x y c) (hb : Below N W W') (hl : b < N) : R3 W' b x y c := (hb.block b hl).trans h
theorem R3.new (w : World) (x y : Int) (c : Bool) : R3 (w.alloc (.cells #[.int .u64 x, .int .u64 y, .bool c] 28)) w.heap.size x y c := heap_alloc_new w _
theorem R3.alloc (h : R3 W b x y c) (o : Obj) : R3 (W.alloc o) b x y c := (Below.heap_alloc W o b h.lt).trans h
theorem R3.at {b' : Nat} (h : R3 W b x y c) (e : b = b') : R3 W b' x y c := e ▸ h
theorem R3.range (h : R3 W b x y c) : W.rangeAt b 0 [.int .u64 x, .int .u64 y, .bool c] := fun j v hj => by
  match j, hj with
  | 0, hj => cases hj; exact h.c0
  | 1, hj => cases hj; exact h.c1
  | 2, hj => cases hj; exact h.c2
theorem R3.set (h : R3 W b x y c) (x' y' : Int) (c' : Bool) : R3 (set3 W b x' y' c') b x' y' c' := by
  unfold R3 set3 at *
  simp [World.setCell, Array.getElem?_modify, h]
theorem R3.other {b' : Nat} (h : R3 W b x y c) (hne : b ≠ b') (x' y' : Int) (c' : Bool) : R3 (set3 W b' x' y' c') b x y c := by
  unfold R3 set3 at *
  rw [setCell_heap3 _ _ _ _ _ hne, setCell_heap3 _ _ _ _ _ hne, setCell_heap3 _ _ _ _ _ hne]; exact h
theorem point_res {fn : Func} {p : Tmp} (h : fn.results = #[.cell p 28]) (tmps : Array Value) (hp : tmps.getD p undef = .pointer (some ⟨b, 0, none⟩)) (hc : R3 W b x y c) :
    (results fn tmps).run Tryz.prog W = .ok (.agg #[.int .u64 x, .int .u64 y, .bool c]) W :=
  results_mid h tmps W b 0 [.int .u64 x, .int .u64 y, .bool c] _ hp hc.range Tryz.underlying28 rfl (by kernel_rfl)
end Go.Proofs.YtjmhmajfkdglnaaGreatDoor
namespace Go.Proofs.YtjmhmajfkdglnaaGreatDoor
open Go.RowKit
def Bk (W : World) (t : TypeId) (b : Nat) (cs : Array Value) : Prop := W.heap[b]? = some (.cells cs t)
section
variable {W W' : World} {t : TypeId} {b : Nat} {cs : Array Value}
theorem Bk.cell (h : Bk W t b cs) {k : Nat} {v : Value} (hk : cs[k]? = some v) : W.cell? ⟨b, k, none⟩ = some v := by
  rw [cell_of_row _ _ _ _ _ _ h]; exact hk
theorem Bk.frz (h : Bk W t b cs) (i : Nat) : W.frozen? ⟨b, i, none⟩ = false := by unfold Bk at h; simp [World.frozen?, h]
theorem Bk.lt (h : Bk W t b cs) : b < W.heap.size := (Array.getElem?_eq_some_iff.1 h).1
theorem Bk.keep (h : Bk W t b cs) (hb : Below W.heap.size W W') : Bk W' t b cs := (hb.block b h.lt).trans h
theorem Bk.new (w : World) (t : TypeId) (cs : Array Value) : Bk (w.alloc (.cells cs t)) t w.heap.size cs := heap_alloc_new w _
theorem Bk.alloc (h : Bk W t b cs) (o : Obj) : Bk (W.alloc o) t b cs := (Below.heap_alloc W o b h.lt).trans h
theorem Bk.drew (h : Bk W t b cs) : Bk W.drew t b cs := h
theorem Bk.at {b' : Nat} (h : Bk W t b cs) (e : b = b') : Bk W t b' cs := e ▸ h
theorem Bk.range (h : Bk W t b cs) : W.rangeAt b 0 cs.toList := fun j v hj => by
  rw [Nat.zero_add]
  exact h.cell (by rw [← hj, Array.getElem?_toList])
theorem Bk.set (h : Bk W t b cs) (i : Nat) (v : Value) : Bk (W.setCell ⟨b, i, none⟩ v) t b (cs.setIfInBounds i v) := by
  unfold Bk at *
  simp [World.setCell, Array.getElem?_modify, h]
theorem Bk.there (h : Bk W t b cs) (n : Nat) (hn : n ≤ cs.size) : W.there b 0 n := fun j hj => by
  rw [Nat.zero_add]
  exact ⟨by rw [h.cell (v := cs[j]'(by omega)) (Array.getElem?_eq_getElem (by omega))]; rfl, h.frz j⟩
theorem bk_res1 {fn : Func} {p : Tmp} {d : TypeDesc} (h : fn.results = #[.cell p t]) (tmps : Array Value) (hp : tmps.getD p undef = .pointer (some ⟨b, 0, none⟩)) (hc : Bk W t b cs) (hu : Tryz.prog.underlying t = some d) (hd : d.isRow = true) (hi : (Tryz.prog.info? t).map (·.size) = some cs.size) :
    (results fn tmps).run Tryz.prog W = .ok (.agg cs) W := by
  have hp' : tmps[p]?.getD undef = .pointer (some ⟨b, 0, none⟩) := by simpa using hp
  have hl := run_loadVar_mid (P := Tryz.prog) W b 0 t cs.toList d hc.range hu hd (by rw [hi, Array.length_toList])
  simp [results, h, hp', asAddr, hl]
theorem bk_res2 {fn : Func} {p u : Tmp} {d : TypeDesc} (h : fn.results = #[.cell p t, .tmp u]) (tmps : Array Value) (hp : tmps.getD p undef = .pointer (some ⟨b, 0, none⟩)) (hc : Bk W t b cs) (hu : Tryz.prog.underlying t = some d) (hd : d.isRow = true) (hi : (Tryz.prog.info? t).map (·.size) = some cs.size) :
    (results fn tmps).run Tryz.prog W = .ok (.tuple #[.agg cs, tmps.getD u undef]) W := by
  have hp' : tmps[p]?.getD undef = .pointer (some ⟨b, 0, none⟩) := by simpa using hp
  have hl := run_loadVar_mid (P := Tryz.prog) W b 0 t cs.toList d hc.range hu hd (by rw [hi, Array.length_toList])
  simp [results, h, hp', asAddr, hl]
end
section
variable {A : Act} {w : World} {dst : Option Tmp} {ty : TypeId} {ps : String} {af : Array Edge} {gd : Option (Nat × Bool)} {x y : Operand} {b i : Nat}
theorem ld_pro {v0 v1 v2 v3 v4 v5 v6 v7 v8 : Value} (hx : A.eval x = .pointer (some ⟨b, i, none⟩)) (h0 : w.cell? ⟨b, i, none⟩ = some v0) (h1 : w.cell? ⟨b, i + 1, none⟩ = some v1) (h2 : w.cell? ⟨b, i + 2, none⟩ = some v2) (h3 : w.cell? ⟨b, i + 3, none⟩ = some v3) (h4 : w.cell? ⟨b, i + 4, none⟩ = some v4) (h5 : w.cell? ⟨b, i + 5, none⟩ = some v5) (h6 : w.cell? ⟨b, i + 6, none⟩ = some v6) (h7 : w.cell? ⟨b, i + 7, none⟩ = some v7) (h8 : w.cell? ⟨b, i + 8, none⟩ = some v8) :
    Does Tryz.prog { dst := dst, op := .load 144 x, type := ty, pos := ps, after := af, guard := gd } A w fun v' w' => v' = .agg #[v0, v1, v2, v3, v4, v5, v6, v7, v8] ∧ Below w.heap.size w w' := by
  have h : (execOp A.eval { dst := dst, op := .load 144 x, type := ty, pos := ps, after := af, guard := gd }).run Tryz.prog w = .ok (.value (.agg #[v0, v1, v2, v3, v4, v5, v6, v7, v8])) w := by generalize A.eval = ev at *; simp [execOp, hx, h0, h1, h2, h3, h4, h5, h6, h7, h8, go_sem]
  exact does_value h ⟨rfl, Below.refl _ _⟩
theorem ld_set {v0 v1 : Value} (hx : A.eval x = .pointer (some ⟨b, i, none⟩)) (h0 : w.cell? ⟨b, i, none⟩ = some v0) (h1 : w.cell? ⟨b, i + 1, none⟩ = some v1) :
    Does Tryz.prog { dst := dst, op := .load 133 x, type := ty, pos := ps, after := af, guard := gd } A w fun v' w' => v' = .agg #[v0, v1] ∧ Below w.heap.size w w' := by
  have h : (execOp A.eval { dst := dst, op := .load 133 x, type := ty, pos := ps, after := af, guard := gd }).run Tryz.prog w = .ok (.value (.agg #[v0, v1])) w := by generalize A.eval = ev at *; simp [execOp, hx, h0, h1, go_sem]
  exact does_value h ⟨rfl, Below.refl _ _⟩
theorem ld_err {v0 : Value} (hx : A.eval x = .pointer (some ⟨b, i, none⟩)) (h0 : w.cell? ⟨b, i, none⟩ = some v0) :
    Does Tryz.prog { dst := dst, op := .load 76 x, type := ty, pos := ps, after := af, guard := gd } A w fun v' w' => v' = v0 ∧ Below w.heap.size w w' := by
  have h : (execOp A.eval { dst := dst, op := .load 76 x, type := ty, pos := ps, after := af, guard := gd }).run Tryz.prog w = .ok (.value (v0)) w := by generalize A.eval = ev at *; simp [execOp, hx, h0, go_sem]
  exact does_value h ⟨rfl, Below.refl _ _⟩
theorem ld_str {v0 : Value} (hx : A.eval x = .pointer (some ⟨b, i, none⟩)) (h0 : w.cell? ⟨b, i, none⟩ = some v0) :
    Does Tryz.prog { dst := dst, op := .load 9 x, type := ty, pos := ps, after := af, guard := gd } A w fun v' w' => v' = v0 ∧ Below w.heap.size w w' := by
  have h : (execOp A.eval { dst := dst, op := .load 9 x, type := ty, pos := ps, after := af, guard := gd }).run Tryz.prog w = .ok (.value (v0)) w := by generalize A.eval = ev at *; simp [execOp, hx, h0, go_sem]
  exact does_value h ⟨rfl, Below.refl _ _⟩
theorem ld_fn6 {v0 : Value} (hx : A.eval x = .pointer (some ⟨b, i, none⟩)) (h0 : w.cell? ⟨b, i, none⟩ = some v0) :
    Does Tryz.prog { dst := dst, op := .load 140 x, type := ty, pos := ps, after := af, guard := gd } A w fun v' w' => v' = v0 ∧ Below w.heap.size w w' := by
  have h : (execOp A.eval { dst := dst, op := .load 140 x, type := ty, pos := ps, after := af, guard := gd }).run Tryz.prog w = .ok (.value (v0)) w := by generalize A.eval = ev at *; simp [execOp, hx, h0, go_sem]
  exact does_value h ⟨rfl, Below.refl _ _⟩
theorem fa_pro0 (hx : A.eval x = .pointer (some ⟨b, i, none⟩)) :
    Does Tryz.prog { dst := dst, op := .fieldAddr 144 x 0, type := ty, pos := ps, after := af, guard := gd } A w fun v' w' => v' = .pointer (some ⟨b, i, none⟩) ∧ Below w.heap.size w w' := by
  have h : (execOp A.eval { dst := dst, op := .fieldAddr 144 x 0, type := ty, pos := ps, after := af, guard := gd }).run Tryz.prog w = .ok (.value (.pointer (some ⟨b, i, none⟩))) w := by generalize A.eval = ev at *; simp [execOp, hx, go_sem]
  exact does_value h ⟨rfl, Below.refl _ _⟩
theorem fa_pro1 (hx : A.eval x = .pointer (some ⟨b, i, none⟩)) :
    Does Tryz.prog { dst := dst, op := .fieldAddr 144 x 1, type := ty, pos := ps, after := af, guard := gd } A w fun v' w' => v' = .pointer (some ⟨b, i + 2, none⟩) ∧ Below w.heap.size w w' := by
  have h : (execOp A.eval { dst := dst, op := .fieldAddr 144 x 1, type := ty, pos := ps, after := af, guard := gd }).run Tryz.prog w = .ok (.value (.pointer (some ⟨b, i + 2, none⟩))) w := by generalize A.eval = ev at *; simp [execOp, hx, go_sem]
  exact does_value h ⟨rfl, Below.refl _ _⟩
theorem fa_rul6 (hx : A.eval x = .pointer (some ⟨b, i, none⟩)) :
    Does Tryz.prog { dst := dst, op := .fieldAddr 142 x 6, type := ty, pos := ps, after := af, guard := gd } A w fun v' w' => v' = .pointer (some ⟨b, i + 6, none⟩) ∧ Below w.heap.size w w' := by
  have h : (execOp A.eval { dst := dst, op := .fieldAddr 142 x 6, type := ty, pos := ps, after := af, guard := gd }).run Tryz.prog w = .ok (.value (.pointer (some ⟨b, i + 6, none⟩))) w := by generalize A.eval = ev at *; simp [execOp, hx, go_sem]
  exact does_value h ⟨rfl, Below.refl _ _⟩
theorem fa_set0 (hx : A.eval x = .pointer (some ⟨b, i, none⟩)) :
    Does Tryz.prog { dst := dst, op := .fieldAddr 133 x 0, type := ty, pos := ps, after := af, guard := gd } A w fun v' w' => v' = .pointer (some ⟨b, i, none⟩) ∧ Below w.heap.size w w' := by
  have h : (execOp A.eval { dst := dst, op := .fieldAddr 133 x 0, type := ty, pos := ps, after := af, guard := gd }).run Tryz.prog w = .ok (.value (.pointer (some ⟨b, i, none⟩))) w := by generalize A.eval = ev at *; simp [execOp, hx, go_sem]
  exact does_value h ⟨rfl, Below.refl _ _⟩
theorem fa_set1 (hx : A.eval x = .pointer (some ⟨b, i, none⟩)) :
    Does Tryz.prog { dst := dst, op := .fieldAddr 133 x 1, type := ty, pos := ps, after := af, guard := gd } A w fun v' w' => v' = .pointer (some ⟨b, i + 1, none⟩) ∧ Below w.heap.size w w' := by
  have h : (execOp A.eval { dst := dst, op := .fieldAddr 133 x 1, type := ty, pos := ps, after := af, guard := gd }).run Tryz.prog w = .ok (.value (.pointer (some ⟨b, i + 1, none⟩))) w := by generalize A.eval = ev at *; simp [execOp, hx, go_sem]
  exact does_value h ⟨rfl, Below.refl _ _⟩
theorem fa_bld1 (hx : A.eval x = .pointer (some ⟨b, i, none⟩)) :
    Does Tryz.prog { dst := dst, op := .fieldAddr 30 x 1, type := ty, pos := ps, after := af, guard := gd } A w fun v' w' => v' = .pointer (some ⟨b, i + 3, none⟩) ∧ Below w.heap.size w w' := by
  have h : (execOp A.eval { dst := dst, op := .fieldAddr 30 x 1, type := ty, pos := ps, after := af, guard := gd }).run Tryz.prog w = .ok (.value (.pointer (some ⟨b, i + 3, none⟩))) w := by generalize A.eval = ev at *; simp [execOp, hx, go_sem]
  exact does_value h ⟨rfl, Below.refl _ _⟩
theorem not_b {c : Bool} (hx : A.eval x = .bool c) :
    Does Tryz.prog { dst := dst, op := .unOp .not 4 x, type := ty, pos := ps, after := af, guard := gd } A w fun v' w' => v' = .bool (!c) ∧ Below w.heap.size w w' := by
  have h : (execOp A.eval { dst := dst, op := .unOp .not 4 x, type := ty, pos := ps, after := af, guard := gd }).run Tryz.prog w = .ok (.value (.bool (!c))) w := by generalize A.eval = ev at *; simp [execOp, hx, go_sem]
  exact does_value h ⟨rfl, Below.refl _ _⟩
theorem bu0_nN : Does Tryz.prog { dst := dst, op := .build 117 #[], type := ty, pos := ps, after := af, guard := gd } A w fun v' w' => v' = .agg #[.int .u64 0] ∧ Below w.heap.size w w' := by
  have h : (execOp A.eval { dst := dst, op := .build 117 #[], type := ty, pos := ps, after := af, guard := gd }).run Tryz.prog w = .ok (.value (.agg #[.int .u64 0])) w := by generalize A.eval = ev at *; simp [execOp, go_sem]
  exact does_value h ⟨rfl, Below.refl _ _⟩
theorem bu0_pro : Does Tryz.prog { dst := dst, op := .build 144 #[], type := ty, pos := ps, after := af, guard := gd } A w fun v' w' => v' = .agg #[.string ⟨#[]⟩, .string ⟨#[]⟩, .nilFunc, .nilFunc, .nilFunc, .nilFunc, .nilFunc, .nilFunc, .nilFunc] ∧ Below w.heap.size w w' := by
  have h : (execOp A.eval { dst := dst, op := .build 144 #[], type := ty, pos := ps, after := af, guard := gd }).run Tryz.prog w = .ok (.value (.agg #[.string ⟨#[]⟩, .string ⟨#[]⟩, .nilFunc, .nilFunc, .nilFunc, .nilFunc, .nilFunc, .nilFunc, .nilFunc])) w := by generalize A.eval = ev at *; simp [execOp, go_sem]
  exact does_value h ⟨rfl, Below.refl _ _⟩
theorem bu_flt {s : ByteArray} {a : Addr} (hx : A.eval x = .string s) (hy : A.eval y = sen a) :
    Does Tryz.prog { dst := dst, op := .build 150 #[(0, x), (1, y)], type := ty, pos := ps, after := af, guard := gd } A w fun v' w' => v' = .agg #[.string s, sen a] ∧ Below w.heap.size w w' := by
  have h : (execOp A.eval { dst := dst, op := .build 150 #[(0, x), (1, y)], type := ty, pos := ps, after := af, guard := gd }).run Tryz.prog w = .ok (.value (.agg #[.string s, sen a])) w := by generalize A.eval = ev at *; simp [execOp, hx, hy, sen, go_sem]
  exact does_value h ⟨rfl, Below.refl _ _⟩
theorem mi_flt {u : Value} (hx : A.eval x = u) :
    Does Tryz.prog { dst := dst, op := .makeInterface 150 x, type := ty, pos := ps, after := af, guard := gd } A w fun v' w' => v' = .iface 150 u ∧ Below w.heap.size w w' := by
  have h : (execOp A.eval { dst := dst, op := .makeInterface 150 x, type := ty, pos := ps, after := af, guard := gd }).run Tryz.prog w = .ok (.value (.iface 150 u)) w := by generalize A.eval = ev at *; simp [execOp, hx, go_sem]
  exact does_value h ⟨rfl, Below.refl _ _⟩
theorem fl_cp0 {a b' : Int} {c : Bool} (hx : A.eval x = .agg #[.int .u64 a, .int .u64 b', .bool c]) :
    Does Tryz.prog { dst := dst, op := .field 106 x 0, type := ty, pos := ps, after := af, guard := gd } A w fun v' w' => v' = .agg #[.int .u64 a, .int .u64 b', .bool c] ∧ Below w.heap.size w w' := by
  have h : (execOp A.eval { dst := dst, op := .field 106 x 0, type := ty, pos := ps, after := af, guard := gd }).run Tryz.prog w = .ok (.value (.agg #[.int .u64 a, .int .u64 b', .bool c])) w := by generalize A.eval = ev at *; simp [execOp, hx, fldK, go_sem]
  exact does_value h ⟨rfl, Below.refl _ _⟩
theorem cv1 {F : FuncId} {at_ : Array TypeId} {r : Value} {x0 : Operand} {u0 : Value} (hcf : ∀ (args : Array Value) (w : World), (callFunc F args).run Tryz.prog w = .ok (.enter F args) w) (hF : A.eval x = .func (.func F) #[] #[]) (h0 : A.eval x0 = u0)
    (hc : Calls Tryz.prog F #[u0] w fun e w' => e = .returned r ∧ Below w.heap.size w w') :
    Does Tryz.prog { dst := dst, op := .call { callee := .value x, args := #[x0], argTypes := at_ }, type := ty, pos := ps, after := af, guard := gd } A w fun v' w' => v' = r ∧ Below w.heap.size w w' := by
  have h : (execOp A.eval { dst := dst, op := .call { callee := .value x, args := #[x0], argTypes := at_ }, type := ty, pos := ps, after := af, guard := gd }).run Tryz.prog w = .ok (.enter F #[u0]) w := by generalize A.eval = ev at *; simp [execOp, hF, hcf, h0, go_sem]
  exact does_call h (hc.mono fun _ _ ⟨h, h'⟩ => ⟨r, h, rfl, h'⟩)
theorem cw1 {F : FuncId} {at_ : Array TypeId} {Fv : Nat → Value} {R : Nat → World → Prop} {x0 : Operand} {u0 : Value} (hcf : ∀ (args : Array Value) (w : World), (callFunc F args).run Tryz.prog w = .ok (.enter F args) w) (hF : A.eval x = .func (.func F) #[] #[]) (h0 : A.eval x0 = u0)
    (hc : Calls Tryz.prog F #[u0] w fun e w' => ∃ x, e = .returned (Fv x) ∧ R x w' ∧ Below w.heap.size w w') :
    Does Tryz.prog { dst := dst, op := .call { callee := .value x, args := #[x0], argTypes := at_ }, type := ty, pos := ps, after := af, guard := gd } A w fun v' w' => ∃ x, v' = Fv x ∧ R x w' ∧ Below w.heap.size w w' := by
  have h : (execOp A.eval { dst := dst, op := .call { callee := .value x, args := #[x0], argTypes := at_ }, type := ty, pos := ps, after := af, guard := gd }).run Tryz.prog w = .ok (.enter F #[u0]) w := by generalize A.eval = ev at *; simp [execOp, hF, hcf, h0, go_sem]
  exact does_call h (hc.mono fun _ _ ⟨x, h, h'⟩ => ⟨Fv x, h, x, rfl, h'⟩)
theorem eq_cpz {p : M.Pt} (hx : A.eval x = .agg #[.int .u64 (px p), .int .u64 (py p), .bool (pb p)]) (hy : A.eval y = .agg #[.int .u64 0, .int .u64 0, .bool true]) :
    Does Tryz.prog { dst := dst, op := .binOp .eql 106 x y 106, type := ty, pos := ps, after := af, guard := gd } A w fun v' w' => v' = .bool (pb p) ∧ Below w.heap.size w w' := by
  have h : (execOp A.eval { dst := dst, op := .binOp .eql 106 x y 106, type := ty, pos := ps, after := af, guard := gd }).run Tryz.prog w = .ok (.value (.bool (pb p))) w := by
    generalize A.eval = ev at *
    rcases p with _ | ⟨X, Y⟩ <;> simp only [px, py, pb] at hx ⊢ <;> simp [execOp, hx, hy, go_sem]
  exact does_value h ⟨rfl, Below.refl _ _⟩
theorem setCells_full (b : Nat) (T : TypeId) : ∀ (vs : List Value) (o : Nat) (w : World) (cs : List Value), w.heap[b]? = some (.cells cs.toArray T) → o + vs.length ≤ cs.length → (w.setCells b o vs).heap[b]? = some (.cells (cs.take o ++ vs ++ cs.drop (o + vs.length)).toArray T)
  | [], o, w, cs, h, hl => by simpa [World.setCells] using h
  | v :: r, o, w, cs, h, hl => by
    rw [World.setCells]
    have h1 : (w.setCell ⟨b, o, none⟩ v).heap[b]? = some (.cells (cs.set o v).toArray T) := by simp [World.setCell, Array.getElem?_modify, h]
    simp only [List.length_cons] at hl
    rw [setCells_full b T r (o + 1) _ _ h1 (by simp; omega)]
    congr 3
    rw [List.take_set, List.drop_set_of_lt (by omega), List.take_add_one, List.getElem?_eq_getElem (by omega)]
    simp only [Option.toList_some, List.length_cons]
    rw [List.set_append_right _ _ (by simp; omega)]
    simp [show min o cs.length = o by omega, show o + 1 + r.length = o + (r.length + 1) by omega]
theorem pu_any {T T' : TypeId} {cs0 cs : Array Value} (hx : A.eval x = .pointer (some ⟨b, 0, none⟩)) (hy : A.eval y = .agg cs) (hr : w.heap[b]? = some (.cells cs0 T')) (hl : cs.size = cs0.size) (hi : (Tryz.prog.info? T).map (·.size) = some cs.size) (h1 : cs.all (·.oneCell') = true) :
    Does Tryz.prog { dst := dst, op := .store T x y, type := ty, pos := ps, after := af, guard := gd } A w fun _ w' => Turned b (.cells cs T') w w' := by
  have ht : w.there b 0 cs.size := fun j hj => by
    rw [Nat.zero_add]
    exact ⟨by rw [cell_of_row _ _ _ _ _ _ hr, Array.getElem?_eq_getElem (by omega)]; rfl, by simp [World.frozen?, hr]⟩
  have h : (execOp A.eval { dst := dst, op := .store T x y, type := ty, pos := ps, after := af, guard := gd }).run Tryz.prog w = .ok .skip (w.setCells b 0 cs.toList) := by
    unfold execOp
    simp only [hx, hy, Instr.storeAt, Instr.sureAddr, Sem.run_bind, Sem.run_pure, Result.andThen_ok, run_storeVar_mid w b 0 T cs ht hi h1]
  refine does_skip h ⟨World.os_setCells w b 0 _, setCells_tape b _ 0 w, World.output_setCells w b 0 _, setCells_size b _ 0 w, ?_, fun k hk => ?_⟩
  · have := setCells_full b T' cs.toList 0 w cs0.toList (by simpa using hr) (by simp; omega)
    rw [this]
    simp [hl, List.drop_eq_nil_of_le]
  · by_cases hlt : k < w.heap.size
    · exact World.heap_setCells_other w b 0 _ hlt hk
    · rw [Array.getElem?_eq_none (by rw [setCells_size]; omega), Array.getElem?_eq_none (by omega)]
theorem size_pro : (Tryz.prog.info? 144).map (·.size) = some 9 := by kernel_rfl
end
theorem cf_impl_zeroPoint (args : Array Value) (w : World) : (callFunc 102 args).run Tryz.prog w = .ok (.enter 102 args) w := by kernel_rfl
theorem cf_impl_basePoint (args : Array Value) (w : World) : (callFunc 67 args).run Tryz.prog w = .ok (.enter 67 args) w := by kernel_rfl
theorem cf_impl_setting_tweak (args : Array Value) (w : World) : (callFunc 185 args).run Tryz.prog w = .ok (.enter 185 args) w := by kernel_rfl
theorem cf_impl_number_impl_primeN_plus (args : Array Value) (w : World) : (callFunc 184 args).run Tryz.prog w = .ok (.enter 184 args) w := by kernel_rfl
theorem cf_impl_protocol_output (args : Array Value) (w : World) : (callFunc 81 args).run Tryz.prog w = .ok (.enter 81 args) w := by kernel_rfl
theorem infoU8w : (Tryz.prog.info? 5).map (fun i => (i.zero, i.size, i.bytes)) = some (some (.int .u8 0), 1, 1) := by kernel_rfl
theorem wordS_any (n : Nat) (w : World) (hn : n < 18446744073709551616) :
    Calls Tryz.prog 117 #[.int .u64 n] w fun e w' => e = .returned (.string (strOfNums (be8 n))) ∧ Below w.heap.size w w' := by
  obtain ⟨i0, hi, hz0, hz1, hz2⟩ := info_parts infoU8w
  go_enter Tryz.func117, Tryz.ntmps117
  go_wp2
  go_loopw [3, 4] (fun v i wr => ∃ j g cap : Nat, j ≤ 8 ∧ i = .int .i64 (7 - (j : Int)) ∧ v = .slice (some ⟨g, 0, none⟩) j cap ∧ Row wr w.heap.size g j cap (((be8 n).take j).map (Value.int .u8)) ∧ Below w.heap.size w wr) (fun _ i _ => (intOf i + 1).toNat)
  case atStart => exact ⟨0, w.heap.size, 0, by omega, rfl, rfl, Row.of_block (n := 0) (cs := #[]) (heap_alloc_new w _) (Nat.le_refl _) (by simp) (by simp), (Below.refl _ _).alloc (Nat.le_refl _) _⟩
  case round =>
    obtain ⟨j, g1, cap1, hj, rfl, rfl, hrow, hbl⟩ := hrel
    have hsz1 : w.heap.size ≤ wr.heap.size := hbl.size
    by_cases hlt : j < 8
    · have hg0 : (0 : Int) ≤ 7 - (j : Int) := by omega
      go_wp2_with (first
        | (at_builtin; refine wpList_append_row rfl _ _ 61 rfl w.heap.size 5 i0 (.int .u8 0) 1 Tryz.underlying61 hi hz0 hz1 hz2 rfl g1 j cap1 (((be8 n).take j).map (Value.int .u8)) rfl (hrow.alloc _) ⟨wr.heap.size, 0, none⟩ 1 1 [.int .u8 (beAt n j)] rfl rfl (World.news_of_block (cs := #[.int .u8 (beAt n j)]) (heap_alloc_new wr _)) (by simp [Value.oneCell']) (by unfold maxLen; omega) (by omega) (by simp; omega) _ rfl ?_; intro g3 cap3 w3 hrow3 hgr3 _ _)
        | go_in)
      go_roundw
      case rel =>
        have R1 : Row w3 w.heap.size g3 (j + 1) cap3 (((be8 n).take (j + 1)).map (Value.int .u8)) := by
          rw [be8_take _ j hlt, List.map_append]; exact hrow3
        have R2 : Below w.heap.size w w3 := (hbl.alloc hsz1 _).grown hgr3 (by simp; omega) (fun r hr => by simp at hr; have := hrow.lo; omega)
        have R3 : Value.int .i64 (7 - (j : Int) - 1) = Value.int .i64 (7 - ((j + 1 : Nat) : Int)) := by congr 1; omega
        first
          | exact ⟨j + 1, g3, cap3, by omega, R3, rfl, R1, R2⟩
          | ((repeat apply Exists.intro); exact ⟨⟨j + 1, g3, cap3, by omega, R3, rfl, R1, R2⟩, rfl⟩)
      case measure => simp [intOf]; omega
    · obtain rfl : j = 8 := by omega
      have hrow' : Row wr w.heap.size g1 8 cap1 ((be8 n).map (Value.int .u8)) := hrow
      have hcv := run_convert_bytes_arg (P := Tryz.prog) wr 61 5 Tryz.underlying61 Tryz.underlying5 g1 0 8 cap1 (be8 n) rfl (fun i h => by rw [Nat.zero_add]; exact hrow'.cell i h) 9 Tryz.underlying9
      go_wp2
      go_ret
      exact ⟨rfl, hbl⟩
end Go.Proofs.YtjmhmajfkdglnaaGreatDoor
