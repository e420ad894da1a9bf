import Derived.Test.YtjmhmajfkdglnaaDoorMrg13
import Derived.Test.YtjmhmajfkdglnaaDoorMrg1
import Derived.Test.YtjmhmajfkdglnaaDoorChecked
import Derived.WalkKit
import Derived.ProofKit
import Derived.Laws.BytesArg
import Derived.Below
/-
  Operations on texts, as laws for pools.
-/
namespace Go.Proofs.YtjmhmajfkdglnaaDoor
open Go.RowKit
set_option linter.unusedVariables false
section
variable {ev : Operand → Value} {w : World} {dst : Option Tmp} {ty : TypeId} {ps : String} {af : Array Edge} {gd : Option (Nat × Bool)} {x y z x4 x5 : Operand} {b i : Nat}
theorem execS_call1 {F : FuncId} {at_ : Array TypeId} {u : Value} (hF : ev (.func F) = .func (.func F) #[] #[]) (hcf : ∀ (args : Array Value) (w : World), (callFunc F args).run Tryd.prog w = .ok (.enter F args) w) (hx : ev x = u) :
    (execOp ev { dst := dst, op := .call { callee := .value (.func F), args := #[x], argTypes := at_ }, type := ty, pos := ps, after := af, guard := gd }).run Tryd.prog w = .ok (.enter F #[u]) w := by
  simp [execOp, hx, hF, hcf, go_sem]
theorem execS_call2 {F : FuncId} {at_ : Array TypeId} {u v : Value} (hF : ev (.func F) = .func (.func F) #[] #[]) (hcf : ∀ (args : Array Value) (w : World), (callFunc F args).run Tryd.prog w = .ok (.enter F args) w) (hx : ev x = u) (hy : ev y = v) :
    (execOp ev { dst := dst, op := .call { callee := .value (.func F), args := #[x, y], argTypes := at_ }, type := ty, pos := ps, after := af, guard := gd }).run Tryd.prog w = .ok (.enter F #[u, v]) w := by
  simp [execOp, hx, hy, hF, hcf, go_sem]
theorem execS_move {u : Value} (hx : ev x = u) :
    (execOp ev { dst := dst, op := .move x, type := ty, pos := ps, after := af, guard := gd }).run Tryd.prog w = .ok (.value u) w := by
  simp [execOp, hx, go_sem]
theorem execS_assign {v : Value} (hx : ev x = v) :
    (execOp ev { dst := dst, op := .assign x, type := ty, pos := ps, after := af, guard := gd }).run Tryd.prog w = .ok (.value v) w := by
  simp [execOp, hx, go_sem]
theorem execS_cat {a b : ByteArray} (hx : ev x = .string a) (hy : ev y = .string b) (hz : a.size + b.size ≤ 9223372036854775807) :
    (execOp ev { dst := dst, op := .binOp .add 9 x y 9, type := ty, pos := ps, after := af, guard := gd }).run Tryd.prog w = .ok (.value (.string (a ++ b))) w := by
  have h : ¬ (9223372036854775807 < a.size + b.size) := by omega
  simp [execOp, hx, hy, h, go_sem]
theorem execS_c8 {n m : Int} (hx : ev x = .int .i64 n) (hm : IntKind.u8.wrap n = m) :
    (execOp ev { dst := dst, op := .convert 3 5 x, type := ty, pos := ps, after := af, guard := gd }).run Tryd.prog w = .ok (.value (.int .u8 m)) w := by
  simp [execOp, hx, hm, go_sem]
theorem execS_c64 {n m : Int} (hx : ev x = .int .i64 n) (hm : IntKind.u64.wrap n = m) :
    (execOp ev { dst := dst, op := .convert 3 22 x, type := ty, pos := ps, after := af, guard := gd }).run Tryd.prog w = .ok (.value (.int .u64 m)) w := by
  simp [execOp, hx, hm, go_sem]
theorem execS_q256 {n : Int} (hx : ev x = .int .i64 n) (hy : ev y = .int .i64 256) (h0 : 0 ≤ n) (hw : IntKind.i64.wrap (n / 256) = n / 256) :
    (execOp ev { dst := dst, op := .binOp .quo 3 x y 3, type := ty, pos := ps, after := af, guard := gd }).run Tryd.prog w = .ok (.value (.int .i64 (n / 256))) w := by
  have e : n.tdiv 256 = n / 256 := Int.tdiv_eq_ediv_of_nonneg h0
  simp [execOp, hx, hy, hw, e, go_sem]
theorem execS_loadS {s : ByteArray} (hx : ev x = .pointer (some ⟨b, i, none⟩)) (hc : w.cell? ⟨b, i, none⟩ = some (.string s)) :
    (execOp ev { dst := dst, op := .load 9 x, type := ty, pos := ps, after := af, guard := gd }).run Tryd.prog w = .ok (.value (.string s)) w := by
  simp [execOp, hx, hc, go_sem]
theorem execS_loadW {n : Int} (hx : ev x = .pointer (some ⟨b, i, none⟩)) (hc : w.cell? ⟨b, i, none⟩ = some (.int .u64 n)) :
    (execOp ev { dst := dst, op := .load 22 x, type := ty, pos := ps, after := af, guard := gd }).run Tryd.prog w = .ok (.value (.int .u64 n)) w := by
  simp [execOp, hx, hc, go_sem]
theorem execS_allocS : (execOp ev { dst := dst, op := .alloc 9, type := ty, pos := ps, after := af, guard := gd }).run Tryd.prog w = .ok (.value (.pointer (some ⟨w.heap.size, 0, none⟩))) (w.alloc (.cells #[.string ⟨#[]⟩] 9)) := by
  simp [execOp, go_sem]
theorem execS_storeS {s : ByteArray} {v : Value} (hx : ev x = .pointer (some ⟨b, 0, none⟩)) (hy : ev y = .string s) (hc : w.cell? ⟨b, 0, none⟩ = some v) (hf : w.frozen? ⟨b, 0, none⟩ = false) :
    (execOp ev { dst := dst, op := .store 9 x y, type := ty, pos := ps, after := af, guard := gd }).run Tryd.prog w = .ok .skip (w.setCell ⟨b, 0, none⟩ (.string s)) := by
  simp [execOp, hx, hy, hc, hf, go_sem]
theorem execS_slc1 {a : Int} (hx : ev x = .int .u8 a) :
    (execOp ev { dst := dst, op := .buildSlice 30 1 #[(0, x)], type := ty, pos := ps, after := af, guard := gd }).run Tryd.prog w = .ok (.value (.slice (some ⟨w.heap.size, 0, none⟩) 1 1)) (w.alloc (.cells #[.int .u8 a] 5)) := by
  simp [execOp, hx, go_sem]
theorem execS_slc3 {a b c : Int} (hx : ev x = .int .u8 a) (hy : ev y = .int .u8 b) (hz : ev z = .int .u8 c) :
    (execOp ev { dst := dst, op := .buildSlice 30 3 #[(0, x), (1, y), (2, z)], type := ty, pos := ps, after := af, guard := gd }).run Tryd.prog w = .ok (.value (.slice (some ⟨w.heap.size, 0, none⟩) 3 3)) (w.alloc (.cells #[.int .u8 a, .int .u8 b, .int .u8 c] 5)) := by
  simp [execOp, hx, hy, hz, go_sem]
theorem execS_str3 {a b c : ByteArray} (hx : ev x = .string a) (hy : ev y = .string b) (hz : ev z = .string c) :
    (execOp ev { dst := dst, op := .buildSlice 121 3 #[(0, x), (1, y), (2, z)], type := ty, pos := ps, after := af, guard := gd }).run Tryd.prog w = .ok (.value (.slice (some ⟨w.heap.size, 0, none⟩) 3 3)) (w.alloc (.cells #[.string a, .string b, .string c] 9)) := by
  simp [execOp, hx, hy, hz, go_sem]
theorem execS_str5 {a b c d e : ByteArray} (hx : ev x = .string a) (hy : ev y = .string b) (hz : ev z = .string c) (h4 : ev x4 = .string d) (h5 : ev x5 = .string e) :
    (execOp ev { dst := dst, op := .buildSlice 121 5 #[(0, x), (1, y), (2, z), (3, x4), (4, x5)], type := ty, pos := ps, after := af, guard := gd }).run Tryd.prog w = .ok (.value (.slice (some ⟨w.heap.size, 0, none⟩) 5 5)) (w.alloc (.cells #[.string a, .string b, .string c, .string d, .string e] 9)) := by
  simp [execOp, hx, hy, hz, h4, h5, go_sem]
theorem execS_conv {n : Nat} {xs : List Int} (hx : ev x = .slice (some ⟨b, 0, none⟩) n n) (hl : xs.length = n) (hc : ∀ i, i < n → w.cell? ⟨b, i, none⟩ = some (.int .u8 (lk xs i))) :
    (execOp ev { dst := dst, op := .convert 30 9 x, type := ty, pos := ps, after := af, guard := gd }).run Tryd.prog w = .ok (.value (.string (strOfNums xs))) w := by
  have hcv := run_convert_bytes_arg (P := Tryd.prog) w 30 5 Tryd.underlying30 Tryd.underlying5 b 0 n n xs hl (fun i h => by rw [Nat.zero_add]; exact hc i h) 9 Tryd.underlying9
  simp [execOp, hx, hcv, go_sem]
end
section
variable {A : Act} {w W0 : World} {dst : Option Tmp} {ty : TypeId} {ps : String} {af : Array Edge} {gd : Option (Nat × Bool)} {x y z x4 x5 : Operand} {b i : Nat}
set_option maxRecDepth 100000
theorem doS_call1 {F : FuncId} {at_ : Array TypeId} {u r : Value} (hcf : ∀ (args : Array Value) (w : World), (callFunc F args).run Tryd.prog w = .ok (.enter F args) w) (hx : A.eval x = u)
    (hc : Calls Tryd.prog F #[u] w fun e w' => e = .returned r ∧ Below w.heap.size w w') :
    Does Tryd.prog { dst := dst, op := .call { callee := .value (.func F), args := #[x], argTypes := at_ }, type := ty, pos := ps, after := af, guard := gd } A w fun v' w' => v' = r ∧ Below w.heap.size w w' :=
  does_call (execS_call1 rfl hcf hx) (hc.mono fun _ _ ⟨h, h'⟩ => ⟨r, h, rfl, h'⟩)
theorem doS_call2 {F : FuncId} {at_ : Array TypeId} {u v r : Value} (hcf : ∀ (args : Array Value) (w : World), (callFunc F args).run Tryd.prog w = .ok (.enter F args) w) (hx : A.eval x = u) (hy : A.eval y = v)
    (hc : Calls Tryd.prog F #[u, v] w fun e w' => e = .returned r ∧ Below w.heap.size w w') :
    Does Tryd.prog { dst := dst, op := .call { callee := .value (.func F), args := #[x, y], argTypes := at_ }, type := ty, pos := ps, after := af, guard := gd } A w fun v' w' => v' = r ∧ Below w.heap.size w w' :=
  does_call (execS_call2 rfl hcf hx hy) (hc.mono fun _ _ ⟨h, h'⟩ => ⟨r, h, rfl, h'⟩)
theorem doS_move {u : Value} (hx : A.eval x = u) :
    Does Tryd.prog { dst := dst, op := .move x, type := ty, pos := ps, after := af, guard := gd } A w fun v' w' => v' = u ∧ Below w.heap.size w w' := by
  have h := execS_move (ev := A.eval) (w := w) (dst := dst) (ty := ty) (ps := ps) (af := af) (gd := gd) hx
  exact does_value h ⟨rfl, Below.refl _ _⟩
theorem doS_assign {u : Value} (hx : A.eval x = u) :
    Does Tryd.prog { dst := dst, op := .assign x, type := ty, pos := ps, after := af, guard := gd } A w fun v' w' => v' = u ∧ Below w.heap.size w w' := by
  have h := execS_assign (ev := A.eval) (w := w) (dst := dst) (ty := ty) (ps := ps) (af := af) (gd := gd) hx
  exact does_value h ⟨rfl, Below.refl _ _⟩
theorem doS_cat {a b : ByteArray} (hx : A.eval x = .string a) (hy : A.eval y = .string b) (hz : a.size + b.size ≤ 9223372036854775807) :
    Does Tryd.prog { dst := dst, op := .binOp .add 9 x y 9, type := ty, pos := ps, after := af, guard := gd } A w fun v' w' => v' = .string (a ++ b) ∧ Below w.heap.size w w' := by
  have h := execS_cat (ev := A.eval) (w := w) (dst := dst) (ty := ty) (ps := ps) (af := af) (gd := gd) hx hy hz
  exact does_value h ⟨rfl, Below.refl _ _⟩
theorem doS_c8 {n m : Int} (hx : A.eval x = .int .i64 n) (hm : IntKind.u8.wrap n = m) :
    Does Tryd.prog { dst := dst, op := .convert 3 5 x, type := ty, pos := ps, after := af, guard := gd } A w fun v' w' => v' = .int .u8 m ∧ Below w.heap.size w w' := by
  have h := execS_c8 (ev := A.eval) (w := w) (dst := dst) (ty := ty) (ps := ps) (af := af) (gd := gd) hx hm
  exact does_value h ⟨rfl, Below.refl _ _⟩
theorem doS_c64 {n m : Int} (hx : A.eval x = .int .i64 n) (hm : IntKind.u64.wrap n = m) :
    Does Tryd.prog { dst := dst, op := .convert 3 22 x, type := ty, pos := ps, after := af, guard := gd } A w fun v' w' => v' = .int .u64 m ∧ Below w.heap.size w w' := by
  have h := execS_c64 (ev := A.eval) (w := w) (dst := dst) (ty := ty) (ps := ps) (af := af) (gd := gd) hx hm
  exact does_value h ⟨rfl, Below.refl _ _⟩
theorem doS_q256 {n : Int} (hx : A.eval x = .int .i64 n) (hy : A.eval y = .int .i64 256) (h0 : 0 ≤ n) (hw : IntKind.i64.wrap (n / 256) = n / 256) :
    Does Tryd.prog { dst := dst, op := .binOp .quo 3 x y 3, type := ty, pos := ps, after := af, guard := gd } A w fun v' w' => v' = .int .i64 (n / 256) ∧ Below w.heap.size w w' := by
  have h := execS_q256 (ev := A.eval) (w := w) (dst := dst) (ty := ty) (ps := ps) (af := af) (gd := gd) hx hy h0 hw
  exact does_value h ⟨rfl, Below.refl _ _⟩
theorem doS_loadS {s : ByteArray} (hx : A.eval x = .pointer (some ⟨b, i, none⟩)) (hc : w.cell? ⟨b, i, none⟩ = some (.string s)) :
    Does Tryd.prog { dst := dst, op := .load 9 x, type := ty, pos := ps, after := af, guard := gd } A w fun v' w' => v' = .string s ∧ Below w.heap.size w w' := by
  have h := execS_loadS (ev := A.eval) (w := w) (dst := dst) (ty := ty) (ps := ps) (af := af) (gd := gd) hx hc
  exact does_value h ⟨rfl, Below.refl _ _⟩
theorem doS_loadW {n : Int} (hx : A.eval x = .pointer (some ⟨b, i, none⟩)) (hc : w.cell? ⟨b, i, none⟩ = some (.int .u64 n)) :
    Does Tryd.prog { dst := dst, op := .load 22 x, type := ty, pos := ps, after := af, guard := gd } A w fun v' w' => v' = .int .u64 n ∧ Below w.heap.size w w' := by
  have h := execS_loadW (ev := A.eval) (w := w) (dst := dst) (ty := ty) (ps := ps) (af := af) (gd := gd) hx hc
  exact does_value h ⟨rfl, Below.refl _ _⟩
theorem doS_conv {n : Nat} {xs : List Int} (hx : A.eval x = .slice (some ⟨b, 0, none⟩) n n) (hl : xs.length = n) (hc : ∀ i, i < n → w.cell? ⟨b, i, none⟩ = some (.int .u8 (lk xs i))) :
    Does Tryd.prog { dst := dst, op := .convert 30 9 x, type := ty, pos := ps, after := af, guard := gd } A w fun v' w' => v' = .string (strOfNums xs) ∧ Below w.heap.size w w' := by
  have h := execS_conv (ev := A.eval) (w := w) (dst := dst) (ty := ty) (ps := ps) (af := af) (gd := gd) hx hl hc
  exact does_value h ⟨rfl, Below.refl _ _⟩
theorem doS_slc1 {a : Int} (hx : A.eval x = .int .u8 a) :
    Does Tryd.prog { dst := dst, op := .buildSlice 30 1 #[(0, x)], type := ty, pos := ps, after := af, guard := gd } A w fun v w' => v = .slice (some ⟨w.heap.size, 0, none⟩) 1 1 ∧ w' = w.alloc (.cells #[.int .u8 a] 5) := by
  have h := execS_slc1 (ev := A.eval) (w := w) (dst := dst) (ty := ty) (ps := ps) (af := af) (gd := gd) hx
  exact does_value h ⟨rfl, rfl⟩
theorem doS_slc3 {a b c : Int} (hx : A.eval x = .int .u8 a) (hy : A.eval y = .int .u8 b) (hz : A.eval z = .int .u8 c) :
    Does Tryd.prog { dst := dst, op := .buildSlice 30 3 #[(0, x), (1, y), (2, z)], type := ty, pos := ps, after := af, guard := gd } A w fun v w' => v = .slice (some ⟨w.heap.size, 0, none⟩) 3 3 ∧ w' = w.alloc (.cells #[.int .u8 a, .int .u8 b, .int .u8 c] 5) := by
  have h := execS_slc3 (ev := A.eval) (w := w) (dst := dst) (ty := ty) (ps := ps) (af := af) (gd := gd) hx hy hz
  exact does_value h ⟨rfl, rfl⟩
theorem doS_str3 {a b c : ByteArray} (hx : A.eval x = .string a) (hy : A.eval y = .string b) (hz : A.eval z = .string c) :
    Does Tryd.prog { dst := dst, op := .buildSlice 121 3 #[(0, x), (1, y), (2, z)], type := ty, pos := ps, after := af, guard := gd } A w fun v w' => v = .slice (some ⟨w.heap.size, 0, none⟩) 3 3 ∧ w' = w.alloc (.cells #[.string a, .string b, .string c] 9) := by
  have h := execS_str3 (ev := A.eval) (w := w) (dst := dst) (ty := ty) (ps := ps) (af := af) (gd := gd) hx hy hz
  exact does_value h ⟨rfl, rfl⟩
theorem doS_str5 {a b c d e : ByteArray} (hx : A.eval x = .string a) (hy : A.eval y = .string b) (hz : A.eval z = .string c) (h4 : A.eval x4 = .string d) (h5 : A.eval x5 = .string e) :
    Does Tryd.prog { dst := dst, op := .buildSlice 121 5 #[(0, x), (1, y), (2, z), (3, x4), (4, x5)], type := ty, pos := ps, after := af, guard := gd } A w fun v w' => v = .slice (some ⟨w.heap.size, 0, none⟩) 5 5 ∧ w' = w.alloc (.cells #[.string a, .string b, .string c, .string d, .string e] 9) := by
  have h := execS_str5 (ev := A.eval) (w := w) (dst := dst) (ty := ty) (ps := ps) (af := af) (gd := gd) hx hy hz h4 h5
  exact does_value h ⟨rfl, rfl⟩
theorem doS_new : Does Tryd.prog { dst := dst, op := .alloc 9, type := ty, pos := ps, after := af, guard := gd } A w fun v w' => v = .pointer (some ⟨w.heap.size, 0, none⟩) ∧ w' = w.alloc (.cells #[.string ⟨#[]⟩] 9) := by
  have h := execS_allocS (ev := A.eval) (w := w) (dst := dst) (ty := ty) (ps := ps) (af := af) (gd := gd)
  exact does_value h ⟨rfl, rfl⟩
theorem doS_put {s : ByteArray} (hx : A.eval x = .pointer (some ⟨b, 0, none⟩)) (hy : A.eval y = .string s) (hr : w.heap[b]? = some (.cells #[.string ⟨#[]⟩] 9)) :
    Does Tryd.prog { dst := dst, op := .store 9 x y, type := ty, pos := ps, after := af, guard := gd } A w fun _ w' => Turned b (.cells #[.string s] 9) w w' := by
  have hc : w.cell? ⟨b, 0, none⟩ = some (.string ⟨#[]⟩) := by simp [World.cell?, hr]
  have hf : w.frozen? ⟨b, 0, none⟩ = false := by simp [World.frozen?, hr]
  refine does_skip (execS_storeS hx hy hc hf) ⟨rfl, rfl, rfl, by simp [World.setCell], ?_, fun k hk => ?_⟩
  · simp [World.setCell, Array.getElem?_modify, hr]
  · simp [World.setCell, Array.getElem?_modify, Ne.symm hk]
end
/-- cells of a block -/
theorem block_cell {w : World} {b i : Nat} {cs : Array Value} {t : TypeId} {v : Value} (h : w.heap[b]? = some (.cells cs t)) (hv : cs[i]? = some v) : w.cell? ⟨b, i, none⟩ = some v := by
  rw [cell_of_row _ _ _ _ _ _ h]; exact hv
end Go.Proofs.YtjmhmajfkdglnaaDoor

namespace Go.Proofs.YtjmhmajfkdglnaaDoor
/-- what a message, a tag and a size must be -/
def okM (msg tag : ByteArray) (n : Int) : Prop := 1 ≤ tag.size ∧ tag.size ≤ 255 ∧ 1 ≤ n ∧ n ≤ 8160 ∧ msg.size ≤ 65535
end Go.Proofs.YtjmhmajfkdglnaaDoor
