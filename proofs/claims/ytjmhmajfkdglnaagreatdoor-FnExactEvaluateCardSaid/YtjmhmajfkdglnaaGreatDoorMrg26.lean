import Derived.Test.YtjmhmajfkdglnaaGreatDoorMrg25
import Derived.Test.YtjmhmajfkdglnaaGreatDoorMrg3
import Derived.Test.YtjmhmajfkdglnaaGreatDoorMrg16
import Derived.Test.YtjmhmajfkdglnaaGreatDoorMrg13
import Derived.Deep.MidRow
import Derived.Test.YtjmhmajfkdglnaaGreatDoorMrg8
import Derived.Test.YtjmhmajfkdglnaaGreatDoorMrg11
import Derived.Test.YtjmhmajfkdglnaaGreatDoorMrg1
import Derived.Test.YtjmhmajfkdglnaaGreatDoorMrg17
import Derived.Laws.ResultCell
import Derived.Test.YtjmhmajfkdglnaaGreatDoorMrg24
set_option linter.unusedVariables false
set_option maxRecDepth 100000
set_option maxHeartbeats 16000000
namespace Go.Proofs.YtjmhmajfkdglnaaGreatDoor
open Go.RowKit
section
variable {A : Act} {w : World} {dst : Option Tmp} {ty : TypeId} {ps : String} {af : Array Edge} {gd : Option (Nat × Bool)} {x y : Operand} {b i : Nat}
theorem ld_set {v0 v1 : Value} (hx : A.eval x = .pointer (some ⟨b, i, none⟩)) (h0 : w.cell? ⟨b, i, none⟩ = some v0) (h1 : w.cell? ⟨b, i + 1, none⟩ = some v1) :
    Does Tryz.prog { dst := dst, op := .load 133 x, type := ty, pos := ps, after := af, guard := gd } A w fun v' w' => v' = .agg #[v0, v1] ∧ Below w.heap.size w w' := by
  have h : (execOp A.eval { dst := dst, op := .load 133 x, type := ty, pos := ps, after := af, guard := gd }).run Tryz.prog w = .ok (.value (.agg #[v0, v1])) w := by generalize A.eval = ev at *; simp [execOp, hx, h0, h1, go_sem]
  exact does_value h ⟨rfl, Below.refl _ _⟩
theorem ld_err {v0 : Value} (hx : A.eval x = .pointer (some ⟨b, i, none⟩)) (h0 : w.cell? ⟨b, i, none⟩ = some v0) :
    Does Tryz.prog { dst := dst, op := .load 76 x, type := ty, pos := ps, after := af, guard := gd } A w fun v' w' => v' = v0 ∧ Below w.heap.size w w' := by
  have h : (execOp A.eval { dst := dst, op := .load 76 x, type := ty, pos := ps, after := af, guard := gd }).run Tryz.prog w = .ok (.value (v0)) w := by generalize A.eval = ev at *; simp [execOp, hx, h0, go_sem]
  exact does_value h ⟨rfl, Below.refl _ _⟩
theorem ld_str {v0 : Value} (hx : A.eval x = .pointer (some ⟨b, i, none⟩)) (h0 : w.cell? ⟨b, i, none⟩ = some v0) :
    Does Tryz.prog { dst := dst, op := .load 9 x, type := ty, pos := ps, after := af, guard := gd } A w fun v' w' => v' = v0 ∧ Below w.heap.size w w' := by
  have h : (execOp A.eval { dst := dst, op := .load 9 x, type := ty, pos := ps, after := af, guard := gd }).run Tryz.prog w = .ok (.value (v0)) w := by generalize A.eval = ev at *; simp [execOp, hx, h0, go_sem]
  exact does_value h ⟨rfl, Below.refl _ _⟩
theorem ld_fn5 {v0 : Value} (hx : A.eval x = .pointer (some ⟨b, i, none⟩)) (h0 : w.cell? ⟨b, i, none⟩ = some v0) :
    Does Tryz.prog { dst := dst, op := .load 139 x, type := ty, pos := ps, after := af, guard := gd } A w fun v' w' => v' = v0 ∧ Below w.heap.size w w' := by
  have h : (execOp A.eval { dst := dst, op := .load 139 x, type := ty, pos := ps, after := af, guard := gd }).run Tryz.prog w = .ok (.value (v0)) w := by generalize A.eval = ev at *; simp [execOp, hx, h0, go_sem]
  exact does_value h ⟨rfl, Below.refl _ _⟩
theorem ld_fn6 {v0 : Value} (hx : A.eval x = .pointer (some ⟨b, i, none⟩)) (h0 : w.cell? ⟨b, i, none⟩ = some v0) :
    Does Tryz.prog { dst := dst, op := .load 140 x, type := ty, pos := ps, after := af, guard := gd } A w fun v' w' => v' = v0 ∧ Below w.heap.size w w' := by
  have h : (execOp A.eval { dst := dst, op := .load 140 x, type := ty, pos := ps, after := af, guard := gd }).run Tryz.prog w = .ok (.value (v0)) w := by generalize A.eval = ev at *; simp [execOp, hx, h0, go_sem]
  exact does_value h ⟨rfl, Below.refl _ _⟩
theorem fa_pro0 (hx : A.eval x = .pointer (some ⟨b, i, none⟩)) :
    Does Tryz.prog { dst := dst, op := .fieldAddr 144 x 0, type := ty, pos := ps, after := af, guard := gd } A w fun v' w' => v' = .pointer (some ⟨b, i, none⟩) ∧ Below w.heap.size w w' := by
  have h : (execOp A.eval { dst := dst, op := .fieldAddr 144 x 0, type := ty, pos := ps, after := af, guard := gd }).run Tryz.prog w = .ok (.value (.pointer (some ⟨b, i, none⟩))) w := by generalize A.eval = ev at *; simp [execOp, hx, go_sem]
  exact does_value h ⟨rfl, Below.refl _ _⟩
theorem fa_pro1 (hx : A.eval x = .pointer (some ⟨b, i, none⟩)) :
    Does Tryz.prog { dst := dst, op := .fieldAddr 144 x 1, type := ty, pos := ps, after := af, guard := gd } A w fun v' w' => v' = .pointer (some ⟨b, i + 2, none⟩) ∧ Below w.heap.size w w' := by
  have h : (execOp A.eval { dst := dst, op := .fieldAddr 144 x 1, type := ty, pos := ps, after := af, guard := gd }).run Tryz.prog w = .ok (.value (.pointer (some ⟨b, i + 2, none⟩))) w := by generalize A.eval = ev at *; simp [execOp, hx, go_sem]
  exact does_value h ⟨rfl, Below.refl _ _⟩
theorem fa_rul5 (hx : A.eval x = .pointer (some ⟨b, i, none⟩)) :
    Does Tryz.prog { dst := dst, op := .fieldAddr 142 x 5, type := ty, pos := ps, after := af, guard := gd } A w fun v' w' => v' = .pointer (some ⟨b, i + 5, none⟩) ∧ Below w.heap.size w w' := by
  have h : (execOp A.eval { dst := dst, op := .fieldAddr 142 x 5, type := ty, pos := ps, after := af, guard := gd }).run Tryz.prog w = .ok (.value (.pointer (some ⟨b, i + 5, none⟩))) w := by generalize A.eval = ev at *; simp [execOp, hx, go_sem]
  exact does_value h ⟨rfl, Below.refl _ _⟩
theorem fa_rul6 (hx : A.eval x = .pointer (some ⟨b, i, none⟩)) :
    Does Tryz.prog { dst := dst, op := .fieldAddr 142 x 6, type := ty, pos := ps, after := af, guard := gd } A w fun v' w' => v' = .pointer (some ⟨b, i + 6, none⟩) ∧ Below w.heap.size w w' := by
  have h : (execOp A.eval { dst := dst, op := .fieldAddr 142 x 6, type := ty, pos := ps, after := af, guard := gd }).run Tryz.prog w = .ok (.value (.pointer (some ⟨b, i + 6, none⟩))) w := by generalize A.eval = ev at *; simp [execOp, hx, go_sem]
  exact does_value h ⟨rfl, Below.refl _ _⟩
theorem fa_set0 (hx : A.eval x = .pointer (some ⟨b, i, none⟩)) :
    Does Tryz.prog { dst := dst, op := .fieldAddr 133 x 0, type := ty, pos := ps, after := af, guard := gd } A w fun v' w' => v' = .pointer (some ⟨b, i, none⟩) ∧ Below w.heap.size w w' := by
  have h : (execOp A.eval { dst := dst, op := .fieldAddr 133 x 0, type := ty, pos := ps, after := af, guard := gd }).run Tryz.prog w = .ok (.value (.pointer (some ⟨b, i, none⟩))) w := by generalize A.eval = ev at *; simp [execOp, hx, go_sem]
  exact does_value h ⟨rfl, Below.refl _ _⟩
theorem fa_set1 (hx : A.eval x = .pointer (some ⟨b, i, none⟩)) :
    Does Tryz.prog { dst := dst, op := .fieldAddr 133 x 1, type := ty, pos := ps, after := af, guard := gd } A w fun v' w' => v' = .pointer (some ⟨b, i + 1, none⟩) ∧ Below w.heap.size w w' := by
  have h : (execOp A.eval { dst := dst, op := .fieldAddr 133 x 1, type := ty, pos := ps, after := af, guard := gd }).run Tryz.prog w = .ok (.value (.pointer (some ⟨b, i + 1, none⟩))) w := by generalize A.eval = ev at *; simp [execOp, hx, go_sem]
  exact does_value h ⟨rfl, Below.refl _ _⟩
theorem bu0_nN : Does Tryz.prog { dst := dst, op := .build 117 #[], type := ty, pos := ps, after := af, guard := gd } A w fun v' w' => v' = .agg #[.int .u64 0] ∧ Below w.heap.size w w' := by
  have h : (execOp A.eval { dst := dst, op := .build 117 #[], type := ty, pos := ps, after := af, guard := gd }).run Tryz.prog w = .ok (.value (.agg #[.int .u64 0])) w := by generalize A.eval = ev at *; simp [execOp, go_sem]
  exact does_value h ⟨rfl, Below.refl _ _⟩
theorem bu0_pro : Does Tryz.prog { dst := dst, op := .build 144 #[], type := ty, pos := ps, after := af, guard := gd } A w fun v' w' => v' = .agg #[.string ⟨#[]⟩, .string ⟨#[]⟩, .nilFunc, .nilFunc, .nilFunc, .nilFunc, .nilFunc, .nilFunc, .nilFunc] ∧ Below w.heap.size w w' := by
  have h : (execOp A.eval { dst := dst, op := .build 144 #[], type := ty, pos := ps, after := af, guard := gd }).run Tryz.prog w = .ok (.value (.agg #[.string ⟨#[]⟩, .string ⟨#[]⟩, .nilFunc, .nilFunc, .nilFunc, .nilFunc, .nilFunc, .nilFunc, .nilFunc])) w := by generalize A.eval = ev at *; simp [execOp, go_sem]
  exact does_value h ⟨rfl, Below.refl _ _⟩
theorem bu_flt {s : ByteArray} {a : Addr} (hx : A.eval x = .string s) (hy : A.eval y = sen a) :
    Does Tryz.prog { dst := dst, op := .build 150 #[(0, x), (1, y)], type := ty, pos := ps, after := af, guard := gd } A w fun v' w' => v' = .agg #[.string s, sen a] ∧ Below w.heap.size w w' := by
  have h : (execOp A.eval { dst := dst, op := .build 150 #[(0, x), (1, y)], type := ty, pos := ps, after := af, guard := gd }).run Tryz.prog w = .ok (.value (.agg #[.string s, sen a])) w := by generalize A.eval = ev at *; simp [execOp, hx, hy, sen, go_sem]
  exact does_value h ⟨rfl, Below.refl _ _⟩
theorem mi_flt {u : Value} (hx : A.eval x = u) :
    Does Tryz.prog { dst := dst, op := .makeInterface 150 x, type := ty, pos := ps, after := af, guard := gd } A w fun v' w' => v' = .iface 150 u ∧ Below w.heap.size w w' := by
  have h : (execOp A.eval { dst := dst, op := .makeInterface 150 x, type := ty, pos := ps, after := af, guard := gd }).run Tryz.prog w = .ok (.value (.iface 150 u)) w := by generalize A.eval = ev at *; simp [execOp, hx, go_sem]
  exact does_value h ⟨rfl, Below.refl _ _⟩
theorem cv1 {F : FuncId} {at_ : Array TypeId} {r : Value} {x0 : Operand} {u0 : Value} (hcf : ∀ (args : Array Value) (w : World), (callFunc F args).run Tryz.prog w = .ok (.enter F args) w) (hF : A.eval x = .func (.func F) #[] #[]) (h0 : A.eval x0 = u0)
    (hc : Calls Tryz.prog F #[u0] w fun e w' => e = .returned r ∧ Below w.heap.size w w') :
    Does Tryz.prog { dst := dst, op := .call { callee := .value x, args := #[x0], argTypes := at_ }, type := ty, pos := ps, after := af, guard := gd } A w fun v' w' => v' = r ∧ Below w.heap.size w w' := by
  have h : (execOp A.eval { dst := dst, op := .call { callee := .value x, args := #[x0], argTypes := at_ }, type := ty, pos := ps, after := af, guard := gd }).run Tryz.prog w = .ok (.enter F #[u0]) w := by generalize A.eval = ev at *; simp [execOp, hF, hcf, h0, go_sem]
  exact does_call h (hc.mono fun _ _ ⟨h, h'⟩ => ⟨r, h, rfl, h'⟩)
theorem cw1 {F : FuncId} {at_ : Array TypeId} {Fv : Nat → Value} {R : Nat → World → Prop} {x0 : Operand} {u0 : Value} (hcf : ∀ (args : Array Value) (w : World), (callFunc F args).run Tryz.prog w = .ok (.enter F args) w) (hF : A.eval x = .func (.func F) #[] #[]) (h0 : A.eval x0 = u0)
    (hc : Calls Tryz.prog F #[u0] w fun e w' => ∃ x, e = .returned (Fv x) ∧ R x w' ∧ Below w.heap.size w w') :
    Does Tryz.prog { dst := dst, op := .call { callee := .value x, args := #[x0], argTypes := at_ }, type := ty, pos := ps, after := af, guard := gd } A w fun v' w' => ∃ x, v' = Fv x ∧ R x w' ∧ Below w.heap.size w w' := by
  have h : (execOp A.eval { dst := dst, op := .call { callee := .value x, args := #[x0], argTypes := at_ }, type := ty, pos := ps, after := af, guard := gd }).run Tryz.prog w = .ok (.enter F #[u0]) w := by generalize A.eval = ev at *; simp [execOp, hF, hcf, h0, go_sem]
  exact does_call h (hc.mono fun _ _ ⟨x, h, h'⟩ => ⟨Fv x, h, x, rfl, h'⟩)
theorem cv4 {F : FuncId} {at_ : Array TypeId} {r : Value} {x0 x1 x2 x3 : Operand} {u0 u1 u2 u3 : Value} (hcf : ∀ (args : Array Value) (w : World), (callFunc F args).run Tryz.prog w = .ok (.enter F args) w) (hF : A.eval x = .func (.func F) #[] #[]) (h0 : A.eval x0 = u0) (h1 : A.eval x1 = u1) (h2 : A.eval x2 = u2) (h3 : A.eval x3 = u3)
    (hc : Calls Tryz.prog F #[u0, u1, u2, u3] w fun e w' => e = .returned r ∧ Below w.heap.size w w') :
    Does Tryz.prog { dst := dst, op := .call { callee := .value x, args := #[x0, x1, x2, x3], argTypes := at_ }, type := ty, pos := ps, after := af, guard := gd } A w fun v' w' => v' = r ∧ Below w.heap.size w w' := by
  have h : (execOp A.eval { dst := dst, op := .call { callee := .value x, args := #[x0, x1, x2, x3], argTypes := at_ }, type := ty, pos := ps, after := af, guard := gd }).run Tryz.prog w = .ok (.enter F #[u0, u1, u2, u3]) w := by generalize A.eval = ev at *; simp [execOp, hF, hcf, h0, h1, h2, h3, go_sem]
  exact does_call h (hc.mono fun _ _ ⟨h, h'⟩ => ⟨r, h, rfl, h'⟩)
theorem eq_cpz {p : M.Pt} (hx : A.eval x = .agg #[.int .u64 (px p), .int .u64 (py p), .bool (pb p)]) (hy : A.eval y = .agg #[.int .u64 0, .int .u64 0, .bool true]) :
    Does Tryz.prog { dst := dst, op := .binOp .eql 106 x y 106, type := ty, pos := ps, after := af, guard := gd } A w fun v' w' => v' = .bool (pb p) ∧ Below w.heap.size w w' := by
  have h : (execOp A.eval { dst := dst, op := .binOp .eql 106 x y 106, type := ty, pos := ps, after := af, guard := gd }).run Tryz.prog w = .ok (.value (.bool (pb p))) w := by
    generalize A.eval = ev at *
    rcases p with _ | ⟨X, Y⟩ <;> simp only [px, py, pb] at hx ⊢ <;> simp [execOp, hx, hy, go_sem]
  exact does_value h ⟨rfl, Below.refl _ _⟩
theorem setCells_full (b : Nat) (T : TypeId) : ∀ (vs : List Value) (o : Nat) (w : World) (cs : List Value), w.heap[b]? = some (.cells cs.toArray T) → o + vs.length ≤ cs.length → (w.setCells b o vs).heap[b]? = some (.cells (cs.take o ++ vs ++ cs.drop (o + vs.length)).toArray T)
  | [], o, w, cs, h, hl => by simpa [World.setCells] using h
  | v :: r, o, w, cs, h, hl => by
    rw [World.setCells]
    have h1 : (w.setCell ⟨b, o, none⟩ v).heap[b]? = some (.cells (cs.set o v).toArray T) := by simp [World.setCell, Array.getElem?_modify, h]
    simp only [List.length_cons] at hl
    rw [setCells_full b T r (o + 1) _ _ h1 (by simp; omega)]
    congr 3
    rw [List.take_set, List.drop_set_of_lt (by omega), List.take_add_one, List.getElem?_eq_getElem (by omega)]
    simp only [Option.toList_some, List.length_cons]
    rw [List.set_append_right _ _ (by simp; omega)]
    simp [show min o cs.length = o by omega, show o + 1 + r.length = o + (r.length + 1) by omega]
theorem pu_any {T T' : TypeId} {cs0 cs : Array Value} (hx : A.eval x = .pointer (some ⟨b, 0, none⟩)) (hy : A.eval y = .agg cs) (hr : w.heap[b]? = some (.cells cs0 T')) (hl : cs.size = cs0.size) (hi : (Tryz.prog.info? T).map (·.size) = some cs.size) (h1 : cs.all (·.oneCell') = true) :
    Does Tryz.prog { dst := dst, op := .store T x y, type := ty, pos := ps, after := af, guard := gd } A w fun _ w' => Turned b (.cells cs T') w w' := by
  have ht : w.there b 0 cs.size := fun j hj => by
    rw [Nat.zero_add]
    exact ⟨by rw [cell_of_row _ _ _ _ _ _ hr, Array.getElem?_eq_getElem (by omega)]; rfl, by simp [World.frozen?, hr]⟩
  have h : (execOp A.eval { dst := dst, op := .store T x y, type := ty, pos := ps, after := af, guard := gd }).run Tryz.prog w = .ok .skip (w.setCells b 0 cs.toList) := by
    unfold execOp
    simp only [hx, hy, Instr.storeAt, Instr.sureAddr, Sem.run_bind, Sem.run_pure, Result.andThen_ok, run_storeVar_mid w b 0 T cs ht hi h1]
  refine does_skip h ⟨World.os_setCells w b 0 _, setCells_tape b _ 0 w, World.output_setCells w b 0 _, setCells_size b _ 0 w, ?_, fun k hk => ?_⟩
  · have := setCells_full b T' cs.toList 0 w cs0.toList (by simpa using hr) (by simp; omega)
    rw [this]
    simp [hl, List.drop_eq_nil_of_le]
  · by_cases hlt : k < w.heap.size
    · exact World.heap_setCells_other w b 0 _ hlt hk
    · rw [Array.getElem?_eq_none (by rw [setCells_size]; omega), Array.getElem?_eq_none (by omega)]
theorem size_pro : (Tryz.prog.info? 144).map (·.size) = some 9 := by kernel_rfl
end
theorem cf_impl_zeroPoint (args : Array Value) (w : World) : (callFunc 102 args).run Tryz.prog w = .ok (.enter 102 args) w := by kernel_rfl
theorem cf_impl_basePoint (args : Array Value) (w : World) : (callFunc 67 args).run Tryz.prog w = .ok (.enter 67 args) w := by kernel_rfl
theorem cf_impl_setting_tweak (args : Array Value) (w : World) : (callFunc 185 args).run Tryz.prog w = .ok (.enter 185 args) w := by kernel_rfl
theorem cf_impl_number_impl_primeN_plus (args : Array Value) (w : World) : (callFunc 184 args).run Tryz.prog w = .ok (.enter 184 args) w := by kernel_rfl
theorem cf_impl_codeOf (args : Array Value) (w : World) : (callFunc 77 args).run Tryz.prog w = .ok (.enter 77 args) w := by kernel_rfl
theorem putI_any (n : Nat) (w : World) (hn : n < 18446744073709551616) :
    Calls Tryz.prog 239 #[.int .u64 n] w fun e w' => e = .returned (.string (strOfNums (be8 n))) ∧ Below w.heap.size w w' := by
  have L := fun w => beI_any (n : Int) 8 w (by omega) (by omega) (by omega) (by omega)
  rw [beTo8] at L
  clear hn
  go_enter Tryz.func239, Tryz.ntmps239
  go_wp2_with fail
  refine (L _).mono ?_
  rintro e w' ⟨rfl, hb⟩
  go_wp2
  go_ret
  exact ⟨rfl, hb⟩
theorem methN (w : World) : (method 449 115 (.agg #[]) "loop.example/s02095/impl.value").run Tryz.prog w = .ok (241, .agg #[]) w := by kernel_rfl
theorem valN (w : World) :
    Calls Tryz.prog 241 #[.agg #[]] w fun e w' => e = .returned (.int .u64 2305843010818082053) ∧ w' = w.alloc (.cells #[] 115) := by
  go_enter Tryz.func241, Tryz.ntmps241
  go_wp2
  go_ret
  exact ⟨rfl, rfl⟩
theorem foldN : Array.foldl (fun (cs : Array Value) (x : Value × Nat) => cs.setIfInBounds x.snd x.fst) #[Value.int IntKind.u64 0] (#[] : Array Value).zipIdx 0 0 = #[Value.int .u64 0] := rfl
theorem exN_less (x : Int) (w : World) (h1 : x < 2305843010818082053) :
    Calls Tryz.prog 65 #[.int .u64 x, .agg #[]] w fun e w' => e = .returned (.tuple #[.agg #[.int .u64 x], .bool true]) ∧ Below w.heap.size w w' := by
  have hm := methN
  have hbd := foldN
  go_enter Tryz.func65, Tryz.ntmps65
  go_wp2_with fail
  refine (valN _).mono ?_
  rintro e w' ⟨rfl, rfl⟩
  go_wp2
  refine bodyPost_ret (v := .tuple #[.agg #[.int .u64 x], .bool true]) (by simp [results, Tryz.results65, go_sem]) rfl ⟨rfl, ?_⟩
  exact (((Below.refl _ w).alloc (Nat.le_refl _) _).alloc (by simp) _).alloc (by simp; omega) _
theorem exN_more (x : Int) (w : World) (h1 : 2305843010818082053 ≤ x) :
    Calls Tryz.prog 65 #[.int .u64 x, .agg #[]] w fun e w' => e = .returned (.tuple #[.agg #[.int .u64 0], .bool false]) ∧ Below w.heap.size w w' := by
  have hm := methN
  go_enter Tryz.func65, Tryz.ntmps65
  go_wp2_with fail
  refine (valN _).mono ?_
  rintro e w' ⟨rfl, rfl⟩
  go_wp2
  refine bodyPost_ret (v := .tuple #[.agg #[.int .u64 0], .bool false]) (by simp [results, Tryz.results65, go_sem]) rfl ⟨rfl, ?_⟩
  exact (((Below.refl _ w).alloc (Nat.le_refl _) _).alloc (by simp) _).alloc (by simp; omega) _
theorem exN_any (k : Nat) (w : World) :
    Calls Tryz.prog 65 #[.int .u64 k, .agg #[]] w fun e w' => e = .returned (.tuple #[.agg #[.int .u64 (if k < 2305843010818082053 then (k : Int) else 0)], .bool (decide (k < 2305843010818082053))]) ∧ Below w.heap.size w w' := by
  by_cases h : k < 2305843010818082053
  · rw [if_pos h, decide_eq_true h]
    exact exN_less k w (by omega)
  · rw [if_neg h, decide_eq_false h]
    exact exN_more k w (by omega)
theorem G.Sides.under {S : List Nat} {W0 w w' : World} {B : Nat} (h : G.Sides S W0 w') (hb : Below B w W0) (hS : ∀ b ∈ S, B ≤ b) (hB : B ≤ W0.heap.size) : Below B w w' :=
  hb.trans ⟨h.os, h.tape, h.output, h.size, fun k hk => h.block k (Nat.lt_of_lt_of_le hk hB) (fun hm => by have := hS k hm; omega)⟩
end Go.Proofs.YtjmhmajfkdglnaaGreatDoor
