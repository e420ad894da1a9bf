import Derived.Test.YtdaobioomoajfaaGreatMrg13
import Derived.Test.YtdaobioomoajfaaGreatMrg0
import Derived.Test.YtdaobioomoajfaaGreatChecked
import Derived.WalkKit
import Derived.ProofKit
import Derived.Test.YtdaobioomoajfaaGreatMrg10
import Derived.Laws.ResultCell
set_option linter.unusedVariables false
set_option maxRecDepth 100000
set_option maxHeartbeats 16000000
namespace Go.Proofs.YtdaobioomoajfaaGreat
open Go.RowKit
section
variable {A : Act} {w : World} {dst : Option Tmp} {ty : TypeId} {ps : String} {af : Array Edge} {gd : Option (Nat × Bool)} {x y : Operand} {b i : Nat}
theorem F.fa_prf0 (hx : A.eval x = .pointer (some ⟨b, i, none⟩)) :
    Does Tryz.prog { dst := dst, op := .fieldAddr 34 x 0, type := ty, pos := ps, after := af, guard := gd } A w fun v' w' => v' = .pointer (some ⟨b, i, none⟩) ∧ Below w.heap.size w w' := by
  have h : (execOp A.eval { dst := dst, op := .fieldAddr 34 x 0, type := ty, pos := ps, after := af, guard := gd }).run Tryz.prog w = .ok (.value (.pointer (some ⟨b, i, none⟩))) w := by generalize A.eval = ev at *; simp [execOp, hx, go_sem]
  exact does_value h ⟨rfl, Below.refl _ _⟩
theorem F.fa_prf1 (hx : A.eval x = .pointer (some ⟨b, i, none⟩)) :
    Does Tryz.prog { dst := dst, op := .fieldAddr 34 x 1, type := ty, pos := ps, after := af, guard := gd } A w fun v' w' => v' = .pointer (some ⟨b, i + 1, none⟩) ∧ Below w.heap.size w w' := by
  have h : (execOp A.eval { dst := dst, op := .fieldAddr 34 x 1, type := ty, pos := ps, after := af, guard := gd }).run Tryz.prog w = .ok (.value (.pointer (some ⟨b, i + 1, none⟩))) w := by generalize A.eval = ev at *; simp [execOp, hx, go_sem]
  exact does_value h ⟨rfl, Below.refl _ _⟩
theorem F.ld_u64 {v0 : Value} (hx : A.eval x = .pointer (some ⟨b, i, none⟩)) (h0 : w.cell? ⟨b, i, none⟩ = some v0) :
    Does Tryz.prog { dst := dst, op := .load 23 x, type := ty, pos := ps, after := af, guard := gd } A w fun v' w' => v' = v0 ∧ Below w.heap.size w w' := by
  have h : (execOp A.eval { dst := dst, op := .load 23 x, type := ty, pos := ps, after := af, guard := gd }).run Tryz.prog w = .ok (.value (v0)) w := by generalize A.eval = ev at *; simp [execOp, hx, h0, go_sem]
  exact does_value h ⟨rfl, Below.refl _ _⟩
theorem F.cl1 {F : FuncId} {at_ : Array TypeId} {r : Value} {x0 : Operand} {u0 : Value} (hcf : ∀ (args : Array Value) (w : World), (callFunc F args).run Tryz.prog w = .ok (.enter F args) w) (h0 : A.eval x0 = u0)
    (hc : Calls Tryz.prog F #[u0] w fun e w' => e = .returned r ∧ Below w.heap.size w w') :
    Does Tryz.prog { dst := dst, op := .call { callee := .value (.func F), args := #[x0], argTypes := at_ }, type := ty, pos := ps, after := af, guard := gd } A w fun v' w' => v' = r ∧ Below w.heap.size w w' := by
  have hF : A.eval (.func F) = .func (.func F) #[] #[] := rfl
  have h : (execOp A.eval { dst := dst, op := .call { callee := .value (.func F), args := #[x0], argTypes := at_ }, type := ty, pos := ps, after := af, guard := gd }).run Tryz.prog w = .ok (.enter F #[u0]) w := by generalize A.eval = ev at *; simp [execOp, hF, hcf, h0, go_sem]
  exact does_call h (hc.mono fun _ _ ⟨h, h'⟩ => ⟨r, h, rfl, h'⟩)
theorem F.as {u : Value} (hx : A.eval x = u) :
    Does Tryz.prog { dst := dst, op := .assign x, type := ty, pos := ps, after := af, guard := gd } A w fun v' w' => v' = u ∧ Below w.heap.size w w' := by
  have h : (execOp A.eval { dst := dst, op := .assign x, type := ty, pos := ps, after := af, guard := gd }).run Tryz.prog w = .ok (.value (u)) w := by generalize A.eval = ev at *; simp [execOp, hx, go_sem]
  exact does_value h ⟨rfl, Below.refl _ _⟩
theorem F.cat {a b : ByteArray} (hx : A.eval x = .string a) (hy : A.eval y = .string b) (hz : ¬ (9223372036854775807 < a.size + b.size)) :
    Does Tryz.prog { dst := dst, op := .binOp .add 9 x y 9, type := ty, pos := ps, after := af, guard := gd } A w fun v' w' => v' = .string (a ++ b) ∧ Below w.heap.size w w' := by
  have h : (execOp A.eval { dst := dst, op := .binOp .add 9 x y 9, type := ty, pos := ps, after := af, guard := gd }).run Tryz.prog w = .ok (.value (.string (a ++ b))) w := by generalize A.eval = ev at *; simp [execOp, hx, hy, hz, go_sem]
  exact does_value h ⟨rfl, Below.refl _ _⟩
end
end Go.Proofs.YtdaobioomoajfaaGreat
namespace Go.Proofs.YtdaobioomoajfaaGreat
open Go.RowKit
theorem cfF_F (args : Array Value) (w : World) : (callFunc 15 args).run Tryz.prog w = .ok (.enter 15 args) w := by kernel_rfl
theorem keepFF {w1 w2 : World} {p : Addr} {v : Value} (h : w1.cell? p = some v) (b : Below w1.heap.size w1 w2) : w2.cell? p = some v := (b.cell (p := p) (World.block_lt_of_cell? w1 _ h)).trans h
theorem putF_of (c s : Int) (u v : ByteArray) (w : World) (hu : u.size = 8) (hv : v.size = 8)
    (L1 : ∀ w, Calls Tryz.prog 15 #[.int .u64 c] w fun e w' => e = .returned (.string u) ∧ Below w.heap.size w w')
    (L2 : ∀ w, Calls Tryz.prog 15 #[.int .u64 s] w fun e w' => e = .returned (.string v) ∧ Below w.heap.size w w') :
    Calls Tryz.prog 12 #[.agg #[.int .u64 c, .int .u64 s]] w fun e w' => e = .returned (.string (u ++ v)) ∧ Below w.heap.size w w' := by
  have hb := (Below.refl _ w).alloc (Nat.le_refl _) (Obj.cells #[.int .u64 c, .int .u64 s] 34)
  have hr := heap_alloc_new w (Obj.cells #[.int .u64 c, .int .u64 s] 34)
  have q1 : ¬ (9223372036854775807 < u.size + v.size) := by omega
  go_enter Tryz.func12, Tryz.ntmps12
  go_wp2
  generalize w.alloc (Obj.cells #[.int .u64 c, .int .u64 s] 34) = X at *
  have c0 : X.drew.cell? ⟨w.heap.size, 0, none⟩ = some (.int .u64 c) := by show X.cell? _ = _; simp [World.cell?, hr]
  have c1 : X.drew.cell? ⟨w.heap.size, 1, none⟩ = some (.int .u64 s) := by show X.cell? _ = _; simp [World.cell?, hr]
  refine pool_list [.val (.pointer (some ⟨w.heap.size, 0, none⟩)),
      .val (.int .u64 c),
      .val (.string u),
      .val (.pointer (some ⟨w.heap.size, 1, none⟩)),
      .val (.int .u64 s),
      .val (.string v),
      .val (.string (u ++ v)),
      .val (.string (u ++ v))] [[1], [3], [4], [1], [6], [7], [5, 8], [9]] (fun f => [(some 3, .pointer (some ⟨w.heap.size, 0, none⟩)), (some 4, .int .u64 c), (some 5, .string u), (some 6, .pointer (some ⟨w.heap.size, 1, none⟩)), (some 7, .int .u64 s), (some 8, .string v), (some 9, .string (u ++ v)), (some 2, .string (u ++ v))]) (by kernel_rfl) (by kernel_rfl) (by kernel_rfl) (by kernel_rfl) (fun _ => by kernel_rfl) ?_ ?_
  · intro ix hix
    match ix, hix with
    | 0, _ => exact ob_val [(1, .pointer (some ⟨w.heap.size, 0, none⟩))] rfl rfl (fun _ => by kernel_rfl) (fun A w ⟨e0, _⟩ hB => F.fa_prf0 e0)
    | 1, _ => exact ob_val [(3, .pointer (some ⟨w.heap.size, 0, none⟩))] rfl rfl (fun _ => by kernel_rfl) (fun A w ⟨e0, _⟩ hB => F.ld_u64 e0 (keepFF c0 hB))
    | 2, _ => exact ob_val [(4, .int .u64 c)] rfl rfl (fun _ => by kernel_rfl) (fun A w ⟨e0, _⟩ hB => F.cl1 cfF_F e0 (L1 w))
    | 3, _ => exact ob_val [(1, .pointer (some ⟨w.heap.size, 0, none⟩))] rfl rfl (fun _ => by kernel_rfl) (fun A w ⟨e0, _⟩ hB => F.fa_prf1 e0)
    | 4, _ => exact ob_val [(6, .pointer (some ⟨w.heap.size, 1, none⟩))] rfl rfl (fun _ => by kernel_rfl) (fun A w ⟨e0, _⟩ hB => F.ld_u64 e0 (keepFF c1 hB))
    | 5, _ => exact ob_val [(7, .int .u64 s)] rfl rfl (fun _ => by kernel_rfl) (fun A w ⟨e0, _⟩ hB => F.cl1 cfF_F e0 (L2 w))
    | 6, _ => exact ob_val [(5, .string u), (8, .string v)] rfl rfl (fun _ => by kernel_rfl) (fun A w ⟨e0, e1, _⟩ hB => F.cat e0 e1 q1)
    | 7, _ => exact ob_val [(9, .string (u ++ v))] rfl rfl (fun _ => by kernel_rfl) (fun A w ⟨e0, _⟩ hB => F.as e0)
    | ix + 8, h => exact absurd h (by simp)
  intro f W2 hb2 _ _
  have hb3 := hb.drew.trans (hb2.mono hb.size)
  simp only [puts, List.foldl, Act.put, List.setIfInBounds_toArray, List.set_cons_zero, List.set_cons_succ]
  go_wp2
  go_ret
  exact ⟨rfl, hb3⟩
theorem putF_any (c s : Nat) (w : World) (hc : c < 18446744073709551616) (hs : s < 18446744073709551616) :
    Calls Tryz.prog 12 #[.agg #[.int .u64 c, .int .u64 s]] w fun e w' => e = .returned (.string (strOfNums (be8 c) ++ strOfNums (be8 s))) ∧ Below w.heap.size w w' :=
  putF_of c s _ _ w (by rw [strOfNums_size]; rfl) (by rw [strOfNums_size]; rfl) (fun w => putI_any c w hc) (fun w => putI_any s w hs)
end Go.Proofs.YtdaobioomoajfaaGreat
namespace Go.Proofs.YtdaobioomoajfaaGreat
open Go.RowKit
theorem methN (w : World) : (method 250 70 (.agg #[]) "loop.example/s02095/impl.value").run Tryz.prog w = .ok (110, .agg #[]) w := by kernel_rfl
theorem valN (w : World) :
    Calls Tryz.prog 110 #[.agg #[]] w fun e w' => e = .returned (.int .u64 2305843010818082053) ∧ w' = w.alloc (.cells #[] 70) := by
  go_enter Tryz.func110, Tryz.ntmps110
  go_wp2
  go_ret
  exact ⟨rfl, rfl⟩
theorem foldN : Array.foldl (fun (cs : Array Value) (x : Value × Nat) => cs.setIfInBounds x.snd x.fst) #[Value.int IntKind.u64 0] (#[] : Array Value).zipIdx 0 0 = #[Value.int .u64 0] := rfl
theorem exN_less (x : Int) (w : World) (h1 : x < 2305843010818082053) :
    Calls Tryz.prog 27 #[.int .u64 x, .agg #[]] w fun e w' => e = .returned (.tuple #[.agg #[.int .u64 x], .bool true]) ∧ Below w.heap.size w w' := by
  have hm := methN
  have hbd := foldN
  go_enter Tryz.func27, Tryz.ntmps27
  go_wp2_with fail
  refine (valN _).mono ?_
  rintro e w' ⟨rfl, rfl⟩
  go_wp2
  refine bodyPost_ret (v := .tuple #[.agg #[.int .u64 x], .bool true]) (by simp [results, Tryz.results27, go_sem]) rfl ⟨rfl, ?_⟩
  exact (((Below.refl _ w).alloc (Nat.le_refl _) _).alloc (by simp) _).alloc (by simp; omega) _
theorem exN_more (x : Int) (w : World) (h1 : 2305843010818082053 ≤ x) :
    Calls Tryz.prog 27 #[.int .u64 x, .agg #[]] w fun e w' => e = .returned (.tuple #[.agg #[.int .u64 0], .bool false]) ∧ Below w.heap.size w w' := by
  have hm := methN
  go_enter Tryz.func27, Tryz.ntmps27
  go_wp2_with fail
  refine (valN _).mono ?_
  rintro e w' ⟨rfl, rfl⟩
  go_wp2
  refine bodyPost_ret (v := .tuple #[.agg #[.int .u64 0], .bool false]) (by simp [results, Tryz.results27, go_sem]) rfl ⟨rfl, ?_⟩
  exact (((Below.refl _ w).alloc (Nat.le_refl _) _).alloc (by simp) _).alloc (by simp; omega) _
end Go.Proofs.YtdaobioomoajfaaGreat
namespace Go.Proofs.YtdaobioomoajfaaGreat
open Go.RowKit
theorem scaI_two (s : ByteArray) (x y : Int) (b : Bool) (w : World) (z : (s.size : Int) = 8)
    (L : ∀ w, Calls Tryz.prog 28 #[.string s] w fun e w' => e = .returned (.int .u64 x) ∧ w = w')
    (M : ∀ w, Calls Tryz.prog 27 #[.int .u64 x, .agg #[]] w fun e w' => e = .returned (.tuple #[.agg #[.int .u64 y], .bool b]) ∧ Below w.heap.size w w') :
    Calls Tryz.prog 14 #[.string s] w fun e w' => e = .returned (.tuple #[.int .u64 y, .bool b]) ∧ Below w.heap.size w w' := by
  go_enter Tryz.func14, Tryz.ntmps14
  go_wp2_with fail
  refine (L _).mono ?_
  rintro e w' ⟨rfl, rfl⟩
  go_wp2_with fail
  refine (M _).mono ?_
  rintro e w' ⟨rfl, hb⟩
  go_wp2
  go_ret2
  exact ⟨rfl, hb.alloc hb.size _⟩
end Go.Proofs.YtdaobioomoajfaaGreat
