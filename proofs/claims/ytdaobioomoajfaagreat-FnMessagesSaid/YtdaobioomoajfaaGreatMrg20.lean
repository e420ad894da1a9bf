import Derived.Test.YtdaobioomoajfaaGreatMrg19
import Derived.Test.YtdaobioomoajfaaGreatMrg17
import Derived.Test.YtdaobioomoajfaaGreatProg
import Derived.Test.YtdaobioomoajfaaGreatMrg9
import Derived.Test.YtdaobioomoajfaaGreatMrg0
set_option linter.unusedVariables false
set_option maxRecDepth 100000
set_option maxHeartbeats 16000000
namespace Go.Proofs.YtdaobioomoajfaaGreat
open Go.RowKit
namespace L
section
variable {A : Act} {w : World} {dst : Option Tmp} {ty : TypeId} {ps : String} {af : Array Edge} {gd : Option (Nat × Bool)} {x y z : Operand} {b i : Nat}
theorem cv8 {n k : Int} (hx : A.eval x = .int .i64 n) (hm : IntKind.u8.wrap n = k) : Does Tryz.prog { dst := dst, op := .convert 3 5 x, type := ty, pos := ps, after := af, guard := gd } A w fun v' w' => v' = .int .u8 k ∧ Below w.heap.size w w' := by
  have h : (execOp A.eval { dst := dst, op := .convert 3 5 x, type := ty, pos := ps, after := af, guard := gd }).run Tryz.prog w = .ok (.value (.int .u8 k)) w := by generalize A.eval = ev at *; simp [execOp, hx, hm, go_sem]
  exact does_value h ⟨rfl, Below.refl _ _⟩
theorem geT {n c : Int} (hx : A.eval x = .int .i64 n) (hy : A.eval y = .int .i64 c) (h : c ≤ n) : Does Tryz.prog { dst := dst, op := .binOp .geq 3 x y 3, type := ty, pos := ps, after := af, guard := gd } A w fun v' w' => v' = .bool true ∧ Below w.heap.size w w' := by
  have h : (execOp A.eval { dst := dst, op := .binOp .geq 3 x y 3, type := ty, pos := ps, after := af, guard := gd }).run Tryz.prog w = .ok (.value (.bool true)) w := by generalize A.eval = ev at *; simp [execOp, hx, hy, h, go_sem]
  exact does_value h ⟨rfl, Below.refl _ _⟩
theorem geF {n c : Int} (hx : A.eval x = .int .i64 n) (hy : A.eval y = .int .i64 c) (h : n < c) : Does Tryz.prog { dst := dst, op := .binOp .geq 3 x y 3, type := ty, pos := ps, after := af, guard := gd } A w fun v' w' => v' = .bool false ∧ Below w.heap.size w w' := by
  have h : (execOp A.eval { dst := dst, op := .binOp .geq 3 x y 3, type := ty, pos := ps, after := af, guard := gd }).run Tryz.prog w = .ok (.value (.bool false)) w := by generalize A.eval = ev at *; simp [execOp, hx, hy, h, go_sem]
  exact does_value h ⟨rfl, Below.refl _ _⟩
theorem leB {n c : Int} (hx : A.eval x = .int .i64 n) (hy : A.eval y = .int .i64 c) : Does Tryz.prog { dst := dst, op := .binOp .leq 3 x y 3, type := ty, pos := ps, after := af, guard := gd } A w fun v' w' => v' = .bool (decide (n ≤ c)) ∧ Below w.heap.size w w' := by
  have h : (execOp A.eval { dst := dst, op := .binOp .leq 3 x y 3, type := ty, pos := ps, after := af, guard := gd }).run Tryz.prog w = .ok (.value (.bool (decide (n ≤ c)))) w := by generalize A.eval = ev at *; simp [execOp, hx, hy, go_sem]
  exact does_value h ⟨rfl, Below.refl _ _⟩
theorem pkT {u : Value} (hx : A.eval x = .bool true) (hy : A.eval y = u) : Does Tryz.prog { dst := dst, op := .pick x y z, type := ty, pos := ps, after := af, guard := gd } A w fun v' w' => v' = u ∧ Below w.heap.size w w' := by
  have h : (execOp A.eval { dst := dst, op := .pick x y z, type := ty, pos := ps, after := af, guard := gd }).run Tryz.prog w = .ok (.value (u)) w := by generalize A.eval = ev at *; simp [execOp, hx, hy, go_sem]
  exact does_value h ⟨rfl, Below.refl _ _⟩
theorem pkF {u : Value} (hx : A.eval x = .bool false) (hy : A.eval z = u) : Does Tryz.prog { dst := dst, op := .pick x y z, type := ty, pos := ps, after := af, guard := gd } A w fun v' w' => v' = u ∧ Below w.heap.size w w' := by
  have h : (execOp A.eval { dst := dst, op := .pick x y z, type := ty, pos := ps, after := af, guard := gd }).run Tryz.prog w = .ok (.value (u)) w := by generalize A.eval = ev at *; simp [execOp, hx, hy, go_sem]
  exact does_value h ⟨rfl, Below.refl _ _⟩
theorem sl1 {a : Int} (hx : A.eval x = .int .u8 a) : Does Tryz.prog { dst := dst, op := .buildSlice 22 1 #[(0, x)], type := ty, pos := ps, after := af, guard := gd } A w fun v w' => v = .slice (some ⟨w.heap.size, 0, none⟩) 1 1 ∧ w' = w.alloc (.cells #[.int .u8 a] 5) := by
  have h : (execOp A.eval { dst := dst, op := .buildSlice 22 1 #[(0, x)], type := ty, pos := ps, after := af, guard := gd }).run Tryz.prog w = .ok (.value (.slice (some ⟨w.heap.size, 0, none⟩) 1 1)) (w.alloc (.cells #[.int .u8 a] 5)) := by generalize A.eval = ev at *; simp [execOp, hx, go_sem]
  exact does_value h ⟨rfl, rfl⟩
theorem cvS {a : Int} (hx : A.eval x = .slice (some ⟨b, 0, none⟩) 1 1) (hr : w.heap[b]? = some (.cells #[.int .u8 a] 5)) : Does Tryz.prog { dst := dst, op := .convert 22 9 x, type := ty, pos := ps, after := af, guard := gd } A w fun v' w' => v' = .string (strOfNums [a]) ∧ Below w.heap.size w w' := by
  have hc := run_convert_bytes_arg (P := Tryz.prog) w 22 5 Tryz.underlying22 Tryz.underlying5 b 0 1 1 [a] rfl (fun i hi => by
    obtain rfl : i = 0 := by omega
    simp [World.cell?, hr]) 9 Tryz.underlying9
  have h : (execOp A.eval { dst := dst, op := .convert 22 9 x, type := ty, pos := ps, after := af, guard := gd }).run Tryz.prog w = .ok (.value (.string (strOfNums [a]))) w := by generalize A.eval = ev at *; simp [execOp, hx, hc, Result.andThen]
  exact does_value h ⟨rfl, Below.refl _ _⟩
end
end L
theorem fd_c (m : Msg) (w : World) :
    Calls Tryz.prog 20 #[.agg #[.int .i64 m.kind, .string m.user, .int .u64 (m.el.1 : Int), .int .u64 (m.el.2.1 : Int), .bool m.el.2.2, .int .u64 (m.ot.1 : Int), .int .u64 (m.ot.2.1 : Int), .bool m.ot.2.2, .string m.nonce, .string m.box, .string m.mac, .int .i64 m.code], .int .u8 99] w fun e w' => e = .returned (.tuple #[.string (fld m .c), .bool (fok m .c)]) ∧ Below w.heap.size w w' := by
  have hR := Bk.new w 27 #[.int .i64 m.kind, .string m.user, .int .u64 (m.el.1 : Int), .int .u64 (m.el.2.1 : Int), .bool m.el.2.2, .int .u64 (m.ot.1 : Int), .int .u64 (m.ot.2.1 : Int), .bool m.ot.2.2, .string m.nonce, .string m.box, .string m.mac, .int .i64 m.code]
  have hB := (Below.refl _ w).alloc (Nat.le_refl _) (Obj.cells #[.int .i64 m.kind, .string m.user, .int .u64 (m.el.1 : Int), .int .u64 (m.el.2.1 : Int), .bool m.el.2.2, .int .u64 (m.ot.1 : Int), .int .u64 (m.ot.2.1 : Int), .bool m.ot.2.2, .string m.nonce, .string m.box, .string m.mac, .int .i64 m.code] 27)
  have hk8 : IntKind.u8.wrap m.code = m.code % 256 := by rw [IntKind.wrap_u8]
  by_cases h1 : 1 ≤ m.code
  · have e : fok m .c = decide (m.code ≤ 7) := by
      show decide (1 ≤ m.code ∧ m.code ≤ 7) = _
      rw [Bool.eq_iff_iff, decide_eq_true_eq, decide_eq_true_eq]
      omega
    rw [e]
    go_enter Tryz.func20, Tryz.ntmps20
    go_wp2
    generalize w.alloc _ = W at *
    obtain ⟨r0, hr0⟩ : ∃ r, r = w.heap.size := ⟨_, rfl⟩
    rw [← hr0] at hR ⊢
    clear hr0
    have d0 : W.drew.cell? ⟨r0, 0 + 11, none⟩ = some (.int .i64 m.code) := hR.cell (k := 11) rfl
    refine G.pool_listU (W := W) [] [.val (.pointer (some ⟨r0, 0 + 11, none⟩)),
        .val (.int .i64 m.code),
        .val (.int .u8 (m.code % 256)),
        .new (.cells #[.int .u8 (m.code % 256)] 5) (.cells #[.int .u8 (m.code % 256)] 5) 1001,
        .val (.string (strOfNums [m.code % 256])),
        .val (.pointer (some ⟨r0, 0 + 11, none⟩)),
        .val (.int .i64 m.code),
        .val (.bool true),
        .val (.bool true),
        .val (.pointer (some ⟨r0, 0 + 11, none⟩)),
        .val (.int .i64 m.code),
        .val (.bool (decide (m.code ≤ 7))),
        .val (.bool (decide (m.code ≤ 7))),
        .val (.string (strOfNums [m.code % 256])),
        .val (.bool (decide (m.code ≤ 7)))] [[2], [54], [55], [56], [57], [2], [59], [60], [61], [2], [63], [64], [62, 65], [58], [66]] (fun f => [(some 54, .pointer (some ⟨r0, 0 + 11, none⟩)), (some 55, .int .i64 m.code), (some 56, .int .u8 (m.code % 256)), (some 57, .slice (some ⟨f 3, 0, none⟩) 1 1), (some 58, .string (strOfNums [m.code % 256])), (some 59, .pointer (some ⟨r0, 0 + 11, none⟩)), (some 60, .int .i64 m.code), (some 61, .bool true), (some 62, .bool true), (some 63, .pointer (some ⟨r0, 0 + 11, none⟩)), (some 64, .int .i64 m.code), (some 65, .bool (decide (m.code ≤ 7))), (some 66, .bool (decide (m.code ≤ 7))), (some 4, .string (strOfNums [m.code % 256])), (some 5, .bool (decide (m.code ≤ 7)))]) (by kernel_rfl) (by kernel_rfl) (by kernel_rfl) (by kernel_rfl) (fun _ => by kernel_rfl) (G.last_of [.cells #[.int .u8 (m.code % 256)] 5] (fun F R hm => by simp at hm) (fun ob ob' k hm => by simp at hm; simp [hm]) (fun b ob ob' hm => by simp at hm)) (fun b ob ob' hm => by simp at hm) ?_ ?_
    · intro ix hix
      match ix, hix with
      | 0, _ => exact .inr ⟨rfl, G.ob_val [(2, .pointer (some ⟨r0, 0, none⟩))] rfl rfl (fun _ => by kernel_rfl) (fun A w ⟨e0, _⟩ hB => L.fa_m7 e0)⟩
      | 1, _ => exact .inr ⟨rfl, G.ob_val [(54, .pointer (some ⟨r0, 0 + 11, none⟩))] rfl rfl (fun _ => by kernel_rfl) (fun A w ⟨e0, _⟩ hB => L.ldI e0 (hB.cell d0 (by simp)))⟩
      | 2, _ => exact .inr ⟨rfl, G.ob_val [(55, .int .i64 m.code)] rfl rfl (fun _ => by kernel_rfl) (fun A w ⟨e0, _⟩ hB => L.cv8 e0 hk8)⟩
      | 3, _ => exact .inr ⟨rfl, G.ob_slc 1 [(56, .int .u8 (m.code % 256))] rfl rfl (fun _ => by kernel_rfl) (fun A w ⟨e0, _⟩ => L.sl1 e0)⟩
      | 4, _ => exact .inr ⟨rfl, G.ob_use 57 3 1001 (.cells #[.int .u8 (m.code % 256)] 5) (fun f => [(57, .slice (some ⟨f 3, 0, none⟩) 1 1)]) rfl rfl (by decide) (by kernel_rfl) rfl (fun _ => by kernel_rfl) (fun f A w ⟨e0, _⟩ hB hr => L.cvS e0 hr)⟩
      | 5, _ => exact .inr ⟨rfl, G.ob_val [(2, .pointer (some ⟨r0, 0, none⟩))] rfl rfl (fun _ => by kernel_rfl) (fun A w ⟨e0, _⟩ hB => L.fa_m7 e0)⟩
      | 6, _ => exact .inr ⟨rfl, G.ob_val [(59, .pointer (some ⟨r0, 0 + 11, none⟩))] rfl rfl (fun _ => by kernel_rfl) (fun A w ⟨e0, _⟩ hB => L.ldI e0 (hB.cell d0 (by simp)))⟩
      | 7, _ => exact .inr ⟨rfl, G.ob_val [(60, .int .i64 m.code)] rfl rfl (fun _ => by kernel_rfl) (fun A w ⟨e0, _⟩ hB => L.geT e0 rfl h1)⟩
      | 8, _ => exact .inr ⟨rfl, G.ob_val [(61, .bool true)] rfl rfl (fun _ => by kernel_rfl) (fun A w ⟨e0, _⟩ hB => L.move e0)⟩
      | 9, _ => exact .inr ⟨rfl, G.ob_val [(2, .pointer (some ⟨r0, 0, none⟩))] rfl rfl (fun _ => by kernel_rfl) (fun A w ⟨e0, _⟩ hB => L.fa_m7 e0)⟩
      | 10, _ => exact .inr ⟨rfl, G.ob_val [(63, .pointer (some ⟨r0, 0 + 11, none⟩))] rfl rfl (fun _ => by kernel_rfl) (fun A w ⟨e0, _⟩ hB => L.ldI e0 (hB.cell d0 (by simp)))⟩
      | 11, _ => exact .inr ⟨rfl, G.ob_val [(64, .int .i64 m.code)] rfl rfl (fun _ => by kernel_rfl) (fun A w ⟨e0, _⟩ hB => L.leB e0 rfl)⟩
      | 12, _ => exact .inr ⟨rfl, G.ob_val [(62, .bool true), (65, .bool (decide (m.code ≤ 7)))] rfl rfl (fun _ => by kernel_rfl) (fun A w ⟨e0, e1, _⟩ hB => L.pkT e0 e1)⟩
      | 13, _ => exact .inr ⟨rfl, G.ob_val [(58, .string (strOfNums [m.code % 256]))] rfl rfl (fun _ => by kernel_rfl) (fun A w ⟨e0, _⟩ hB => L.assign e0)⟩
      | 14, _ => exact .inr ⟨rfl, G.ob_val [(66, .bool (decide (m.code ≤ 7)))] rfl rfl (fun _ => by kernel_rfl) (fun A w ⟨e0, _⟩ hB => L.assign e0)⟩
      | ix + 15, h => exact absurd h (by simp)
    intro f W1 hS _ _ _ _
    have b1 : Below W.heap.size W W1 := (Below.refl _ W).drew.trans hS.below
    replace hB := hB.trans (b1.mono hB.size)
    clear hS b1
    simp only [puts, List.foldl, Act.put, List.setIfInBounds_toArray, List.set_cons_zero, List.set_cons_succ]
    go_wp2
    go_ret2
    exact ⟨rfl, hB⟩
  · have h1 : m.code < 1 := by omega
    have e : fok m .c = false := decide_eq_false (by omega)
    rw [e]
    go_enter Tryz.func20, Tryz.ntmps20
    go_wp2
    generalize w.alloc _ = W at *
    obtain ⟨r0, hr0⟩ : ∃ r, r = w.heap.size := ⟨_, rfl⟩
    rw [← hr0] at hR ⊢
    clear hr0
    have d0 : W.drew.cell? ⟨r0, 0 + 11, none⟩ = some (.int .i64 m.code) := hR.cell (k := 11) rfl
    refine G.pool_listU (W := W) [] [.val (.pointer (some ⟨r0, 0 + 11, none⟩)),
        .val (.int .i64 m.code),
        .val (.int .u8 (m.code % 256)),
        .new (.cells #[.int .u8 (m.code % 256)] 5) (.cells #[.int .u8 (m.code % 256)] 5) 1001,
        .val (.string (strOfNums [m.code % 256])),
        .val (.pointer (some ⟨r0, 0 + 11, none⟩)),
        .val (.int .i64 m.code),
        .val (.bool false),
        .val (.bool false),
        .val undef,
        .val undef,
        .val undef,
        .val (.bool false),
        .val (.string (strOfNums [m.code % 256])),
        .val (.bool false)] [[2], [54], [55], [56], [57], [2], [59], [60], [61], [], [], [], [62], [58], [66]] (fun f => [(some 54, .pointer (some ⟨r0, 0 + 11, none⟩)), (some 55, .int .i64 m.code), (some 56, .int .u8 (m.code % 256)), (some 57, .slice (some ⟨f 3, 0, none⟩) 1 1), (some 58, .string (strOfNums [m.code % 256])), (some 59, .pointer (some ⟨r0, 0 + 11, none⟩)), (some 60, .int .i64 m.code), (some 61, .bool false), (some 62, .bool false), (some 63, undef), (some 64, undef), (some 65, undef), (some 66, .bool false), (some 4, .string (strOfNums [m.code % 256])), (some 5, .bool false)]) (by kernel_rfl) (by kernel_rfl) (by kernel_rfl) (by kernel_rfl) (fun _ => by kernel_rfl) (G.last_of [.cells #[.int .u8 (m.code % 256)] 5] (fun F R hm => by simp at hm) (fun ob ob' k hm => by simp at hm; simp [hm]) (fun b ob ob' hm => by simp at hm)) (fun b ob ob' hm => by simp at hm) ?_ ?_
    · intro ix hix
      match ix, hix with
      | 0, _ => exact .inr ⟨rfl, G.ob_val [(2, .pointer (some ⟨r0, 0, none⟩))] rfl rfl (fun _ => by kernel_rfl) (fun A w ⟨e0, _⟩ hB => L.fa_m7 e0)⟩
      | 1, _ => exact .inr ⟨rfl, G.ob_val [(54, .pointer (some ⟨r0, 0 + 11, none⟩))] rfl rfl (fun _ => by kernel_rfl) (fun A w ⟨e0, _⟩ hB => L.ldI e0 (hB.cell d0 (by simp)))⟩
      | 2, _ => exact .inr ⟨rfl, G.ob_val [(55, .int .i64 m.code)] rfl rfl (fun _ => by kernel_rfl) (fun A w ⟨e0, _⟩ hB => L.cv8 e0 hk8)⟩
      | 3, _ => exact .inr ⟨rfl, G.ob_slc 1 [(56, .int .u8 (m.code % 256))] rfl rfl (fun _ => by kernel_rfl) (fun A w ⟨e0, _⟩ => L.sl1 e0)⟩
      | 4, _ => exact .inr ⟨rfl, G.ob_use 57 3 1001 (.cells #[.int .u8 (m.code % 256)] 5) (fun f => [(57, .slice (some ⟨f 3, 0, none⟩) 1 1)]) rfl rfl (by decide) (by kernel_rfl) rfl (fun _ => by kernel_rfl) (fun f A w ⟨e0, _⟩ hB hr => L.cvS e0 hr)⟩
      | 5, _ => exact .inr ⟨rfl, G.ob_val [(2, .pointer (some ⟨r0, 0, none⟩))] rfl rfl (fun _ => by kernel_rfl) (fun A w ⟨e0, _⟩ hB => L.fa_m7 e0)⟩
      | 6, _ => exact .inr ⟨rfl, G.ob_val [(59, .pointer (some ⟨r0, 0 + 11, none⟩))] rfl rfl (fun _ => by kernel_rfl) (fun A w ⟨e0, _⟩ hB => L.ldI e0 (hB.cell d0 (by simp)))⟩
      | 7, _ => exact .inr ⟨rfl, G.ob_val [(60, .int .i64 m.code)] rfl rfl (fun _ => by kernel_rfl) (fun A w ⟨e0, _⟩ hB => L.geF e0 rfl h1)⟩
      | 8, _ => exact .inr ⟨rfl, G.ob_val [(61, .bool false)] rfl rfl (fun _ => by kernel_rfl) (fun A w ⟨e0, _⟩ hB => L.move e0)⟩
      | 9, _ => exact .inl ⟨rfl, rfl⟩
      | 10, _ => exact .inl ⟨rfl, rfl⟩
      | 11, _ => exact .inl ⟨rfl, rfl⟩
      | 12, _ => exact .inr ⟨rfl, G.ob_val [(62, .bool false)] rfl rfl (fun _ => by kernel_rfl) (fun A w ⟨e0, _⟩ hB => L.pkF e0 rfl)⟩
      | 13, _ => exact .inr ⟨rfl, G.ob_val [(58, .string (strOfNums [m.code % 256]))] rfl rfl (fun _ => by kernel_rfl) (fun A w ⟨e0, _⟩ hB => L.assign e0)⟩
      | 14, _ => exact .inr ⟨rfl, G.ob_val [(66, .bool false)] rfl rfl (fun _ => by kernel_rfl) (fun A w ⟨e0, _⟩ hB => L.assign e0)⟩
      | ix + 15, h => exact absurd h (by simp)
    intro f W1 hS _ _ _ _
    have b1 : Below W.heap.size W W1 := (Below.refl _ W).drew.trans hS.below
    replace hB := hB.trans (b1.mono hB.size)
    clear hS b1
    simp only [puts, List.foldl, Act.put, List.setIfInBounds_toArray, List.set_cons_zero, List.set_cons_succ]
    go_wp2
    go_ret2
    exact ⟨rfl, hB⟩
end Go.Proofs.YtdaobioomoajfaaGreat
namespace Go.Proofs.YtdaobioomoajfaaGreat
open Go.RowKit
theorem wo_u (m : Msg) (w : World) :
    Calls Tryz.prog 21 #[.agg #[.int .i64 m.kind, .string m.user, .int .u64 (m.el.1 : Int), .int .u64 (m.el.2.1 : Int), .bool m.el.2.2, .int .u64 (m.ot.1 : Int), .int .u64 (m.ot.2.1 : Int), .bool m.ot.2.2, .string m.nonce, .string m.box, .string m.mac, .int .i64 m.code], .int .u8 117] w fun e w' => e = .returned (.agg (msgL (wo m .u)).toArray) ∧ Below w.heap.size w w' := by
  have hR := (Bk.new w 27 #[.int .i64 m.kind, .string m.user, .int .u64 (m.el.1 : Int), .int .u64 (m.el.2.1 : Int), .bool m.el.2.2, .int .u64 (m.ot.1 : Int), .int .u64 (m.ot.2.1 : Int), .bool m.ot.2.2, .string m.nonce, .string m.box, .string m.mac, .int .i64 m.code]).alloc (Obj.cells #[.int .i64 0, .string ⟨#[]⟩, .int .u64 0, .int .u64 0, .bool false, .int .u64 0, .int .u64 0, .bool false, .string ⟨#[]⟩, .string ⟨#[]⟩, .string ⟨#[]⟩, .int .i64 0] 27)
  have hZ := (Bk.new (w.alloc (Obj.cells #[.int .i64 m.kind, .string m.user, .int .u64 (m.el.1 : Int), .int .u64 (m.el.2.1 : Int), .bool m.el.2.2, .int .u64 (m.ot.1 : Int), .int .u64 (m.ot.2.1 : Int), .bool m.ot.2.2, .string m.nonce, .string m.box, .string m.mac, .int .i64 m.code] 27)) 27 #[.int .i64 0, .string ⟨#[]⟩, .int .u64 0, .int .u64 0, .bool false, .int .u64 0, .int .u64 0, .bool false, .string ⟨#[]⟩, .string ⟨#[]⟩, .string ⟨#[]⟩, .int .i64 0]).at (b' := w.heap.size + 1) (by simp)
  have hB := ((Below.refl _ w).alloc (Nat.le_refl _) (Obj.cells #[.int .i64 m.kind, .string m.user, .int .u64 (m.el.1 : Int), .int .u64 (m.el.2.1 : Int), .bool m.el.2.2, .int .u64 (m.ot.1 : Int), .int .u64 (m.ot.2.1 : Int), .bool m.ot.2.2, .string m.nonce, .string m.box, .string m.mac, .int .i64 m.code] 27)).alloc (by simp) (Obj.cells #[.int .i64 0, .string ⟨#[]⟩, .int .u64 0, .int .u64 0, .bool false, .int .u64 0, .int .u64 0, .bool false, .string ⟨#[]⟩, .string ⟨#[]⟩, .string ⟨#[]⟩, .int .i64 0] 27)
  obtain ⟨W, hW⟩ : ∃ W, ((w.alloc (Obj.cells #[.int .i64 m.kind, .string m.user, .int .u64 (m.el.1 : Int), .int .u64 (m.el.2.1 : Int), .bool m.el.2.2, .int .u64 (m.ot.1 : Int), .int .u64 (m.ot.2.1 : Int), .bool m.ot.2.2, .string m.nonce, .string m.box, .string m.mac, .int .i64 m.code] 27)).alloc (Obj.cells #[.int .i64 0, .string ⟨#[]⟩, .int .u64 0, .int .u64 0, .bool false, .int .u64 0, .int .u64 0, .bool false, .string ⟨#[]⟩, .string ⟨#[]⟩, .string ⟨#[]⟩, .int .i64 0] 27)) = W := ⟨_, rfl⟩
  rw [hW] at hR hZ hB
  have c0 : W.cell? ⟨w.heap.size, 0, none⟩ = some (.int .i64 m.kind) := hR.cell (k := 0) rfl
  have c1 : W.cell? ⟨w.heap.size, 1, none⟩ = some (.string m.user) := hR.cell (k := 1) rfl
  have c2 : W.cell? ⟨w.heap.size, 2, none⟩ = some (.int .u64 (m.el.1 : Int)) := hR.cell (k := 2) rfl
  have c3 : W.cell? ⟨w.heap.size, 3, none⟩ = some (.int .u64 (m.el.2.1 : Int)) := hR.cell (k := 3) rfl
  have c4 : W.cell? ⟨w.heap.size, 4, none⟩ = some (.bool m.el.2.2) := hR.cell (k := 4) rfl
  have c5 : W.cell? ⟨w.heap.size, 5, none⟩ = some (.int .u64 (m.ot.1 : Int)) := hR.cell (k := 5) rfl
  have c6 : W.cell? ⟨w.heap.size, 6, none⟩ = some (.int .u64 (m.ot.2.1 : Int)) := hR.cell (k := 6) rfl
  have c7 : W.cell? ⟨w.heap.size, 7, none⟩ = some (.bool m.ot.2.2) := hR.cell (k := 7) rfl
  have c8 : W.cell? ⟨w.heap.size, 8, none⟩ = some (.string m.nonce) := hR.cell (k := 8) rfl
  have c9 : W.cell? ⟨w.heap.size, 9, none⟩ = some (.string m.box) := hR.cell (k := 9) rfl
  have c10 : W.cell? ⟨w.heap.size, 10, none⟩ = some (.string m.mac) := hR.cell (k := 10) rfl
  have c11 : W.cell? ⟨w.heap.size, 11, none⟩ = some (.int .i64 m.code) := hR.cell (k := 11) rfl
  have g1 := hR.frz 1
  have z0 : W.cell? ⟨w.heap.size + 1, 0, none⟩ = some (.int .i64 0) := hZ.cell (k := 0) rfl
  have f0 := hZ.frz 0
  have z1 : W.cell? ⟨w.heap.size + 1, 1, none⟩ = some (.string ⟨#[]⟩) := hZ.cell (k := 1) rfl
  have f1 := hZ.frz 1
  have z2 : W.cell? ⟨w.heap.size + 1, 2, none⟩ = some (.int .u64 0) := hZ.cell (k := 2) rfl
  have f2 := hZ.frz 2
  have z3 : W.cell? ⟨w.heap.size + 1, 3, none⟩ = some (.int .u64 0) := hZ.cell (k := 3) rfl
  have f3 := hZ.frz 3
  have z4 : W.cell? ⟨w.heap.size + 1, 4, none⟩ = some (.bool false) := hZ.cell (k := 4) rfl
  have f4 := hZ.frz 4
  have z5 : W.cell? ⟨w.heap.size + 1, 5, none⟩ = some (.int .u64 0) := hZ.cell (k := 5) rfl
  have f5 := hZ.frz 5
  have z6 : W.cell? ⟨w.heap.size + 1, 6, none⟩ = some (.int .u64 0) := hZ.cell (k := 6) rfl
  have f6 := hZ.frz 6
  have z7 : W.cell? ⟨w.heap.size + 1, 7, none⟩ = some (.bool false) := hZ.cell (k := 7) rfl
  have f7 := hZ.frz 7
  have z8 : W.cell? ⟨w.heap.size + 1, 8, none⟩ = some (.string ⟨#[]⟩) := hZ.cell (k := 8) rfl
  have f8 := hZ.frz 8
  have z9 : W.cell? ⟨w.heap.size + 1, 9, none⟩ = some (.string ⟨#[]⟩) := hZ.cell (k := 9) rfl
  have f9 := hZ.frz 9
  have z10 : W.cell? ⟨w.heap.size + 1, 10, none⟩ = some (.string ⟨#[]⟩) := hZ.cell (k := 10) rfl
  have f10 := hZ.frz 10
  have z11 : W.cell? ⟨w.heap.size + 1, 11, none⟩ = some (.int .i64 0) := hZ.cell (k := 11) rfl
  have f11 := hZ.frz 11
  go_enter Tryz.func21, Tryz.ntmps21
  go_wp2
  have hn := (((((((((((((hZ.other (b' := w.heap.size) (by omega) 1 (.string ⟨#[]⟩)).set 0 (.int .i64 m.kind)).set 1 (.string ⟨#[]⟩)).set 2 (.int .u64 (m.el.1 : Int))).set 3 (.int .u64 (m.el.2.1 : Int))).set 4 (.bool m.el.2.2)).set 5 (.int .u64 (m.ot.1 : Int))).set 6 (.int .u64 (m.ot.2.1 : Int))).set 7 (.bool m.ot.2.2)).set 8 (.string m.nonce)).set 9 (.string m.box)).set 10 (.string m.mac)).set 11 (.int .i64 m.code))
  have hm := (((((((((((((hB.setCell (p := ⟨w.heap.size, 1, none⟩) (Nat.le_refl _) (.string ⟨#[]⟩)).setCell (p := ⟨w.heap.size + 1, 0, none⟩) (show w.heap.size ≤ w.heap.size + 1 by omega) (.int .i64 m.kind)).setCell (p := ⟨w.heap.size + 1, 1, none⟩) (show w.heap.size ≤ w.heap.size + 1 by omega) (.string ⟨#[]⟩)).setCell (p := ⟨w.heap.size + 1, 2, none⟩) (show w.heap.size ≤ w.heap.size + 1 by omega) (.int .u64 (m.el.1 : Int))).setCell (p := ⟨w.heap.size + 1, 3, none⟩) (show w.heap.size ≤ w.heap.size + 1 by omega) (.int .u64 (m.el.2.1 : Int))).setCell (p := ⟨w.heap.size + 1, 4, none⟩) (show w.heap.size ≤ w.heap.size + 1 by omega) (.bool m.el.2.2)).setCell (p := ⟨w.heap.size + 1, 5, none⟩) (show w.heap.size ≤ w.heap.size + 1 by omega) (.int .u64 (m.ot.1 : Int))).setCell (p := ⟨w.heap.size + 1, 6, none⟩) (show w.heap.size ≤ w.heap.size + 1 by omega) (.int .u64 (m.ot.2.1 : Int))).setCell (p := ⟨w.heap.size + 1, 7, none⟩) (show w.heap.size ≤ w.heap.size + 1 by omega) (.bool m.ot.2.2)).setCell (p := ⟨w.heap.size + 1, 8, none⟩) (show w.heap.size ≤ w.heap.size + 1 by omega) (.string m.nonce)).setCell (p := ⟨w.heap.size + 1, 9, none⟩) (show w.heap.size ≤ w.heap.size + 1 by omega) (.string m.box)).setCell (p := ⟨w.heap.size + 1, 10, none⟩) (show w.heap.size ≤ w.heap.size + 1 by omega) (.string m.mac)).setCell (p := ⟨w.heap.size + 1, 11, none⟩) (show w.heap.size ≤ w.heap.size + 1 by omega) (.int .i64 m.code))
  simp only [List.setIfInBounds_toArray, List.set_cons_zero, List.set_cons_succ] at hn
  exact bodyPost_ret (v := .agg #[.int .i64 m.kind, .string ⟨#[]⟩, .int .u64 (m.el.1 : Int), .int .u64 (m.el.2.1 : Int), .bool m.el.2.2, .int .u64 (m.ot.1 : Int), .int .u64 (m.ot.2.1 : Int), .bool m.ot.2.2, .string m.nonce, .string m.box, .string m.mac, .int .i64 m.code]) (bk_res1 (fn := Tryz.f21) (p := 4) Tryz.results21 _ rfl hn Tryz.underlying27 rfl (by kernel_rfl)) rfl ⟨rfl, hm⟩
theorem wo_e (m : Msg) (w : World) :
    Calls Tryz.prog 21 #[.agg #[.int .i64 m.kind, .string m.user, .int .u64 (m.el.1 : Int), .int .u64 (m.el.2.1 : Int), .bool m.el.2.2, .int .u64 (m.ot.1 : Int), .int .u64 (m.ot.2.1 : Int), .bool m.ot.2.2, .string m.nonce, .string m.box, .string m.mac, .int .i64 m.code], .int .u8 101] w fun e w' => e = .returned (.agg (msgL (wo m .e)).toArray) ∧ Below w.heap.size w w' := by
  have hR := (Bk.new w 27 #[.int .i64 m.kind, .string m.user, .int .u64 (m.el.1 : Int), .int .u64 (m.el.2.1 : Int), .bool m.el.2.2, .int .u64 (m.ot.1 : Int), .int .u64 (m.ot.2.1 : Int), .bool m.ot.2.2, .string m.nonce, .string m.box, .string m.mac, .int .i64 m.code]).alloc (Obj.cells #[.int .i64 0, .string ⟨#[]⟩, .int .u64 0, .int .u64 0, .bool false, .int .u64 0, .int .u64 0, .bool false, .string ⟨#[]⟩, .string ⟨#[]⟩, .string ⟨#[]⟩, .int .i64 0] 27)
  have hZ := (Bk.new (w.alloc (Obj.cells #[.int .i64 m.kind, .string m.user, .int .u64 (m.el.1 : Int), .int .u64 (m.el.2.1 : Int), .bool m.el.2.2, .int .u64 (m.ot.1 : Int), .int .u64 (m.ot.2.1 : Int), .bool m.ot.2.2, .string m.nonce, .string m.box, .string m.mac, .int .i64 m.code] 27)) 27 #[.int .i64 0, .string ⟨#[]⟩, .int .u64 0, .int .u64 0, .bool false, .int .u64 0, .int .u64 0, .bool false, .string ⟨#[]⟩, .string ⟨#[]⟩, .string ⟨#[]⟩, .int .i64 0]).at (b' := w.heap.size + 1) (by simp)
  have hB := ((Below.refl _ w).alloc (Nat.le_refl _) (Obj.cells #[.int .i64 m.kind, .string m.user, .int .u64 (m.el.1 : Int), .int .u64 (m.el.2.1 : Int), .bool m.el.2.2, .int .u64 (m.ot.1 : Int), .int .u64 (m.ot.2.1 : Int), .bool m.ot.2.2, .string m.nonce, .string m.box, .string m.mac, .int .i64 m.code] 27)).alloc (by simp) (Obj.cells #[.int .i64 0, .string ⟨#[]⟩, .int .u64 0, .int .u64 0, .bool false, .int .u64 0, .int .u64 0, .bool false, .string ⟨#[]⟩, .string ⟨#[]⟩, .string ⟨#[]⟩, .int .i64 0] 27)
  obtain ⟨W, hW⟩ : ∃ W, ((w.alloc (Obj.cells #[.int .i64 m.kind, .string m.user, .int .u64 (m.el.1 : Int), .int .u64 (m.el.2.1 : Int), .bool m.el.2.2, .int .u64 (m.ot.1 : Int), .int .u64 (m.ot.2.1 : Int), .bool m.ot.2.2, .string m.nonce, .string m.box, .string m.mac, .int .i64 m.code] 27)).alloc (Obj.cells #[.int .i64 0, .string ⟨#[]⟩, .int .u64 0, .int .u64 0, .bool false, .int .u64 0, .int .u64 0, .bool false, .string ⟨#[]⟩, .string ⟨#[]⟩, .string ⟨#[]⟩, .int .i64 0] 27)) = W := ⟨_, rfl⟩
  rw [hW] at hR hZ hB
  have c0 : W.cell? ⟨w.heap.size, 0, none⟩ = some (.int .i64 m.kind) := hR.cell (k := 0) rfl
  have c1 : W.cell? ⟨w.heap.size, 1, none⟩ = some (.string m.user) := hR.cell (k := 1) rfl
  have c2 : W.cell? ⟨w.heap.size, 2, none⟩ = some (.int .u64 (m.el.1 : Int)) := hR.cell (k := 2) rfl
  have c3 : W.cell? ⟨w.heap.size, 3, none⟩ = some (.int .u64 (m.el.2.1 : Int)) := hR.cell (k := 3) rfl
  have c4 : W.cell? ⟨w.heap.size, 4, none⟩ = some (.bool m.el.2.2) := hR.cell (k := 4) rfl
  have c5 : W.cell? ⟨w.heap.size, 5, none⟩ = some (.int .u64 (m.ot.1 : Int)) := hR.cell (k := 5) rfl
  have c6 : W.cell? ⟨w.heap.size, 6, none⟩ = some (.int .u64 (m.ot.2.1 : Int)) := hR.cell (k := 6) rfl
  have c7 : W.cell? ⟨w.heap.size, 7, none⟩ = some (.bool m.ot.2.2) := hR.cell (k := 7) rfl
  have c8 : W.cell? ⟨w.heap.size, 8, none⟩ = some (.string m.nonce) := hR.cell (k := 8) rfl
  have c9 : W.cell? ⟨w.heap.size, 9, none⟩ = some (.string m.box) := hR.cell (k := 9) rfl
  have c10 : W.cell? ⟨w.heap.size, 10, none⟩ = some (.string m.mac) := hR.cell (k := 10) rfl
  have c11 : W.cell? ⟨w.heap.size, 11, none⟩ = some (.int .i64 m.code) := hR.cell (k := 11) rfl
  have g2 := hR.frz 2
  have g3 := hR.frz 3
  have g4 := hR.frz 4
  have z0 : W.cell? ⟨w.heap.size + 1, 0, none⟩ = some (.int .i64 0) := hZ.cell (k := 0) rfl
  have f0 := hZ.frz 0
  have z1 : W.cell? ⟨w.heap.size + 1, 1, none⟩ = some (.string ⟨#[]⟩) := hZ.cell (k := 1) rfl
  have f1 := hZ.frz 1
  have z2 : W.cell? ⟨w.heap.size + 1, 2, none⟩ = some (.int .u64 0) := hZ.cell (k := 2) rfl
  have f2 := hZ.frz 2
  have z3 : W.cell? ⟨w.heap.size + 1, 3, none⟩ = some (.int .u64 0) := hZ.cell (k := 3) rfl
  have f3 := hZ.frz 3
  have z4 : W.cell? ⟨w.heap.size + 1, 4, none⟩ = some (.bool false) := hZ.cell (k := 4) rfl
  have f4 := hZ.frz 4
  have z5 : W.cell? ⟨w.heap.size + 1, 5, none⟩ = some (.int .u64 0) := hZ.cell (k := 5) rfl
  have f5 := hZ.frz 5
  have z6 : W.cell? ⟨w.heap.size + 1, 6, none⟩ = some (.int .u64 0) := hZ.cell (k := 6) rfl
  have f6 := hZ.frz 6
  have z7 : W.cell? ⟨w.heap.size + 1, 7, none⟩ = some (.bool false) := hZ.cell (k := 7) rfl
  have f7 := hZ.frz 7
  have z8 : W.cell? ⟨w.heap.size + 1, 8, none⟩ = some (.string ⟨#[]⟩) := hZ.cell (k := 8) rfl
  have f8 := hZ.frz 8
  have z9 : W.cell? ⟨w.heap.size + 1, 9, none⟩ = some (.string ⟨#[]⟩) := hZ.cell (k := 9) rfl
  have f9 := hZ.frz 9
  have z10 : W.cell? ⟨w.heap.size + 1, 10, none⟩ = some (.string ⟨#[]⟩) := hZ.cell (k := 10) rfl
  have f10 := hZ.frz 10
  have z11 : W.cell? ⟨w.heap.size + 1, 11, none⟩ = some (.int .i64 0) := hZ.cell (k := 11) rfl
  have f11 := hZ.frz 11
  go_enter Tryz.func21, Tryz.ntmps21
  go_wp2
  have hn := (((((((((((((((hZ.other (b' := w.heap.size) (by omega) 2 (.int .u64 0)).other (b' := w.heap.size) (by omega) 3 (.int .u64 0)).other (b' := w.heap.size) (by omega) 4 (.bool false)).set 0 (.int .i64 m.kind)).set 1 (.string m.user)).set 2 (.int .u64 0)).set 3 (.int .u64 0)).set 4 (.bool false)).set 5 (.int .u64 (m.ot.1 : Int))).set 6 (.int .u64 (m.ot.2.1 : Int))).set 7 (.bool m.ot.2.2)).set 8 (.string m.nonce)).set 9 (.string m.box)).set 10 (.string m.mac)).set 11 (.int .i64 m.code))
  have hm := (((((((((((((((hB.setCell (p := ⟨w.heap.size, 2, none⟩) (Nat.le_refl _) (.int .u64 0)).setCell (p := ⟨w.heap.size, 3, none⟩) (Nat.le_refl _) (.int .u64 0)).setCell (p := ⟨w.heap.size, 4, none⟩) (Nat.le_refl _) (.bool false)).setCell (p := ⟨w.heap.size + 1, 0, none⟩) (show w.heap.size ≤ w.heap.size + 1 by omega) (.int .i64 m.kind)).setCell (p := ⟨w.heap.size + 1, 1, none⟩) (show w.heap.size ≤ w.heap.size + 1 by omega) (.string m.user)).setCell (p := ⟨w.heap.size + 1, 2, none⟩) (show w.heap.size ≤ w.heap.size + 1 by omega) (.int .u64 0)).setCell (p := ⟨w.heap.size + 1, 3, none⟩) (show w.heap.size ≤ w.heap.size + 1 by omega) (.int .u64 0)).setCell (p := ⟨w.heap.size + 1, 4, none⟩) (show w.heap.size ≤ w.heap.size + 1 by omega) (.bool false)).setCell (p := ⟨w.heap.size + 1, 5, none⟩) (show w.heap.size ≤ w.heap.size + 1 by omega) (.int .u64 (m.ot.1 : Int))).setCell (p := ⟨w.heap.size + 1, 6, none⟩) (show w.heap.size ≤ w.heap.size + 1 by omega) (.int .u64 (m.ot.2.1 : Int))).setCell (p := ⟨w.heap.size + 1, 7, none⟩) (show w.heap.size ≤ w.heap.size + 1 by omega) (.bool m.ot.2.2)).setCell (p := ⟨w.heap.size + 1, 8, none⟩) (show w.heap.size ≤ w.heap.size + 1 by omega) (.string m.nonce)).setCell (p := ⟨w.heap.size + 1, 9, none⟩) (show w.heap.size ≤ w.heap.size + 1 by omega) (.string m.box)).setCell (p := ⟨w.heap.size + 1, 10, none⟩) (show w.heap.size ≤ w.heap.size + 1 by omega) (.string m.mac)).setCell (p := ⟨w.heap.size + 1, 11, none⟩) (show w.heap.size ≤ w.heap.size + 1 by omega) (.int .i64 m.code))
  simp only [List.setIfInBounds_toArray, List.set_cons_zero, List.set_cons_succ] at hn
  exact bodyPost_ret (v := .agg #[.int .i64 m.kind, .string m.user, .int .u64 0, .int .u64 0, .bool false, .int .u64 (m.ot.1 : Int), .int .u64 (m.ot.2.1 : Int), .bool m.ot.2.2, .string m.nonce, .string m.box, .string m.mac, .int .i64 m.code]) (bk_res1 (fn := Tryz.f21) (p := 4) Tryz.results21 _ rfl hn Tryz.underlying27 rfl (by kernel_rfl)) rfl ⟨rfl, hm⟩
theorem wo_o (m : Msg) (w : World) :
    Calls Tryz.prog 21 #[.agg #[.int .i64 m.kind, .string m.user, .int .u64 (m.el.1 : Int), .int .u64 (m.el.2.1 : Int), .bool m.el.2.2, .int .u64 (m.ot.1 : Int), .int .u64 (m.ot.2.1 : Int), .bool m.ot.2.2, .string m.nonce, .string m.box, .string m.mac, .int .i64 m.code], .int .u8 111] w fun e w' => e = .returned (.agg (msgL (wo m .o)).toArray) ∧ Below w.heap.size w w' := by
  have hR := (Bk.new w 27 #[.int .i64 m.kind, .string m.user, .int .u64 (m.el.1 : Int), .int .u64 (m.el.2.1 : Int), .bool m.el.2.2, .int .u64 (m.ot.1 : Int), .int .u64 (m.ot.2.1 : Int), .bool m.ot.2.2, .string m.nonce, .string m.box, .string m.mac, .int .i64 m.code]).alloc (Obj.cells #[.int .i64 0, .string ⟨#[]⟩, .int .u64 0, .int .u64 0, .bool false, .int .u64 0, .int .u64 0, .bool false, .string ⟨#[]⟩, .string ⟨#[]⟩, .string ⟨#[]⟩, .int .i64 0] 27)
  have hZ := (Bk.new (w.alloc (Obj.cells #[.int .i64 m.kind, .string m.user, .int .u64 (m.el.1 : Int), .int .u64 (m.el.2.1 : Int), .bool m.el.2.2, .int .u64 (m.ot.1 : Int), .int .u64 (m.ot.2.1 : Int), .bool m.ot.2.2, .string m.nonce, .string m.box, .string m.mac, .int .i64 m.code] 27)) 27 #[.int .i64 0, .string ⟨#[]⟩, .int .u64 0, .int .u64 0, .bool false, .int .u64 0, .int .u64 0, .bool false, .string ⟨#[]⟩, .string ⟨#[]⟩, .string ⟨#[]⟩, .int .i64 0]).at (b' := w.heap.size + 1) (by simp)
  have hB := ((Below.refl _ w).alloc (Nat.le_refl _) (Obj.cells #[.int .i64 m.kind, .string m.user, .int .u64 (m.el.1 : Int), .int .u64 (m.el.2.1 : Int), .bool m.el.2.2, .int .u64 (m.ot.1 : Int), .int .u64 (m.ot.2.1 : Int), .bool m.ot.2.2, .string m.nonce, .string m.box, .string m.mac, .int .i64 m.code] 27)).alloc (by simp) (Obj.cells #[.int .i64 0, .string ⟨#[]⟩, .int .u64 0, .int .u64 0, .bool false, .int .u64 0, .int .u64 0, .bool false, .string ⟨#[]⟩, .string ⟨#[]⟩, .string ⟨#[]⟩, .int .i64 0] 27)
  obtain ⟨W, hW⟩ : ∃ W, ((w.alloc (Obj.cells #[.int .i64 m.kind, .string m.user, .int .u64 (m.el.1 : Int), .int .u64 (m.el.2.1 : Int), .bool m.el.2.2, .int .u64 (m.ot.1 : Int), .int .u64 (m.ot.2.1 : Int), .bool m.ot.2.2, .string m.nonce, .string m.box, .string m.mac, .int .i64 m.code] 27)).alloc (Obj.cells #[.int .i64 0, .string ⟨#[]⟩, .int .u64 0, .int .u64 0, .bool false, .int .u64 0, .int .u64 0, .bool false, .string ⟨#[]⟩, .string ⟨#[]⟩, .string ⟨#[]⟩, .int .i64 0] 27)) = W := ⟨_, rfl⟩
  rw [hW] at hR hZ hB
  have c0 : W.cell? ⟨w.heap.size, 0, none⟩ = some (.int .i64 m.kind) := hR.cell (k := 0) rfl
  have c1 : W.cell? ⟨w.heap.size, 1, none⟩ = some (.string m.user) := hR.cell (k := 1) rfl
  have c2 : W.cell? ⟨w.heap.size, 2, none⟩ = some (.int .u64 (m.el.1 : Int)) := hR.cell (k := 2) rfl
  have c3 : W.cell? ⟨w.heap.size, 3, none⟩ = some (.int .u64 (m.el.2.1 : Int)) := hR.cell (k := 3) rfl
  have c4 : W.cell? ⟨w.heap.size, 4, none⟩ = some (.bool m.el.2.2) := hR.cell (k := 4) rfl
  have c5 : W.cell? ⟨w.heap.size, 5, none⟩ = some (.int .u64 (m.ot.1 : Int)) := hR.cell (k := 5) rfl
  have c6 : W.cell? ⟨w.heap.size, 6, none⟩ = some (.int .u64 (m.ot.2.1 : Int)) := hR.cell (k := 6) rfl
  have c7 : W.cell? ⟨w.heap.size, 7, none⟩ = some (.bool m.ot.2.2) := hR.cell (k := 7) rfl
  have c8 : W.cell? ⟨w.heap.size, 8, none⟩ = some (.string m.nonce) := hR.cell (k := 8) rfl
  have c9 : W.cell? ⟨w.heap.size, 9, none⟩ = some (.string m.box) := hR.cell (k := 9) rfl
  have c10 : W.cell? ⟨w.heap.size, 10, none⟩ = some (.string m.mac) := hR.cell (k := 10) rfl
  have c11 : W.cell? ⟨w.heap.size, 11, none⟩ = some (.int .i64 m.code) := hR.cell (k := 11) rfl
  have g5 := hR.frz 5
  have g6 := hR.frz 6
  have g7 := hR.frz 7
  have z0 : W.cell? ⟨w.heap.size + 1, 0, none⟩ = some (.int .i64 0) := hZ.cell (k := 0) rfl
  have f0 := hZ.frz 0
  have z1 : W.cell? ⟨w.heap.size + 1, 1, none⟩ = some (.string ⟨#[]⟩) := hZ.cell (k := 1) rfl
  have f1 := hZ.frz 1
  have z2 : W.cell? ⟨w.heap.size + 1, 2, none⟩ = some (.int .u64 0) := hZ.cell (k := 2) rfl
  have f2 := hZ.frz 2
  have z3 : W.cell? ⟨w.heap.size + 1, 3, none⟩ = some (.int .u64 0) := hZ.cell (k := 3) rfl
  have f3 := hZ.frz 3
  have z4 : W.cell? ⟨w.heap.size + 1, 4, none⟩ = some (.bool false) := hZ.cell (k := 4) rfl
  have f4 := hZ.frz 4
  have z5 : W.cell? ⟨w.heap.size + 1, 5, none⟩ = some (.int .u64 0) := hZ.cell (k := 5) rfl
  have f5 := hZ.frz 5
  have z6 : W.cell? ⟨w.heap.size + 1, 6, none⟩ = some (.int .u64 0) := hZ.cell (k := 6) rfl
  have f6 := hZ.frz 6
  have z7 : W.cell? ⟨w.heap.size + 1, 7, none⟩ = some (.bool false) := hZ.cell (k := 7) rfl
  have f7 := hZ.frz 7
  have z8 : W.cell? ⟨w.heap.size + 1, 8, none⟩ = some (.string ⟨#[]⟩) := hZ.cell (k := 8) rfl
  have f8 := hZ.frz 8
  have z9 : W.cell? ⟨w.heap.size + 1, 9, none⟩ = some (.string ⟨#[]⟩) := hZ.cell (k := 9) rfl
  have f9 := hZ.frz 9
  have z10 : W.cell? ⟨w.heap.size + 1, 10, none⟩ = some (.string ⟨#[]⟩) := hZ.cell (k := 10) rfl
  have f10 := hZ.frz 10
  have z11 : W.cell? ⟨w.heap.size + 1, 11, none⟩ = some (.int .i64 0) := hZ.cell (k := 11) rfl
  have f11 := hZ.frz 11
  go_enter Tryz.func21, Tryz.ntmps21
  go_wp2
  have hn := (((((((((((((((hZ.other (b' := w.heap.size) (by omega) 5 (.int .u64 0)).other (b' := w.heap.size) (by omega) 6 (.int .u64 0)).other (b' := w.heap.size) (by omega) 7 (.bool false)).set 0 (.int .i64 m.kind)).set 1 (.string m.user)).set 2 (.int .u64 (m.el.1 : Int))).set 3 (.int .u64 (m.el.2.1 : Int))).set 4 (.bool m.el.2.2)).set 5 (.int .u64 0)).set 6 (.int .u64 0)).set 7 (.bool false)).set 8 (.string m.nonce)).set 9 (.string m.box)).set 10 (.string m.mac)).set 11 (.int .i64 m.code))
  have hm := (((((((((((((((hB.setCell (p := ⟨w.heap.size, 5, none⟩) (Nat.le_refl _) (.int .u64 0)).setCell (p := ⟨w.heap.size, 6, none⟩) (Nat.le_refl _) (.int .u64 0)).setCell (p := ⟨w.heap.size, 7, none⟩) (Nat.le_refl _) (.bool false)).setCell (p := ⟨w.heap.size + 1, 0, none⟩) (show w.heap.size ≤ w.heap.size + 1 by omega) (.int .i64 m.kind)).setCell (p := ⟨w.heap.size + 1, 1, none⟩) (show w.heap.size ≤ w.heap.size + 1 by omega) (.string m.user)).setCell (p := ⟨w.heap.size + 1, 2, none⟩) (show w.heap.size ≤ w.heap.size + 1 by omega) (.int .u64 (m.el.1 : Int))).setCell (p := ⟨w.heap.size + 1, 3, none⟩) (show w.heap.size ≤ w.heap.size + 1 by omega) (.int .u64 (m.el.2.1 : Int))).setCell (p := ⟨w.heap.size + 1, 4, none⟩) (show w.heap.size ≤ w.heap.size + 1 by omega) (.bool m.el.2.2)).setCell (p := ⟨w.heap.size + 1, 5, none⟩) (show w.heap.size ≤ w.heap.size + 1 by omega) (.int .u64 0)).setCell (p := ⟨w.heap.size + 1, 6, none⟩) (show w.heap.size ≤ w.heap.size + 1 by omega) (.int .u64 0)).setCell (p := ⟨w.heap.size + 1, 7, none⟩) (show w.heap.size ≤ w.heap.size + 1 by omega) (.bool false)).setCell (p := ⟨w.heap.size + 1, 8, none⟩) (show w.heap.size ≤ w.heap.size + 1 by omega) (.string m.nonce)).setCell (p := ⟨w.heap.size + 1, 9, none⟩) (show w.heap.size ≤ w.heap.size + 1 by omega) (.string m.box)).setCell (p := ⟨w.heap.size + 1, 10, none⟩) (show w.heap.size ≤ w.heap.size + 1 by omega) (.string m.mac)).setCell (p := ⟨w.heap.size + 1, 11, none⟩) (show w.heap.size ≤ w.heap.size + 1 by omega) (.int .i64 m.code))
  simp only [List.setIfInBounds_toArray, List.set_cons_zero, List.set_cons_succ] at hn
  exact bodyPost_ret (v := .agg #[.int .i64 m.kind, .string m.user, .int .u64 (m.el.1 : Int), .int .u64 (m.el.2.1 : Int), .bool m.el.2.2, .int .u64 0, .int .u64 0, .bool false, .string m.nonce, .string m.box, .string m.mac, .int .i64 m.code]) (bk_res1 (fn := Tryz.f21) (p := 4) Tryz.results21 _ rfl hn Tryz.underlying27 rfl (by kernel_rfl)) rfl ⟨rfl, hm⟩
theorem wo_n (m : Msg) (w : World) :
    Calls Tryz.prog 21 #[.agg #[.int .i64 m.kind, .string m.user, .int .u64 (m.el.1 : Int), .int .u64 (m.el.2.1 : Int), .bool m.el.2.2, .int .u64 (m.ot.1 : Int), .int .u64 (m.ot.2.1 : Int), .bool m.ot.2.2, .string m.nonce, .string m.box, .string m.mac, .int .i64 m.code], .int .u8 110] w fun e w' => e = .returned (.agg (msgL (wo m .n)).toArray) ∧ Below w.heap.size w w' := by
  have hR := (Bk.new w 27 #[.int .i64 m.kind, .string m.user, .int .u64 (m.el.1 : Int), .int .u64 (m.el.2.1 : Int), .bool m.el.2.2, .int .u64 (m.ot.1 : Int), .int .u64 (m.ot.2.1 : Int), .bool m.ot.2.2, .string m.nonce, .string m.box, .string m.mac, .int .i64 m.code]).alloc (Obj.cells #[.int .i64 0, .string ⟨#[]⟩, .int .u64 0, .int .u64 0, .bool false, .int .u64 0, .int .u64 0, .bool false, .string ⟨#[]⟩, .string ⟨#[]⟩, .string ⟨#[]⟩, .int .i64 0] 27)
  have hZ := (Bk.new (w.alloc (Obj.cells #[.int .i64 m.kind, .string m.user, .int .u64 (m.el.1 : Int), .int .u64 (m.el.2.1 : Int), .bool m.el.2.2, .int .u64 (m.ot.1 : Int), .int .u64 (m.ot.2.1 : Int), .bool m.ot.2.2, .string m.nonce, .string m.box, .string m.mac, .int .i64 m.code] 27)) 27 #[.int .i64 0, .string ⟨#[]⟩, .int .u64 0, .int .u64 0, .bool false, .int .u64 0, .int .u64 0, .bool false, .string ⟨#[]⟩, .string ⟨#[]⟩, .string ⟨#[]⟩, .int .i64 0]).at (b' := w.heap.size + 1) (by simp)
  have hB := ((Below.refl _ w).alloc (Nat.le_refl _) (Obj.cells #[.int .i64 m.kind, .string m.user, .int .u64 (m.el.1 : Int), .int .u64 (m.el.2.1 : Int), .bool m.el.2.2, .int .u64 (m.ot.1 : Int), .int .u64 (m.ot.2.1 : Int), .bool m.ot.2.2, .string m.nonce, .string m.box, .string m.mac, .int .i64 m.code] 27)).alloc (by simp) (Obj.cells #[.int .i64 0, .string ⟨#[]⟩, .int .u64 0, .int .u64 0, .bool false, .int .u64 0, .int .u64 0, .bool false, .string ⟨#[]⟩, .string ⟨#[]⟩, .string ⟨#[]⟩, .int .i64 0] 27)
  obtain ⟨W, hW⟩ : ∃ W, ((w.alloc (Obj.cells #[.int .i64 m.kind, .string m.user, .int .u64 (m.el.1 : Int), .int .u64 (m.el.2.1 : Int), .bool m.el.2.2, .int .u64 (m.ot.1 : Int), .int .u64 (m.ot.2.1 : Int), .bool m.ot.2.2, .string m.nonce, .string m.box, .string m.mac, .int .i64 m.code] 27)).alloc (Obj.cells #[.int .i64 0, .string ⟨#[]⟩, .int .u64 0, .int .u64 0, .bool false, .int .u64 0, .int .u64 0, .bool false, .string ⟨#[]⟩, .string ⟨#[]⟩, .string ⟨#[]⟩, .int .i64 0] 27)) = W := ⟨_, rfl⟩
  rw [hW] at hR hZ hB
  have c0 : W.cell? ⟨w.heap.size, 0, none⟩ = some (.int .i64 m.kind) := hR.cell (k := 0) rfl
  have c1 : W.cell? ⟨w.heap.size, 1, none⟩ = some (.string m.user) := hR.cell (k := 1) rfl
  have c2 : W.cell? ⟨w.heap.size, 2, none⟩ = some (.int .u64 (m.el.1 : Int)) := hR.cell (k := 2) rfl
  have c3 : W.cell? ⟨w.heap.size, 3, none⟩ = some (.int .u64 (m.el.2.1 : Int)) := hR.cell (k := 3) rfl
  have c4 : W.cell? ⟨w.heap.size, 4, none⟩ = some (.bool m.el.2.2) := hR.cell (k := 4) rfl
  have c5 : W.cell? ⟨w.heap.size, 5, none⟩ = some (.int .u64 (m.ot.1 : Int)) := hR.cell (k := 5) rfl
  have c6 : W.cell? ⟨w.heap.size, 6, none⟩ = some (.int .u64 (m.ot.2.1 : Int)) := hR.cell (k := 6) rfl
  have c7 : W.cell? ⟨w.heap.size, 7, none⟩ = some (.bool m.ot.2.2) := hR.cell (k := 7) rfl
  have c8 : W.cell? ⟨w.heap.size, 8, none⟩ = some (.string m.nonce) := hR.cell (k := 8) rfl
  have c9 : W.cell? ⟨w.heap.size, 9, none⟩ = some (.string m.box) := hR.cell (k := 9) rfl
  have c10 : W.cell? ⟨w.heap.size, 10, none⟩ = some (.string m.mac) := hR.cell (k := 10) rfl
  have c11 : W.cell? ⟨w.heap.size, 11, none⟩ = some (.int .i64 m.code) := hR.cell (k := 11) rfl
  have g8 := hR.frz 8
  have z0 : W.cell? ⟨w.heap.size + 1, 0, none⟩ = some (.int .i64 0) := hZ.cell (k := 0) rfl
  have f0 := hZ.frz 0
  have z1 : W.cell? ⟨w.heap.size + 1, 1, none⟩ = some (.string ⟨#[]⟩) := hZ.cell (k := 1) rfl
  have f1 := hZ.frz 1
  have z2 : W.cell? ⟨w.heap.size + 1, 2, none⟩ = some (.int .u64 0) := hZ.cell (k := 2) rfl
  have f2 := hZ.frz 2
  have z3 : W.cell? ⟨w.heap.size + 1, 3, none⟩ = some (.int .u64 0) := hZ.cell (k := 3) rfl
  have f3 := hZ.frz 3
  have z4 : W.cell? ⟨w.heap.size + 1, 4, none⟩ = some (.bool false) := hZ.cell (k := 4) rfl
  have f4 := hZ.frz 4
  have z5 : W.cell? ⟨w.heap.size + 1, 5, none⟩ = some (.int .u64 0) := hZ.cell (k := 5) rfl
  have f5 := hZ.frz 5
  have z6 : W.cell? ⟨w.heap.size + 1, 6, none⟩ = some (.int .u64 0) := hZ.cell (k := 6) rfl
  have f6 := hZ.frz 6
  have z7 : W.cell? ⟨w.heap.size + 1, 7, none⟩ = some (.bool false) := hZ.cell (k := 7) rfl
  have f7 := hZ.frz 7
  have z8 : W.cell? ⟨w.heap.size + 1, 8, none⟩ = some (.string ⟨#[]⟩) := hZ.cell (k := 8) rfl
  have f8 := hZ.frz 8
  have z9 : W.cell? ⟨w.heap.size + 1, 9, none⟩ = some (.string ⟨#[]⟩) := hZ.cell (k := 9) rfl
  have f9 := hZ.frz 9
  have z10 : W.cell? ⟨w.heap.size + 1, 10, none⟩ = some (.string ⟨#[]⟩) := hZ.cell (k := 10) rfl
  have f10 := hZ.frz 10
  have z11 : W.cell? ⟨w.heap.size + 1, 11, none⟩ = some (.int .i64 0) := hZ.cell (k := 11) rfl
  have f11 := hZ.frz 11
  go_enter Tryz.func21, Tryz.ntmps21
  go_wp2
  have hn := (((((((((((((hZ.other (b' := w.heap.size) (by omega) 8 (.string ⟨#[]⟩)).set 0 (.int .i64 m.kind)).set 1 (.string m.user)).set 2 (.int .u64 (m.el.1 : Int))).set 3 (.int .u64 (m.el.2.1 : Int))).set 4 (.bool m.el.2.2)).set 5 (.int .u64 (m.ot.1 : Int))).set 6 (.int .u64 (m.ot.2.1 : Int))).set 7 (.bool m.ot.2.2)).set 8 (.string ⟨#[]⟩)).set 9 (.string m.box)).set 10 (.string m.mac)).set 11 (.int .i64 m.code))
  have hm := (((((((((((((hB.setCell (p := ⟨w.heap.size, 8, none⟩) (Nat.le_refl _) (.string ⟨#[]⟩)).setCell (p := ⟨w.heap.size + 1, 0, none⟩) (show w.heap.size ≤ w.heap.size + 1 by omega) (.int .i64 m.kind)).setCell (p := ⟨w.heap.size + 1, 1, none⟩) (show w.heap.size ≤ w.heap.size + 1 by omega) (.string m.user)).setCell (p := ⟨w.heap.size + 1, 2, none⟩) (show w.heap.size ≤ w.heap.size + 1 by omega) (.int .u64 (m.el.1 : Int))).setCell (p := ⟨w.heap.size + 1, 3, none⟩) (show w.heap.size ≤ w.heap.size + 1 by omega) (.int .u64 (m.el.2.1 : Int))).setCell (p := ⟨w.heap.size + 1, 4, none⟩) (show w.heap.size ≤ w.heap.size + 1 by omega) (.bool m.el.2.2)).setCell (p := ⟨w.heap.size + 1, 5, none⟩) (show w.heap.size ≤ w.heap.size + 1 by omega) (.int .u64 (m.ot.1 : Int))).setCell (p := ⟨w.heap.size + 1, 6, none⟩) (show w.heap.size ≤ w.heap.size + 1 by omega) (.int .u64 (m.ot.2.1 : Int))).setCell (p := ⟨w.heap.size + 1, 7, none⟩) (show w.heap.size ≤ w.heap.size + 1 by omega) (.bool m.ot.2.2)).setCell (p := ⟨w.heap.size + 1, 8, none⟩) (show w.heap.size ≤ w.heap.size + 1 by omega) (.string ⟨#[]⟩)).setCell (p := ⟨w.heap.size + 1, 9, none⟩) (show w.heap.size ≤ w.heap.size + 1 by omega) (.string m.box)).setCell (p := ⟨w.heap.size + 1, 10, none⟩) (show w.heap.size ≤ w.heap.size + 1 by omega) (.string m.mac)).setCell (p := ⟨w.heap.size + 1, 11, none⟩) (show w.heap.size ≤ w.heap.size + 1 by omega) (.int .i64 m.code))
  simp only [List.setIfInBounds_toArray, List.set_cons_zero, List.set_cons_succ] at hn
  exact bodyPost_ret (v := .agg #[.int .i64 m.kind, .string m.user, .int .u64 (m.el.1 : Int), .int .u64 (m.el.2.1 : Int), .bool m.el.2.2, .int .u64 (m.ot.1 : Int), .int .u64 (m.ot.2.1 : Int), .bool m.ot.2.2, .string ⟨#[]⟩, .string m.box, .string m.mac, .int .i64 m.code]) (bk_res1 (fn := Tryz.f21) (p := 4) Tryz.results21 _ rfl hn Tryz.underlying27 rfl (by kernel_rfl)) rfl ⟨rfl, hm⟩
theorem wo_b (m : Msg) (w : World) :
    Calls Tryz.prog 21 #[.agg #[.int .i64 m.kind, .string m.user, .int .u64 (m.el.1 : Int), .int .u64 (m.el.2.1 : Int), .bool m.el.2.2, .int .u64 (m.ot.1 : Int), .int .u64 (m.ot.2.1 : Int), .bool m.ot.2.2, .string m.nonce, .string m.box, .string m.mac, .int .i64 m.code], .int .u8 98] w fun e w' => e = .returned (.agg (msgL (wo m .b)).toArray) ∧ Below w.heap.size w w' := by
  have hR := (Bk.new w 27 #[.int .i64 m.kind, .string m.user, .int .u64 (m.el.1 : Int), .int .u64 (m.el.2.1 : Int), .bool m.el.2.2, .int .u64 (m.ot.1 : Int), .int .u64 (m.ot.2.1 : Int), .bool m.ot.2.2, .string m.nonce, .string m.box, .string m.mac, .int .i64 m.code]).alloc (Obj.cells #[.int .i64 0, .string ⟨#[]⟩, .int .u64 0, .int .u64 0, .bool false, .int .u64 0, .int .u64 0, .bool false, .string ⟨#[]⟩, .string ⟨#[]⟩, .string ⟨#[]⟩, .int .i64 0] 27)
  have hZ := (Bk.new (w.alloc (Obj.cells #[.int .i64 m.kind, .string m.user, .int .u64 (m.el.1 : Int), .int .u64 (m.el.2.1 : Int), .bool m.el.2.2, .int .u64 (m.ot.1 : Int), .int .u64 (m.ot.2.1 : Int), .bool m.ot.2.2, .string m.nonce, .string m.box, .string m.mac, .int .i64 m.code] 27)) 27 #[.int .i64 0, .string ⟨#[]⟩, .int .u64 0, .int .u64 0, .bool false, .int .u64 0, .int .u64 0, .bool false, .string ⟨#[]⟩, .string ⟨#[]⟩, .string ⟨#[]⟩, .int .i64 0]).at (b' := w.heap.size + 1) (by simp)
  have hB := ((Below.refl _ w).alloc (Nat.le_refl _) (Obj.cells #[.int .i64 m.kind, .string m.user, .int .u64 (m.el.1 : Int), .int .u64 (m.el.2.1 : Int), .bool m.el.2.2, .int .u64 (m.ot.1 : Int), .int .u64 (m.ot.2.1 : Int), .bool m.ot.2.2, .string m.nonce, .string m.box, .string m.mac, .int .i64 m.code] 27)).alloc (by simp) (Obj.cells #[.int .i64 0, .string ⟨#[]⟩, .int .u64 0, .int .u64 0, .bool false, .int .u64 0, .int .u64 0, .bool false, .string ⟨#[]⟩, .string ⟨#[]⟩, .string ⟨#[]⟩, .int .i64 0] 27)
  obtain ⟨W, hW⟩ : ∃ W, ((w.alloc (Obj.cells #[.int .i64 m.kind, .string m.user, .int .u64 (m.el.1 : Int), .int .u64 (m.el.2.1 : Int), .bool m.el.2.2, .int .u64 (m.ot.1 : Int), .int .u64 (m.ot.2.1 : Int), .bool m.ot.2.2, .string m.nonce, .string m.box, .string m.mac, .int .i64 m.code] 27)).alloc (Obj.cells #[.int .i64 0, .string ⟨#[]⟩, .int .u64 0, .int .u64 0, .bool false, .int .u64 0, .int .u64 0, .bool false, .string ⟨#[]⟩, .string ⟨#[]⟩, .string ⟨#[]⟩, .int .i64 0] 27)) = W := ⟨_, rfl⟩
  rw [hW] at hR hZ hB
  have c0 : W.cell? ⟨w.heap.size, 0, none⟩ = some (.int .i64 m.kind) := hR.cell (k := 0) rfl
  have c1 : W.cell? ⟨w.heap.size, 1, none⟩ = some (.string m.user) := hR.cell (k := 1) rfl
  have c2 : W.cell? ⟨w.heap.size, 2, none⟩ = some (.int .u64 (m.el.1 : Int)) := hR.cell (k := 2) rfl
  have c3 : W.cell? ⟨w.heap.size, 3, none⟩ = some (.int .u64 (m.el.2.1 : Int)) := hR.cell (k := 3) rfl
  have c4 : W.cell? ⟨w.heap.size, 4, none⟩ = some (.bool m.el.2.2) := hR.cell (k := 4) rfl
  have c5 : W.cell? ⟨w.heap.size, 5, none⟩ = some (.int .u64 (m.ot.1 : Int)) := hR.cell (k := 5) rfl
  have c6 : W.cell? ⟨w.heap.size, 6, none⟩ = some (.int .u64 (m.ot.2.1 : Int)) := hR.cell (k := 6) rfl
  have c7 : W.cell? ⟨w.heap.size, 7, none⟩ = some (.bool m.ot.2.2) := hR.cell (k := 7) rfl
  have c8 : W.cell? ⟨w.heap.size, 8, none⟩ = some (.string m.nonce) := hR.cell (k := 8) rfl
  have c9 : W.cell? ⟨w.heap.size, 9, none⟩ = some (.string m.box) := hR.cell (k := 9) rfl
  have c10 : W.cell? ⟨w.heap.size, 10, none⟩ = some (.string m.mac) := hR.cell (k := 10) rfl
  have c11 : W.cell? ⟨w.heap.size, 11, none⟩ = some (.int .i64 m.code) := hR.cell (k := 11) rfl
  have g9 := hR.frz 9
  have z0 : W.cell? ⟨w.heap.size + 1, 0, none⟩ = some (.int .i64 0) := hZ.cell (k := 0) rfl
  have f0 := hZ.frz 0
  have z1 : W.cell? ⟨w.heap.size + 1, 1, none⟩ = some (.string ⟨#[]⟩) := hZ.cell (k := 1) rfl
  have f1 := hZ.frz 1
  have z2 : W.cell? ⟨w.heap.size + 1, 2, none⟩ = some (.int .u64 0) := hZ.cell (k := 2) rfl
  have f2 := hZ.frz 2
  have z3 : W.cell? ⟨w.heap.size + 1, 3, none⟩ = some (.int .u64 0) := hZ.cell (k := 3) rfl
  have f3 := hZ.frz 3
  have z4 : W.cell? ⟨w.heap.size + 1, 4, none⟩ = some (.bool false) := hZ.cell (k := 4) rfl
  have f4 := hZ.frz 4
  have z5 : W.cell? ⟨w.heap.size + 1, 5, none⟩ = some (.int .u64 0) := hZ.cell (k := 5) rfl
  have f5 := hZ.frz 5
  have z6 : W.cell? ⟨w.heap.size + 1, 6, none⟩ = some (.int .u64 0) := hZ.cell (k := 6) rfl
  have f6 := hZ.frz 6
  have z7 : W.cell? ⟨w.heap.size + 1, 7, none⟩ = some (.bool false) := hZ.cell (k := 7) rfl
  have f7 := hZ.frz 7
  have z8 : W.cell? ⟨w.heap.size + 1, 8, none⟩ = some (.string ⟨#[]⟩) := hZ.cell (k := 8) rfl
  have f8 := hZ.frz 8
  have z9 : W.cell? ⟨w.heap.size + 1, 9, none⟩ = some (.string ⟨#[]⟩) := hZ.cell (k := 9) rfl
  have f9 := hZ.frz 9
  have z10 : W.cell? ⟨w.heap.size + 1, 10, none⟩ = some (.string ⟨#[]⟩) := hZ.cell (k := 10) rfl
  have f10 := hZ.frz 10
  have z11 : W.cell? ⟨w.heap.size + 1, 11, none⟩ = some (.int .i64 0) := hZ.cell (k := 11) rfl
  have f11 := hZ.frz 11
  go_enter Tryz.func21, Tryz.ntmps21
  go_wp2
  have hn := (((((((((((((hZ.other (b' := w.heap.size) (by omega) 9 (.string ⟨#[]⟩)).set 0 (.int .i64 m.kind)).set 1 (.string m.user)).set 2 (.int .u64 (m.el.1 : Int))).set 3 (.int .u64 (m.el.2.1 : Int))).set 4 (.bool m.el.2.2)).set 5 (.int .u64 (m.ot.1 : Int))).set 6 (.int .u64 (m.ot.2.1 : Int))).set 7 (.bool m.ot.2.2)).set 8 (.string m.nonce)).set 9 (.string ⟨#[]⟩)).set 10 (.string m.mac)).set 11 (.int .i64 m.code))
  have hm := (((((((((((((hB.setCell (p := ⟨w.heap.size, 9, none⟩) (Nat.le_refl _) (.string ⟨#[]⟩)).setCell (p := ⟨w.heap.size + 1, 0, none⟩) (show w.heap.size ≤ w.heap.size + 1 by omega) (.int .i64 m.kind)).setCell (p := ⟨w.heap.size + 1, 1, none⟩) (show w.heap.size ≤ w.heap.size + 1 by omega) (.string m.user)).setCell (p := ⟨w.heap.size + 1, 2, none⟩) (show w.heap.size ≤ w.heap.size + 1 by omega) (.int .u64 (m.el.1 : Int))).setCell (p := ⟨w.heap.size + 1, 3, none⟩) (show w.heap.size ≤ w.heap.size + 1 by omega) (.int .u64 (m.el.2.1 : Int))).setCell (p := ⟨w.heap.size + 1, 4, none⟩) (show w.heap.size ≤ w.heap.size + 1 by omega) (.bool m.el.2.2)).setCell (p := ⟨w.heap.size + 1, 5, none⟩) (show w.heap.size ≤ w.heap.size + 1 by omega) (.int .u64 (m.ot.1 : Int))).setCell (p := ⟨w.heap.size + 1, 6, none⟩) (show w.heap.size ≤ w.heap.size + 1 by omega) (.int .u64 (m.ot.2.1 : Int))).setCell (p := ⟨w.heap.size + 1, 7, none⟩) (show w.heap.size ≤ w.heap.size + 1 by omega) (.bool m.ot.2.2)).setCell (p := ⟨w.heap.size + 1, 8, none⟩) (show w.heap.size ≤ w.heap.size + 1 by omega) (.string m.nonce)).setCell (p := ⟨w.heap.size + 1, 9, none⟩) (show w.heap.size ≤ w.heap.size + 1 by omega) (.string ⟨#[]⟩)).setCell (p := ⟨w.heap.size + 1, 10, none⟩) (show w.heap.size ≤ w.heap.size + 1 by omega) (.string m.mac)).setCell (p := ⟨w.heap.size + 1, 11, none⟩) (show w.heap.size ≤ w.heap.size + 1 by omega) (.int .i64 m.code))
  simp only [List.setIfInBounds_toArray, List.set_cons_zero, List.set_cons_succ] at hn
  exact bodyPost_ret (v := .agg #[.int .i64 m.kind, .string m.user, .int .u64 (m.el.1 : Int), .int .u64 (m.el.2.1 : Int), .bool m.el.2.2, .int .u64 (m.ot.1 : Int), .int .u64 (m.ot.2.1 : Int), .bool m.ot.2.2, .string m.nonce, .string ⟨#[]⟩, .string m.mac, .int .i64 m.code]) (bk_res1 (fn := Tryz.f21) (p := 4) Tryz.results21 _ rfl hn Tryz.underlying27 rfl (by kernel_rfl)) rfl ⟨rfl, hm⟩
theorem wo_m (m : Msg) (w : World) :
    Calls Tryz.prog 21 #[.agg #[.int .i64 m.kind, .string m.user, .int .u64 (m.el.1 : Int), .int .u64 (m.el.2.1 : Int), .bool m.el.2.2, .int .u64 (m.ot.1 : Int), .int .u64 (m.ot.2.1 : Int), .bool m.ot.2.2, .string m.nonce, .string m.box, .string m.mac, .int .i64 m.code], .int .u8 109] w fun e w' => e = .returned (.agg (msgL (wo m .m)).toArray) ∧ Below w.heap.size w w' := by
  have hR := (Bk.new w 27 #[.int .i64 m.kind, .string m.user, .int .u64 (m.el.1 : Int), .int .u64 (m.el.2.1 : Int), .bool m.el.2.2, .int .u64 (m.ot.1 : Int), .int .u64 (m.ot.2.1 : Int), .bool m.ot.2.2, .string m.nonce, .string m.box, .string m.mac, .int .i64 m.code]).alloc (Obj.cells #[.int .i64 0, .string ⟨#[]⟩, .int .u64 0, .int .u64 0, .bool false, .int .u64 0, .int .u64 0, .bool false, .string ⟨#[]⟩, .string ⟨#[]⟩, .string ⟨#[]⟩, .int .i64 0] 27)
  have hZ := (Bk.new (w.alloc (Obj.cells #[.int .i64 m.kind, .string m.user, .int .u64 (m.el.1 : Int), .int .u64 (m.el.2.1 : Int), .bool m.el.2.2, .int .u64 (m.ot.1 : Int), .int .u64 (m.ot.2.1 : Int), .bool m.ot.2.2, .string m.nonce, .string m.box, .string m.mac, .int .i64 m.code] 27)) 27 #[.int .i64 0, .string ⟨#[]⟩, .int .u64 0, .int .u64 0, .bool false, .int .u64 0, .int .u64 0, .bool false, .string ⟨#[]⟩, .string ⟨#[]⟩, .string ⟨#[]⟩, .int .i64 0]).at (b' := w.heap.size + 1) (by simp)
  have hB := ((Below.refl _ w).alloc (Nat.le_refl _) (Obj.cells #[.int .i64 m.kind, .string m.user, .int .u64 (m.el.1 : Int), .int .u64 (m.el.2.1 : Int), .bool m.el.2.2, .int .u64 (m.ot.1 : Int), .int .u64 (m.ot.2.1 : Int), .bool m.ot.2.2, .string m.nonce, .string m.box, .string m.mac, .int .i64 m.code] 27)).alloc (by simp) (Obj.cells #[.int .i64 0, .string ⟨#[]⟩, .int .u64 0, .int .u64 0, .bool false, .int .u64 0, .int .u64 0, .bool false, .string ⟨#[]⟩, .string ⟨#[]⟩, .string ⟨#[]⟩, .int .i64 0] 27)
  obtain ⟨W, hW⟩ : ∃ W, ((w.alloc (Obj.cells #[.int .i64 m.kind, .string m.user, .int .u64 (m.el.1 : Int), .int .u64 (m.el.2.1 : Int), .bool m.el.2.2, .int .u64 (m.ot.1 : Int), .int .u64 (m.ot.2.1 : Int), .bool m.ot.2.2, .string m.nonce, .string m.box, .string m.mac, .int .i64 m.code] 27)).alloc (Obj.cells #[.int .i64 0, .string ⟨#[]⟩, .int .u64 0, .int .u64 0, .bool false, .int .u64 0, .int .u64 0, .bool false, .string ⟨#[]⟩, .string ⟨#[]⟩, .string ⟨#[]⟩, .int .i64 0] 27)) = W := ⟨_, rfl⟩
  rw [hW] at hR hZ hB
  have c0 : W.cell? ⟨w.heap.size, 0, none⟩ = some (.int .i64 m.kind) := hR.cell (k := 0) rfl
  have c1 : W.cell? ⟨w.heap.size, 1, none⟩ = some (.string m.user) := hR.cell (k := 1) rfl
  have c2 : W.cell? ⟨w.heap.size, 2, none⟩ = some (.int .u64 (m.el.1 : Int)) := hR.cell (k := 2) rfl
  have c3 : W.cell? ⟨w.heap.size, 3, none⟩ = some (.int .u64 (m.el.2.1 : Int)) := hR.cell (k := 3) rfl
  have c4 : W.cell? ⟨w.heap.size, 4, none⟩ = some (.bool m.el.2.2) := hR.cell (k := 4) rfl
  have c5 : W.cell? ⟨w.heap.size, 5, none⟩ = some (.int .u64 (m.ot.1 : Int)) := hR.cell (k := 5) rfl
  have c6 : W.cell? ⟨w.heap.size, 6, none⟩ = some (.int .u64 (m.ot.2.1 : Int)) := hR.cell (k := 6) rfl
  have c7 : W.cell? ⟨w.heap.size, 7, none⟩ = some (.bool m.ot.2.2) := hR.cell (k := 7) rfl
  have c8 : W.cell? ⟨w.heap.size, 8, none⟩ = some (.string m.nonce) := hR.cell (k := 8) rfl
  have c9 : W.cell? ⟨w.heap.size, 9, none⟩ = some (.string m.box) := hR.cell (k := 9) rfl
  have c10 : W.cell? ⟨w.heap.size, 10, none⟩ = some (.string m.mac) := hR.cell (k := 10) rfl
  have c11 : W.cell? ⟨w.heap.size, 11, none⟩ = some (.int .i64 m.code) := hR.cell (k := 11) rfl
  have g10 := hR.frz 10
  have z0 : W.cell? ⟨w.heap.size + 1, 0, none⟩ = some (.int .i64 0) := hZ.cell (k := 0) rfl
  have f0 := hZ.frz 0
  have z1 : W.cell? ⟨w.heap.size + 1, 1, none⟩ = some (.string ⟨#[]⟩) := hZ.cell (k := 1) rfl
  have f1 := hZ.frz 1
  have z2 : W.cell? ⟨w.heap.size + 1, 2, none⟩ = some (.int .u64 0) := hZ.cell (k := 2) rfl
  have f2 := hZ.frz 2
  have z3 : W.cell? ⟨w.heap.size + 1, 3, none⟩ = some (.int .u64 0) := hZ.cell (k := 3) rfl
  have f3 := hZ.frz 3
  have z4 : W.cell? ⟨w.heap.size + 1, 4, none⟩ = some (.bool false) := hZ.cell (k := 4) rfl
  have f4 := hZ.frz 4
  have z5 : W.cell? ⟨w.heap.size + 1, 5, none⟩ = some (.int .u64 0) := hZ.cell (k := 5) rfl
  have f5 := hZ.frz 5
  have z6 : W.cell? ⟨w.heap.size + 1, 6, none⟩ = some (.int .u64 0) := hZ.cell (k := 6) rfl
  have f6 := hZ.frz 6
  have z7 : W.cell? ⟨w.heap.size + 1, 7, none⟩ = some (.bool false) := hZ.cell (k := 7) rfl
  have f7 := hZ.frz 7
  have z8 : W.cell? ⟨w.heap.size + 1, 8, none⟩ = some (.string ⟨#[]⟩) := hZ.cell (k := 8) rfl
  have f8 := hZ.frz 8
  have z9 : W.cell? ⟨w.heap.size + 1, 9, none⟩ = some (.string ⟨#[]⟩) := hZ.cell (k := 9) rfl
  have f9 := hZ.frz 9
  have z10 : W.cell? ⟨w.heap.size + 1, 10, none⟩ = some (.string ⟨#[]⟩) := hZ.cell (k := 10) rfl
  have f10 := hZ.frz 10
  have z11 : W.cell? ⟨w.heap.size + 1, 11, none⟩ = some (.int .i64 0) := hZ.cell (k := 11) rfl
  have f11 := hZ.frz 11
  go_enter Tryz.func21, Tryz.ntmps21
  go_wp2
  have hn := (((((((((((((hZ.other (b' := w.heap.size) (by omega) 10 (.string ⟨#[]⟩)).set 0 (.int .i64 m.kind)).set 1 (.string m.user)).set 2 (.int .u64 (m.el.1 : Int))).set 3 (.int .u64 (m.el.2.1 : Int))).set 4 (.bool m.el.2.2)).set 5 (.int .u64 (m.ot.1 : Int))).set 6 (.int .u64 (m.ot.2.1 : Int))).set 7 (.bool m.ot.2.2)).set 8 (.string m.nonce)).set 9 (.string m.box)).set 10 (.string ⟨#[]⟩)).set 11 (.int .i64 m.code))
  have hm := (((((((((((((hB.setCell (p := ⟨w.heap.size, 10, none⟩) (Nat.le_refl _) (.string ⟨#[]⟩)).setCell (p := ⟨w.heap.size + 1, 0, none⟩) (show w.heap.size ≤ w.heap.size + 1 by omega) (.int .i64 m.kind)).setCell (p := ⟨w.heap.size + 1, 1, none⟩) (show w.heap.size ≤ w.heap.size + 1 by omega) (.string m.user)).setCell (p := ⟨w.heap.size + 1, 2, none⟩) (show w.heap.size ≤ w.heap.size + 1 by omega) (.int .u64 (m.el.1 : Int))).setCell (p := ⟨w.heap.size + 1, 3, none⟩) (show w.heap.size ≤ w.heap.size + 1 by omega) (.int .u64 (m.el.2.1 : Int))).setCell (p := ⟨w.heap.size + 1, 4, none⟩) (show w.heap.size ≤ w.heap.size + 1 by omega) (.bool m.el.2.2)).setCell (p := ⟨w.heap.size + 1, 5, none⟩) (show w.heap.size ≤ w.heap.size + 1 by omega) (.int .u64 (m.ot.1 : Int))).setCell (p := ⟨w.heap.size + 1, 6, none⟩) (show w.heap.size ≤ w.heap.size + 1 by omega) (.int .u64 (m.ot.2.1 : Int))).setCell (p := ⟨w.heap.size + 1, 7, none⟩) (show w.heap.size ≤ w.heap.size + 1 by omega) (.bool m.ot.2.2)).setCell (p := ⟨w.heap.size + 1, 8, none⟩) (show w.heap.size ≤ w.heap.size + 1 by omega) (.string m.nonce)).setCell (p := ⟨w.heap.size + 1, 9, none⟩) (show w.heap.size ≤ w.heap.size + 1 by omega) (.string m.box)).setCell (p := ⟨w.heap.size + 1, 10, none⟩) (show w.heap.size ≤ w.heap.size + 1 by omega) (.string ⟨#[]⟩)).setCell (p := ⟨w.heap.size + 1, 11, none⟩) (show w.heap.size ≤ w.heap.size + 1 by omega) (.int .i64 m.code))
  simp only [List.setIfInBounds_toArray, List.set_cons_zero, List.set_cons_succ] at hn
  exact bodyPost_ret (v := .agg #[.int .i64 m.kind, .string m.user, .int .u64 (m.el.1 : Int), .int .u64 (m.el.2.1 : Int), .bool m.el.2.2, .int .u64 (m.ot.1 : Int), .int .u64 (m.ot.2.1 : Int), .bool m.ot.2.2, .string m.nonce, .string m.box, .string ⟨#[]⟩, .int .i64 m.code]) (bk_res1 (fn := Tryz.f21) (p := 4) Tryz.results21 _ rfl hn Tryz.underlying27 rfl (by kernel_rfl)) rfl ⟨rfl, hm⟩
theorem wo_c (m : Msg) (w : World) :
    Calls Tryz.prog 21 #[.agg #[.int .i64 m.kind, .string m.user, .int .u64 (m.el.1 : Int), .int .u64 (m.el.2.1 : Int), .bool m.el.2.2, .int .u64 (m.ot.1 : Int), .int .u64 (m.ot.2.1 : Int), .bool m.ot.2.2, .string m.nonce, .string m.box, .string m.mac, .int .i64 m.code], .int .u8 99] w fun e w' => e = .returned (.agg (msgL (wo m .c)).toArray) ∧ Below w.heap.size w w' := by
  have hR := (Bk.new w 27 #[.int .i64 m.kind, .string m.user, .int .u64 (m.el.1 : Int), .int .u64 (m.el.2.1 : Int), .bool m.el.2.2, .int .u64 (m.ot.1 : Int), .int .u64 (m.ot.2.1 : Int), .bool m.ot.2.2, .string m.nonce, .string m.box, .string m.mac, .int .i64 m.code]).alloc (Obj.cells #[.int .i64 0, .string ⟨#[]⟩, .int .u64 0, .int .u64 0, .bool false, .int .u64 0, .int .u64 0, .bool false, .string ⟨#[]⟩, .string ⟨#[]⟩, .string ⟨#[]⟩, .int .i64 0] 27)
  have hZ := (Bk.new (w.alloc (Obj.cells #[.int .i64 m.kind, .string m.user, .int .u64 (m.el.1 : Int), .int .u64 (m.el.2.1 : Int), .bool m.el.2.2, .int .u64 (m.ot.1 : Int), .int .u64 (m.ot.2.1 : Int), .bool m.ot.2.2, .string m.nonce, .string m.box, .string m.mac, .int .i64 m.code] 27)) 27 #[.int .i64 0, .string ⟨#[]⟩, .int .u64 0, .int .u64 0, .bool false, .int .u64 0, .int .u64 0, .bool false, .string ⟨#[]⟩, .string ⟨#[]⟩, .string ⟨#[]⟩, .int .i64 0]).at (b' := w.heap.size + 1) (by simp)
  have hB := ((Below.refl _ w).alloc (Nat.le_refl _) (Obj.cells #[.int .i64 m.kind, .string m.user, .int .u64 (m.el.1 : Int), .int .u64 (m.el.2.1 : Int), .bool m.el.2.2, .int .u64 (m.ot.1 : Int), .int .u64 (m.ot.2.1 : Int), .bool m.ot.2.2, .string m.nonce, .string m.box, .string m.mac, .int .i64 m.code] 27)).alloc (by simp) (Obj.cells #[.int .i64 0, .string ⟨#[]⟩, .int .u64 0, .int .u64 0, .bool false, .int .u64 0, .int .u64 0, .bool false, .string ⟨#[]⟩, .string ⟨#[]⟩, .string ⟨#[]⟩, .int .i64 0] 27)
  obtain ⟨W, hW⟩ : ∃ W, ((w.alloc (Obj.cells #[.int .i64 m.kind, .string m.user, .int .u64 (m.el.1 : Int), .int .u64 (m.el.2.1 : Int), .bool m.el.2.2, .int .u64 (m.ot.1 : Int), .int .u64 (m.ot.2.1 : Int), .bool m.ot.2.2, .string m.nonce, .string m.box, .string m.mac, .int .i64 m.code] 27)).alloc (Obj.cells #[.int .i64 0, .string ⟨#[]⟩, .int .u64 0, .int .u64 0, .bool false, .int .u64 0, .int .u64 0, .bool false, .string ⟨#[]⟩, .string ⟨#[]⟩, .string ⟨#[]⟩, .int .i64 0] 27)) = W := ⟨_, rfl⟩
  rw [hW] at hR hZ hB
  have c0 : W.cell? ⟨w.heap.size, 0, none⟩ = some (.int .i64 m.kind) := hR.cell (k := 0) rfl
  have c1 : W.cell? ⟨w.heap.size, 1, none⟩ = some (.string m.user) := hR.cell (k := 1) rfl
  have c2 : W.cell? ⟨w.heap.size, 2, none⟩ = some (.int .u64 (m.el.1 : Int)) := hR.cell (k := 2) rfl
  have c3 : W.cell? ⟨w.heap.size, 3, none⟩ = some (.int .u64 (m.el.2.1 : Int)) := hR.cell (k := 3) rfl
  have c4 : W.cell? ⟨w.heap.size, 4, none⟩ = some (.bool m.el.2.2) := hR.cell (k := 4) rfl
  have c5 : W.cell? ⟨w.heap.size, 5, none⟩ = some (.int .u64 (m.ot.1 : Int)) := hR.cell (k := 5) rfl
  have c6 : W.cell? ⟨w.heap.size, 6, none⟩ = some (.int .u64 (m.ot.2.1 : Int)) := hR.cell (k := 6) rfl
  have c7 : W.cell? ⟨w.heap.size, 7, none⟩ = some (.bool m.ot.2.2) := hR.cell (k := 7) rfl
  have c8 : W.cell? ⟨w.heap.size, 8, none⟩ = some (.string m.nonce) := hR.cell (k := 8) rfl
  have c9 : W.cell? ⟨w.heap.size, 9, none⟩ = some (.string m.box) := hR.cell (k := 9) rfl
  have c10 : W.cell? ⟨w.heap.size, 10, none⟩ = some (.string m.mac) := hR.cell (k := 10) rfl
  have c11 : W.cell? ⟨w.heap.size, 11, none⟩ = some (.int .i64 m.code) := hR.cell (k := 11) rfl
  have g11 := hR.frz 11
  have z0 : W.cell? ⟨w.heap.size + 1, 0, none⟩ = some (.int .i64 0) := hZ.cell (k := 0) rfl
  have f0 := hZ.frz 0
  have z1 : W.cell? ⟨w.heap.size + 1, 1, none⟩ = some (.string ⟨#[]⟩) := hZ.cell (k := 1) rfl
  have f1 := hZ.frz 1
  have z2 : W.cell? ⟨w.heap.size + 1, 2, none⟩ = some (.int .u64 0) := hZ.cell (k := 2) rfl
  have f2 := hZ.frz 2
  have z3 : W.cell? ⟨w.heap.size + 1, 3, none⟩ = some (.int .u64 0) := hZ.cell (k := 3) rfl
  have f3 := hZ.frz 3
  have z4 : W.cell? ⟨w.heap.size + 1, 4, none⟩ = some (.bool false) := hZ.cell (k := 4) rfl
  have f4 := hZ.frz 4
  have z5 : W.cell? ⟨w.heap.size + 1, 5, none⟩ = some (.int .u64 0) := hZ.cell (k := 5) rfl
  have f5 := hZ.frz 5
  have z6 : W.cell? ⟨w.heap.size + 1, 6, none⟩ = some (.int .u64 0) := hZ.cell (k := 6) rfl
  have f6 := hZ.frz 6
  have z7 : W.cell? ⟨w.heap.size + 1, 7, none⟩ = some (.bool false) := hZ.cell (k := 7) rfl
  have f7 := hZ.frz 7
  have z8 : W.cell? ⟨w.heap.size + 1, 8, none⟩ = some (.string ⟨#[]⟩) := hZ.cell (k := 8) rfl
  have f8 := hZ.frz 8
  have z9 : W.cell? ⟨w.heap.size + 1, 9, none⟩ = some (.string ⟨#[]⟩) := hZ.cell (k := 9) rfl
  have f9 := hZ.frz 9
  have z10 : W.cell? ⟨w.heap.size + 1, 10, none⟩ = some (.string ⟨#[]⟩) := hZ.cell (k := 10) rfl
  have f10 := hZ.frz 10
  have z11 : W.cell? ⟨w.heap.size + 1, 11, none⟩ = some (.int .i64 0) := hZ.cell (k := 11) rfl
  have f11 := hZ.frz 11
  go_enter Tryz.func21, Tryz.ntmps21
  go_wp2
  have hn := (((((((((((((hZ.other (b' := w.heap.size) (by omega) 11 (.int .i64 0)).set 0 (.int .i64 m.kind)).set 1 (.string m.user)).set 2 (.int .u64 (m.el.1 : Int))).set 3 (.int .u64 (m.el.2.1 : Int))).set 4 (.bool m.el.2.2)).set 5 (.int .u64 (m.ot.1 : Int))).set 6 (.int .u64 (m.ot.2.1 : Int))).set 7 (.bool m.ot.2.2)).set 8 (.string m.nonce)).set 9 (.string m.box)).set 10 (.string m.mac)).set 11 (.int .i64 0))
  have hm := (((((((((((((hB.setCell (p := ⟨w.heap.size, 11, none⟩) (Nat.le_refl _) (.int .i64 0)).setCell (p := ⟨w.heap.size + 1, 0, none⟩) (show w.heap.size ≤ w.heap.size + 1 by omega) (.int .i64 m.kind)).setCell (p := ⟨w.heap.size + 1, 1, none⟩) (show w.heap.size ≤ w.heap.size + 1 by omega) (.string m.user)).setCell (p := ⟨w.heap.size + 1, 2, none⟩) (show w.heap.size ≤ w.heap.size + 1 by omega) (.int .u64 (m.el.1 : Int))).setCell (p := ⟨w.heap.size + 1, 3, none⟩) (show w.heap.size ≤ w.heap.size + 1 by omega) (.int .u64 (m.el.2.1 : Int))).setCell (p := ⟨w.heap.size + 1, 4, none⟩) (show w.heap.size ≤ w.heap.size + 1 by omega) (.bool m.el.2.2)).setCell (p := ⟨w.heap.size + 1, 5, none⟩) (show w.heap.size ≤ w.heap.size + 1 by omega) (.int .u64 (m.ot.1 : Int))).setCell (p := ⟨w.heap.size + 1, 6, none⟩) (show w.heap.size ≤ w.heap.size + 1 by omega) (.int .u64 (m.ot.2.1 : Int))).setCell (p := ⟨w.heap.size + 1, 7, none⟩) (show w.heap.size ≤ w.heap.size + 1 by omega) (.bool m.ot.2.2)).setCell (p := ⟨w.heap.size + 1, 8, none⟩) (show w.heap.size ≤ w.heap.size + 1 by omega) (.string m.nonce)).setCell (p := ⟨w.heap.size + 1, 9, none⟩) (show w.heap.size ≤ w.heap.size + 1 by omega) (.string m.box)).setCell (p := ⟨w.heap.size + 1, 10, none⟩) (show w.heap.size ≤ w.heap.size + 1 by omega) (.string m.mac)).setCell (p := ⟨w.heap.size + 1, 11, none⟩) (show w.heap.size ≤ w.heap.size + 1 by omega) (.int .i64 0))
  simp only [List.setIfInBounds_toArray, List.set_cons_zero, List.set_cons_succ] at hn
  exact bodyPost_ret (v := .agg #[.int .i64 m.kind, .string m.user, .int .u64 (m.el.1 : Int), .int .u64 (m.el.2.1 : Int), .bool m.el.2.2, .int .u64 (m.ot.1 : Int), .int .u64 (m.ot.2.1 : Int), .bool m.ot.2.2, .string m.nonce, .string m.box, .string m.mac, .int .i64 0]) (bk_res1 (fn := Tryz.f21) (p := 4) Tryz.results21 _ rfl hn Tryz.underlying27 rfl (by kernel_rfl)) rfl ⟨rfl, hm⟩
end Go.Proofs.YtdaobioomoajfaaGreat
namespace Go.Proofs.YtdaobioomoajfaaGreat
open Go.RowKit
theorem nmI (s : ByteArray) (w : World) : Calls Tryz.prog 103 #[.string s] w fun e w' => e = .returned (.bool (nameB s)) ∧ w = w' := by
  by_cases h1 : (1 : Int) ≤ (s.size : Int)
  · by_cases h2 : (s.size : Int) ≤ 32
    · have e : nameB s = true := decide_eq_true (by omega)
      rw [e]
      go_enter Tryz.func103, Tryz.ntmps103
      go_wp2
      go_ret
      exact ⟨rfl, rfl⟩
    · have e : nameB s = false := decide_eq_false (by omega)
      rw [e]
      go_enter Tryz.func103, Tryz.ntmps103
      go_wp2
      go_ret
      exact ⟨rfl, rfl⟩
  · have e : nameB s = false := decide_eq_false (by omega)
    rw [e]
    go_enter Tryz.func103, Tryz.ntmps103
    go_wp2
    go_ret
    exact ⟨rfl, rfl⟩
end Go.Proofs.YtdaobioomoajfaaGreat
namespace Go.Proofs.YtdaobioomoajfaaGreat
open Go.RowKit
theorem rd_cut (s : Rd) (n : Nat) (b : Nat) (w : World) (hb : Bk w 59 b (rdL s).toArray) (hn : n ≤ 65536) (hz : s.rest.size ≤ maxLen) :
    Calls Tryz.prog 36 #[.pointer (some ⟨b, 0, none⟩), .int .i64 n] w fun e w' => e = .returned (.string (s.cut n).1) ∧ w.grownBy w' (some b) ∧ Bk w' 59 b (rdL (s.cut n).2).toArray := by
  have c12 : w.cell? ⟨b, 12, none⟩ = some (.string s.rest) := hb.cell (k := 12) rfl
  have c13 : w.cell? ⟨b, 13, none⟩ = some (.bool s.bad) := hb.cell (k := 13) rfl
  have f12 := hb.frz 12
  have f13 := hb.frz 13
  unfold maxLen at hz
  by_cases h : s.rest.size < n
  · have e : s.cut n = (⟨#[]⟩, { s with bad := true }) := by unfold Rd.cut; rw [if_pos h]
    rw [e]
    have h' : (s.rest.size : Int) < (n : Int) := by omega
    go_enter Tryz.func36, Tryz.ntmps36
    go_wp2
    go_ret
    exact ⟨rfl, grownS w b 13 _, hb.set 13 _⟩
  · have e : s.cut n = (s.rest.extract 0 n, { s with rest := s.rest.extract n s.rest.size }) := by unfold Rd.cut; rw [if_neg h]
    rw [e]
    have h' : (n : Int) ≤ (s.rest.size : Int) := by omega
    go_enter Tryz.func36, Tryz.ntmps36
    go_wp2
    go_ret
    exact ⟨rfl, grownS w b 12 _, hb.set 12 _⟩
theorem cut_m (s : Rd) (n : Nat) : (s.cut n).2.m = s.m := by unfold Rd.cut; split <;> rfl
theorem cut_le (s : Rd) (n : Nat) : (s.cut n).1.size ≤ n := by
  unfold Rd.cut
  split
  · exact Nat.zero_le _
  · show (s.rest.extract 0 n).size ≤ n
    rw [ByteArray.size_extract]; omega
theorem cut_rest (s : Rd) (n : Nat) : (s.cut n).2.rest.size ≤ s.rest.size := by
  unfold Rd.cut
  split
  · exact Nat.le_refl _
  · show (s.rest.extract n s.rest.size).size ≤ _
    rw [ByteArray.size_extract]; omega
theorem byt_in (s : ByteArray) : ∀ x ∈ byt s, 0 ≤ x ∧ x < 256 := by
  intro x hx
  unfold byt at hx
  obtain ⟨v, -, rfl⟩ := List.mem_map.1 hx
  have := v.toNat_lt
  omega
theorem num_le (s : ByteArray) (n : Nat) (h : s.size ≤ n) (hn : n ≤ 2) : numL (byt s) < 65536 := by
  have h1 := numL_lt (byt s) (byt_in s)
  rw [byt_length] at h1
  have h2 : 256 ^ s.size ≤ 256 ^ 2 := Nat.pow_le_pow_right (by decide) (by omega)
  omega
theorem rd_num (s : Rd) (n : Nat) (b : Nat) (w : World) (hb : Bk w 59 b (rdL s).toArray) (hn : n ≤ 2) (hz : s.rest.size ≤ maxLen) :
    Calls Tryz.prog 22 #[.pointer (some ⟨b, 0, none⟩), .int .i64 n] w fun e w' => e = .returned (.int .i64 (numL (byt (s.cut n).1) : Nat)) ∧ w.grownBy w' (some b) ∧ Bk w' 59 b (rdL (s.cut n).2).toArray := by
  have C := rd_cut s n b w hb (by omega) hz
  have hl := cut_le s n
  have D := fun w => wdI_le (s.cut n).1 w (by omega)
  have hk := num_le _ _ hl hn
  generalize numL (byt (s.cut n).1) = k at *
  generalize (s.cut n).1 = a at *
  generalize (s.cut n).2 = r at *
  clear hb hl
  have e1 : IntKind.i64.wrap (k : Int) = (k : Int) := by rw [IntKind.wrap_i64]; omega
  go_enter Tryz.func22, Tryz.ntmps22
  go_wp2_with fail
  refine C.mono ?_
  rintro e w1 ⟨rfl, g1, hb1⟩
  go_wp2_with fail
  refine (D _).mono ?_
  rintro e w2 ⟨rfl, rfl⟩
  go_wp2
  go_ret
  exact ⟨rfl, g1, hb1⟩
theorem rd_n (s : Rd) (b : Nat) (w : World) (hb : Bk w 59 b (rdL s).toArray) (hz : s.rest.size ≤ maxLen) :
    Calls Tryz.prog 99 #[.pointer (some ⟨b, 0, none⟩)] w fun e w' => e = .returned (.tuple #[]) ∧ w.grownBy w' (some b) ∧ Bk w' 59 b (rdL (s.step .n)).toArray := by
  have C := rd_cut s 16 b w hb (by decide) hz
  have e : s.step .n = { (s.cut 16).2 with m := { s.m with nonce := (s.cut 16).1 } } := rfl
  rw [e]
  have hm : (s.cut 16).2.m = s.m := cut_m s 16
  rw [← hm]
  generalize (s.cut 16).1 = a at *
  generalize (s.cut 16).2 = r at *
  clear hb hm e
  go_enter Tryz.func99, Tryz.ntmps99
  go_wp2_with fail
  refine C.mono ?_
  rintro e w1 ⟨rfl, g1, hb1⟩
  have c1 : w1.cell? ⟨b, 8, none⟩ = some (.string r.m.nonce) := hb1.cell (k := 8) rfl
  have f1 := hb1.frz 8
  go_wp2
  go_end0
  exact ⟨rfl, grownT g1 (grownS w1 b 8 _), hb1.set 8 _⟩
theorem rd_b (s : Rd) (b : Nat) (w : World) (hb : Bk w 59 b (rdL s).toArray) (hz : s.rest.size ≤ maxLen) :
    Calls Tryz.prog 95 #[.pointer (some ⟨b, 0, none⟩)] w fun e w' => e = .returned (.tuple #[]) ∧ w.grownBy w' (some b) ∧ Bk w' 59 b (rdL (s.step .b)).toArray := by
  have C := rd_cut s 48 b w hb (by decide) hz
  have e : s.step .b = { (s.cut 48).2 with m := { s.m with box := (s.cut 48).1 } } := rfl
  rw [e]
  have hm : (s.cut 48).2.m = s.m := cut_m s 48
  rw [← hm]
  generalize (s.cut 48).1 = a at *
  generalize (s.cut 48).2 = r at *
  clear hb hm e
  go_enter Tryz.func95, Tryz.ntmps95
  go_wp2_with fail
  refine C.mono ?_
  rintro e w1 ⟨rfl, g1, hb1⟩
  have c1 : w1.cell? ⟨b, 9, none⟩ = some (.string r.m.box) := hb1.cell (k := 9) rfl
  have f1 := hb1.frz 9
  go_wp2
  go_end0
  exact ⟨rfl, grownT g1 (grownS w1 b 9 _), hb1.set 9 _⟩
theorem rd_m (s : Rd) (b : Nat) (w : World) (hb : Bk w 59 b (rdL s).toArray) (hz : s.rest.size ≤ maxLen) :
    Calls Tryz.prog 98 #[.pointer (some ⟨b, 0, none⟩)] w fun e w' => e = .returned (.tuple #[]) ∧ w.grownBy w' (some b) ∧ Bk w' 59 b (rdL (s.step .m)).toArray := by
  have C := rd_cut s 32 b w hb (by decide) hz
  have e : s.step .m = { (s.cut 32).2 with m := { s.m with mac := (s.cut 32).1 } } := rfl
  rw [e]
  have hm : (s.cut 32).2.m = s.m := cut_m s 32
  rw [← hm]
  generalize (s.cut 32).1 = a at *
  generalize (s.cut 32).2 = r at *
  clear hb hm e
  go_enter Tryz.func98, Tryz.ntmps98
  go_wp2_with fail
  refine C.mono ?_
  rintro e w1 ⟨rfl, g1, hb1⟩
  have c1 : w1.cell? ⟨b, 10, none⟩ = some (.string r.m.mac) := hb1.cell (k := 10) rfl
  have f1 := hb1.frz 10
  go_wp2
  go_end0
  exact ⟨rfl, grownT g1 (grownS w1 b 10 _), hb1.set 10 _⟩
end Go.Proofs.YtdaobioomoajfaaGreat
