import Derived.Test.YtagnikeaellbiaaExeF
import Derived.Test.YtagnikeaellbiaaStrI
namespace Go.Proofs.Ytagnikeaellbiaa
open Go.RowKit
set_option linter.unusedVariables false
theorem cfF_F (args : Array Value) (w : World) : (callFunc 12 args).run Try.prog w = .ok (.enter 12 args) w := by kernel_rfl
theorem keepFF {w1 w2 : World} {p : Addr} {v : Value} (h : w1.cell? p = some v) (b : Below w1.heap.size w1 w2) : w2.cell? p = some v := (b.cell (p := p) (World.block_lt_of_cell? w1 _ h)).trans h
set_option maxRecDepth 100000 in
set_option maxHeartbeats 1000000 in
theorem putF_of (c s : Int) (u v : ByteArray) (w : World) (hu : u.size = 8) (hv : v.size = 8)
    (L1 : ∀ w, Calls Try.prog 12 #[.int .u64 c] w fun e w' => e = .returned (.string u) ∧ Below w.heap.size w w')
    (L2 : ∀ w, Calls Try.prog 12 #[.int .u64 s] w fun e w' => e = .returned (.string v) ∧ Below w.heap.size w w') :
    Calls Try.prog 7 #[.agg #[.int .u64 c, .int .u64 s]] w fun e w' => e = .returned (.string (u ++ v)) ∧ Below w.heap.size w w' := by
  have hb := (Below.refl _ w).alloc (Nat.le_refl _) (Obj.cells #[.int .u64 c, .int .u64 s] 26)
  have hr := heap_alloc_new w (Obj.cells #[.int .u64 c, .int .u64 s] 26)
  have q1 : ¬ (9223372036854775807 < u.size + v.size) := by omega
  go_enter Try.func7, Try.ntmps7
  go_wp2
  generalize w.alloc (Obj.cells #[.int .u64 c, .int .u64 s] 26) = X at *
  have c0 : X.drew.cell? ⟨w.heap.size, 0, none⟩ = some (.int .u64 c) := by show X.cell? _ = _; simp [World.cell?, hr]
  have c1 : X.drew.cell? ⟨w.heap.size, 1, none⟩ = some (.int .u64 s) := by show X.cell? _ = _; simp [World.cell?, hr]
  refine pool_list [.val (.pointer (some ⟨w.heap.size, 0, none⟩)),
      .val (.int .u64 c),
      .val (.string u),
      .val (.pointer (some ⟨w.heap.size, 1, none⟩)),
      .val (.int .u64 s),
      .val (.string v),
      .val (.string (u ++ v)),
      .val (.string (u ++ v))] [[1], [3], [4], [1], [6], [7], [5, 8], [9]] (fun f => [(some 3, .pointer (some ⟨w.heap.size, 0, none⟩)), (some 4, .int .u64 c), (some 5, .string u), (some 6, .pointer (some ⟨w.heap.size, 1, none⟩)), (some 7, .int .u64 s), (some 8, .string v), (some 9, .string (u ++ v)), (some 2, .string (u ++ v))]) (by kernel_rfl) (by kernel_rfl) (by kernel_rfl) (by kernel_rfl) (fun _ => by kernel_rfl) ?_ ?_
  · intro ix hix
    match ix, hix with
    | 0, _ => exact ob_val [(1, .pointer (some ⟨w.heap.size, 0, none⟩))] rfl rfl (fun _ => by kernel_rfl) (fun A w ⟨e0, _⟩ hB => F.fa_prf0 e0)
    | 1, _ => exact ob_val [(3, .pointer (some ⟨w.heap.size, 0, none⟩))] rfl rfl (fun _ => by kernel_rfl) (fun A w ⟨e0, _⟩ hB => F.ld_u64 e0 (keepFF c0 hB))
    | 2, _ => exact ob_val [(4, .int .u64 c)] rfl rfl (fun _ => by kernel_rfl) (fun A w ⟨e0, _⟩ hB => F.cl1 cfF_F e0 (L1 w))
    | 3, _ => exact ob_val [(1, .pointer (some ⟨w.heap.size, 0, none⟩))] rfl rfl (fun _ => by kernel_rfl) (fun A w ⟨e0, _⟩ hB => F.fa_prf1 e0)
    | 4, _ => exact ob_val [(6, .pointer (some ⟨w.heap.size, 1, none⟩))] rfl rfl (fun _ => by kernel_rfl) (fun A w ⟨e0, _⟩ hB => F.ld_u64 e0 (keepFF c1 hB))
    | 5, _ => exact ob_val [(7, .int .u64 s)] rfl rfl (fun _ => by kernel_rfl) (fun A w ⟨e0, _⟩ hB => F.cl1 cfF_F e0 (L2 w))
    | 6, _ => exact ob_val [(5, .string u), (8, .string v)] rfl rfl (fun _ => by kernel_rfl) (fun A w ⟨e0, e1, _⟩ hB => F.cat e0 e1 q1)
    | 7, _ => exact ob_val [(9, .string (u ++ v))] rfl rfl (fun _ => by kernel_rfl) (fun A w ⟨e0, _⟩ hB => F.as e0)
    | ix + 8, h => exact absurd h (by simp)
  intro f W2 hb2 _ _
  have hb3 := hb.drew.trans (hb2.mono hb.size)
  simp only [puts, List.foldl, Act.put, List.setIfInBounds_toArray, List.set_cons_zero, List.set_cons_succ]
  go_wp2
  go_ret
  exact ⟨rfl, hb3⟩
theorem putF_any (c s : Nat) (w : World) (hc : c < 18446744073709551616) (hs : s < 18446744073709551616) :
    Calls Try.prog 7 #[.agg #[.int .u64 c, .int .u64 s]] w fun e w' => e = .returned (.string (strOfNums (be8 c) ++ strOfNums (be8 s))) ∧ Below w.heap.size w w' :=
  putF_of c s _ _ w (by rw [strOfNums_size]; rfl) (by rw [strOfNums_size]; rfl) (fun w => putI_any c w hc) (fun w => putI_any s w hs)
end Go.Proofs.Ytagnikeaellbiaa
