import Derived.Test.YtjmhmajfkdglnaaDoorMrg2
import Derived.Test.YtjmhmajfkdglnaaDoorMrg1
import Derived.Laws.BytesArg
import Derived.Deep.RegionHeld3
import Derived.BigQuiet
import Derived.Deep.DrawnRows
namespace Go.Proofs.YtjmhmajfkdglnaaDoor
open Go.RowKit
set_option linter.unusedVariables false
attribute [local go_sem ↓] Go.wp_at_zero Go.wp_at_succ

theorem size44 : (Tryd.prog.info? 125).map (·.size) = some 74 := by kernel_rfl
def zeroRh : List Value := rhL (List.replicate 8 0) (List.replicate 64 0) 0 0
def newRh : List Value := rhL h0L (List.replicate 64 0) 0 0
theorem zero44 (w : World) : (zeroValue 125).run Tryd.prog w = .ok (.agg zeroRh.toArray) w := by kernel_rfl
theorem build44 (w : World) : (Instr.build 125 #[(0, .agg #[.int .u32 1779033703, .int .u32 3144134277, .int .u32 1013904242, .int .u32 2773480762, .int .u32 1359893119, .int .u32 2600822924, .int .u32 528734635, .int .u32 1541459225])]).run Tryd.prog w = .ok (.agg newRh.toArray) w := run_build w _ _ _ (by kernel_rfl)
theorem newRh_len : newRh.length = 74 := by decide
theorem zeroRh_len : zeroRh.length = 74 := by decide
theorem rhL_one (st blk : List Int) (f z : Int) : ∀ v ∈ rhL st blk f z, v.oneCell' = true := by
  intro v hv
  simp only [rhL, List.mem_append, List.mem_map, List.mem_cons, List.not_mem_nil, or_false] at hv
  rcases hv with (⟨x, _, rfl⟩ | ⟨x, _, rfl⟩) | rfl | rfl <;> rfl

set_option maxRecDepth 100000 in
set_option maxHeartbeats 1000000 in
theorem newI_any (w : World) :
    Calls Tryd.prog 60 #[] w fun e w' => e = .returned (.agg newRh.toArray) ∧ Below w.heap.size w w' := by
  have hz := zero44
  have hb := build44
  have hr := results_mid (P := Tryd.prog) (fn := Tryd.f60) (p := 0) (ty := 125) Tryd.results60
  have hth : (w.alloc (.cells zeroRh.toArray 125)).there w.heap.size 0 74 := there_new w _ _ 74 (by simp [zeroRh_len])
  go_enter Tryd.func60, Tryd.ntmps60
  go_wp2_with (refine wpList_store_mid rfl 125 _ _ rfl w.heap.size 0 newRh.toArray rfl rfl (by simpa [newRh_len] using hth) (by rw [size44]; simp [newRh_len]) (all_oneCell_toArray (rhL_one _ _ _ _)) ?_)
  refine bodyPost_ret (v := .agg newRh.toArray) (hr _ _ w.heap.size 0 newRh _ rfl (World.rangeAt_setCells_same _ _ _ _ (by rw [newRh_len]; exact hth)) Tryd.underlying125 rfl (by rw [size44, newRh_len])) rfl ⟨rfl, ?_⟩
  exact below_setCells ((Below.refl _ _).alloc (Nat.le_refl _) _) (Nat.le_refl _) _ _
end Go.Proofs.YtjmhmajfkdglnaaDoor

namespace Go.Proofs.YtjmhmajfkdglnaaDoor
open Go.RowKit
set_option linter.unusedVariables false

theorem rot_any (x k n : Int) (w : World) (h0 : 0 ≤ x) (h1 : x < 4294967296) (hk : -32 < k) (hk' : k < 0) (hn : n = -k) :
    Calls Tryd.prog 77 #[.int .u32 x, .int .i64 k] w fun e w' => e = .returned (.int .u32 (rotr x n)) ∧ w = w' := by
  have e := mask31 k hk hk'
  obtain ⟨m, rfl⟩ : ∃ m : Int, k = -m := ⟨-k, by omega⟩
  have e' : bits BinOp.and IntKind.u64 (IntKind.u64.wrap (-m)) 31 = 32 - m := by rw [e]; omega
  have hn2 : Hid (n = m) := by rw [hn]; simp [Hid]
  clear e hn
  go_enter Tryd.func77, Tryd.ntmps77
  go_wp2
  go_ret
  have e2 : (32 : Int) - (32 - m) = m := by omega
  refine ⟨ret_int (k := .u32) ?_, rfl⟩
  rw [hn2.out, e2, or_comm32]
  rfl
end Go.Proofs.YtjmhmajfkdglnaaDoor
