import Derived.Test.YtaeanelfpaphiabTakeS
import Derived.Test.YtaeanelfpaphiabOwn
import Derived.Test.YtaeanelfpaphiabPure2
import Derived.Test.YtaeanelfpaphiabPure4
import Derived.Laws.BytesArg
namespace Go.Proofs.Ytaeanelfpaphiab
open Go.RowKit
set_option linter.unusedVariables false

theorem infoU8d : (Try.prog.info? 5).map (fun i => (i.zero, i.size, i.bytes)) = some (some (.int .u8 0), 1, 1) := by kernel_rfl

set_option maxRecDepth 100000 in
set_option maxHeartbeats 1000000 in
/-- a text of n bytes is taken -/
theorem byt_any (v : Value) (p n : Nat) (w : World) (hv : Cod w v) (hn : n ≤ 1000) (hp : p ≤ 100000) :
    Calls Try.prog 78 #[v, .int .i64 p, .int .i64 n] w fun e w' => (∃ s : ByteArray, s.size = n ∧ e = .returned (.tuple #[.string s, .int .i64 ((p : Int) + (n : Int))])) ∧ Below w.heap.size w w' := by
  obtain ⟨i0, hi, hz0, hz1, hz2⟩ := info_parts infoU8d
  go_enter Try.func78, Try.ntmps78
  go_wp2
  go_loopw [1, 8, 9] (fun q u i wr => ∃ (j g cap : Nat) (l : List Int), j ≤ n ∧ i = .int .i64 (j : Int) ∧ q = .int .i64 ((p : Int) + (j : Int)) ∧ u = .slice (some ⟨g, 0, none⟩) j cap ∧ l.length = j ∧ Row wr w.heap.size g j cap (l.map (Value.int .u8)) ∧ Below w.heap.size w wr) (fun _ _ i _ => n - (intOf i).toNat)
  case atStart => exact ⟨0, w.heap.size, 0, [], by omega, rfl, by simp, rfl, rfl, Row.of_block (n := 0) (cs := #[]) (heap_alloc_new w _) (Nat.le_refl _) (by simp) (by simp), (Below.refl _ _).alloc (Nat.le_refl _) _⟩
  case round =>
    obtain ⟨j, g1, cap1, l, hj, rfl, rfl, rfl, hll, hrow, hbl⟩ := hrel
    have hsz1 : w.heap.size ≤ wr.heap.size := hbl.size
    by_cases hlt : j < n
    · have T := fun w hv => take_any v (p + j) 256 w hv (by omega) (by omega) (by omega)
      have e1 : ((p + j : Nat) : Int) = (p : Int) + (j : Int) := by omega
      rw [e1] at T
      have hlti : (j : Int) < (n : Int) := by omega
      clear e1
      go_wp2_with fail
      refine (T _ (hv.below hbl)).mono ?_
      rintro e w2 ⟨⟨z, hz, rfl⟩, rfl⟩
      clear T
      have ez : IntKind.u8.wrap (z : Int) = (z : Int) := by rw [IntKind.wrap_u8]; omega
      go_wp2_with (first
        | (at_builtin; refine wpList_append_row rfl _ _ 33 rfl w.heap.size 5 i0 (.int .u8 0) 1 Try.underlying33 hi hz0 hz1 hz2 rfl g1 j cap1 (l.map (Value.int .u8)) rfl (hrow.alloc _) ⟨wr.heap.size, 0, none⟩ 1 1 [.int .u8 z] rfl rfl (World.news_of_block (cs := #[.int .u8 z]) (heap_alloc_new wr _)) (by simp [Value.oneCell']) (by unfold maxLen; omega) (by omega) (by simp; omega) _ rfl ?_; intro g3 cap3 w3 hrow3 hgr3 _ _)
        | go_in)
      have R1 : Row w3 w.heap.size g3 (j + 1) cap3 ((l ++ [(z : Int)]).map (Value.int .u8)) := by rw [List.map_append]; exact hrow3
      have R2 : Below w.heap.size w w3 := (hbl.alloc hsz1 _).grown hgr3 (by simp; omega) (fun r hr => by simp at hr; have := hrow.lo; omega)
      go_roundw
      case rel => exact ⟨j + 1, g3, cap3, l ++ [(z : Int)], by omega, by go_num, (by first | (congr 1; omega) | congr 1), rfl, by simp [hll], R1, R2⟩
      case measure => simp [intOf]; omega
    · obtain rfl : j = n := by omega
      have hcv := run_convert_bytes_arg (P := Try.prog) wr 33 5 Try.underlying33 Try.underlying5 g1 0 j cap1 l hll (fun i h => by rw [Nat.zero_add]; exact hrow.cell i h) 9 Try.underlying9
      go_wp2
      go_ret2
      exact ⟨⟨_, by rw [strOfNums_size]; exact hll, rfl⟩, hbl⟩
end Go.Proofs.Ytaeanelfpaphiab
