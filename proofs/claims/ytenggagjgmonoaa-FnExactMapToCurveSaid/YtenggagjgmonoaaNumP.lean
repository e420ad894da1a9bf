import Derived.Test.YtenggagjgmonoaaDiv
import Derived.Test.YtenggagjgmonoaaOwn
import Derived.Deep.RegionHeld3
namespace Go.Proofs.Ytenggagjgmonoaa
open Go.RowKit
set_option linter.unusedVariables false

theorem methP (w : World) : (method 178 37 (.agg #[]) "loop.example/s02095/impl.value").run Try.prog w = .ok (47, .agg #[]) w := by kernel_rfl
set_option maxRecDepth 100000 in
theorem valP (w : World) :
    Calls Try.prog 47 #[.agg #[]] w fun e w' => e = .returned (.int .u64 2305843009213693951) ∧ w' = w.alloc (.cells #[] 37) := by
  go_enter Try.func47, Try.ntmps47
  go_wp2
  go_ret
  exact ⟨rfl, rfl⟩
theorem foldP : Array.foldl (fun (cs : Array Value) (x : Value × Nat) => cs.setIfInBounds x.snd x.fst) #[Value.int IntKind.u64 0] (#[] : Array Value).zipIdx 0 0 = #[Value.int .u64 0] := rfl

set_option maxRecDepth 100000 in
set_option maxHeartbeats 2000000 in
theorem redP_one (w : World) :
    Calls Try.prog 13 #[.int .u64 1, .agg #[]] w fun e w' => e = .returned (.agg #[.int .u64 1]) ∧ w' = (((w.alloc (.cells #[] 37)).alloc (.cells #[.int .u64 1] 39)).alloc (.cells #[] 37)).drew := by
  have hm := methP
  have hf := foldP
  have V := valP
  go_enter Try.func13, Try.ntmps13
  go_wp2
  go_region_held3 (fun _ => True) (trivial) ((go_simp; go_at_call 47; refine (V _).mono ?_; rintro e w' ⟨rfl, rfl⟩))
  go_wp2
  refine bodyPost_ret (v := .agg #[.int .u64 1]) (by simp [results, Try.results13, go_sem]) rfl ⟨rfl, rfl⟩
theorem cellsP : Try.prog.cellsOf 39 = 1 := by kernel_rfl
theorem byteP : byteOfCell Try.prog Try.prog.depth 39 0 = some 0 := by kernel_rfl
theorem partP {W : World} {b : Nat} {cs : Array Value} (hW : W.heap[b]? = some (.cells cs 39)) : (partAt ⟨b, 0, none⟩ 0 0).run Try.prog W = .ok ⟨b, 0, none⟩ W := by
  have h : (byteOf ⟨b, 0, none⟩).run Try.prog W = .ok 0 W := by
    have hs : W.shape? b = some (39, cs.size) := by simp [World.shape?, hW]
    simp [byteOf, noView, viewAt, shape, program, Sem.run, hs, cellsP, byteP, go_sem]
  simp [partAt, h, go_sem]

set_option maxRecDepth 100000 in
set_option maxHeartbeats 2000000 in
theorem timP_any (a b : Nat) (w : World) (ha : a < 2305843009213693951) (hb : b < 2305843009213693951) :
    Calls Try.prog 17 #[.agg #[.int .u64 a], .agg #[.int .u64 b]] w fun e w' => e = .returned (.agg #[.int .u64 (a * b % 2305843009213693951 : Nat)]) ∧ Below w.heap.size w w' := by
  have hme := methP
  have hf := foldP
  have M := mul64_any a b (by omega) (by omega)
  have D := fun w => div_any (a * b / 18446744073709551616) (a * b % 18446744073709551616) 2305843009213693951 w (by
    rw [Nat.div_lt_iff_lt_mul (by decide)]
    have : a * b ≤ 2305843009213693950 * 2305843009213693950 := Nat.mul_le_mul (by omega) (by omega)
    omega) (by decide) (Nat.mod_lt _ (by decide))
  have e : a * b / 18446744073709551616 * 18446744073709551616 + a * b % 18446744073709551616 = a * b := by omega
  rw [e] at D
  clear e
  generalize a * b / 18446744073709551616 = hi at *
  generalize a * b % 18446744073709551616 = lo at *
  obtain ⟨c, hc⟩ : ∃ c, c = a * b % 2305843009213693951 := ⟨_, rfl⟩
  rw [← hc] at D ⊢
  clear hc ha hb
  obtain ⟨X, hX⟩ : ∃ X, X = ((w.alloc (Obj.cells #[.int .u64 (a : Int)] 39)).alloc (Obj.cells #[.int .u64 (b : Int)] 39)).alloc (Obj.cells #[.int .u64 0] 39) := ⟨_, rfl⟩
  have hX0 : X.heap[w.heap.size]? = some (.cells #[.int .u64 (a : Int)] 39) := by
    rw [hX]
    exact (Below.heap_alloc _ _ _ (by simp; omega)).trans ((Below.heap_alloc _ _ _ (by simp)).trans (heap_alloc_new w _))
  have hp1 := partP hX0
  have hX1 : (X.alloc (Obj.cells #[] 37)).heap[w.heap.size]? = some (.cells #[.int .u64 (a : Int)] 39) := (Below.heap_alloc _ _ _ (Array.getElem?_eq_some_iff.1 hX0).1).trans hX0
  have hp2 := partP hX1
  have hp3 := partP (W := (X.alloc (Obj.cells #[] 37)).drew) hX1
  rw [hX] at hp1 hp2 hp3
  clear hX hX0 hX1
  go_enter Try.func17, Try.ntmps17
  go_wp2_with fail
  refine (M _).mono ?_
  rintro e w' ⟨rfl, rfl⟩
  go_wp2_with fail
  refine (valP _).mono ?_
  rintro e w' ⟨rfl, rfl⟩
  go_wp2_with fail
  refine (D _).mono ?_
  rintro e w' ⟨⟨z, rfl⟩, rfl | rfl⟩
  · go_wp2
    refine bodyPost_ret (v := .agg #[.int .u64 c]) (by simp [results, Try.results17, go_sem]) rfl ⟨rfl, ?_⟩
    exact ((((Below.refl _ _).alloc (Nat.le_refl _) _).alloc (by simp) _).alloc (by simp; omega) _).alloc (by simp; omega) _
  · go_wp2
    refine bodyPost_ret (v := .agg #[.int .u64 c]) (by simp [results, Try.results17, go_sem]) rfl ⟨rfl, ?_⟩
    exact (((((Below.refl _ _).alloc (Nat.le_refl _) _).alloc (by simp) _).alloc (by simp; omega) _).alloc (by simp; omega) _).drew
end Go.Proofs.Ytenggagjgmonoaa
