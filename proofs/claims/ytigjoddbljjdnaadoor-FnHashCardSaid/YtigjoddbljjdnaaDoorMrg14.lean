import Derived.Test.YtigjoddbljjdnaaDoorMrg13
namespace Go.Proofs.YtigjoddbljjdnaaDoor
open Go.RowKit
set_option linter.unusedVariables false

theorem ret_ssi {s t s' t' : ByteArray} {a b : Int} (h : s = s') (h2 : t = t') (h3 : a = b) : Ending.returned (.tuple #[.string s, .string t, .int .i64 a]) = .returned (.tuple #[.string s', .string t', .int .i64 b]) := by rw [h, h2, h3]
set_option maxRecDepth 100000 in
set_option maxHeartbeats 1000000 in
/-- a message, a tag and a size -/
theorem dexm_any (v : Value) (w : World) (hv : Cod w v) :
    Calls Tryd.prog 14 #[v] w fun e w' => (∃ (m t : ByteArray) (n : Int), m.size ≤ 65537 ∧ t.size ≤ 258 ∧ e = .returned (.tuple #[.string m, .string t, .int .i64 n])) ∧ Below w.heap.size w w' := by
  have T1 := take_any v 0 20 w hv (by omega) (by omega) (by omega)
  have S := some_any v 1 w hv (by omega)
  go_enter Tryd.func14, Tryd.ntmps14
  go_wp2_with fail
  refine T1.mono ?_
  rintro e w1 ⟨⟨z, hz, rfl⟩, rfl⟩
  go_wp2_with fail
  refine S.mono ?_
  rintro e w1 ⟨⟨m, q, hm, hq, rfl⟩, hb1⟩
  have T := dtag_any v q w1 (hv.below hb1) (by omega)
  go_wp2_with fail
  refine T.mono ?_
  rintro e w2 ⟨⟨t, q2, ht, hq2, rfl⟩, hb2⟩
  have hb := hb1.trans (hb2.mono hb1.size)
  have T2 := take_any v q2 200 w2 (hv.below hb) (by omega) (by omega) (by omega)
  go_wp2_with fail
  refine T2.mono ?_
  rintro e w3 ⟨⟨y, hy, rfl⟩, rfl⟩
  clear T1 S T T2 hb1 hb2
  by_cases h18 : z = 18
  · subst h18
    go_wp2
    exact bodyPost_ret (v := .tuple #[.string m, .string t, .int .i64 (8160 + (y : Int) % 2)]) (by simp [results, Tryd.results14, go_sem]) rfl ⟨⟨m, t, _, hm, ht, rfl⟩, hb⟩
  · have h18i : ((z : Int) == 18) = false := by simp; omega
    by_cases h19 : z = 19
    · subst h19
      go_wp2
      exact bodyPost_ret (v := .tuple #[.string m, .string t, .int .i64 (1 - (y : Int) % 3)]) (by simp [results, Tryd.results14, go_sem]) rfl ⟨⟨m, t, _, hm, ht, rfl⟩, hb⟩
    · have h19i : ((z : Int) == 19) = false := by simp; omega
      go_wp2
      exact bodyPost_ret (v := .tuple #[.string m, .string t, .int .i64 ((y : Int) + 1)]) (by simp [results, Tryd.results14, go_sem]) rfl ⟨⟨m, t, _, hm, ht, rfl⟩, hb⟩
set_option maxRecDepth 100000 in
set_option maxHeartbeats 1000000 in
/-- a key and a text -/
theorem dhmac_any (v : Value) (w : World) (hv : Cod w v) :
    Calls Tryd.prog 5 #[v] w fun e w' => (∃ (k s : ByteArray), k.size ≤ 70 ∧ s.size ≤ 65537 ∧ e = .returned (.tuple #[.string k, .string s])) ∧ Below w.heap.size w w' := by
  have T1 := take_any v 0 70 w hv (by omega) (by omega) (by omega)
  go_enter Tryd.func5, Tryd.ntmps5
  go_wp2_with fail
  refine T1.mono ?_
  rintro e w1 ⟨⟨z, hz, rfl⟩, rfl⟩
  have B := byt_any v 1 z w hv (by omega) (by omega)
  go_wp2_with fail
  refine B.mono ?_
  rintro e w1 ⟨⟨k, hk, rfl⟩, hb1⟩
  have S := some_any v (1 + z) w1 (hv.below hb1) (by omega)
  have e1 : ((1 + z : Nat) : Int) = 1 + (z : Int) := by omega
  rw [e1] at S
  go_wp2_with fail
  refine S.mono ?_
  rintro e w2 ⟨⟨s, q, hs, hq, rfl⟩, hb2⟩
  go_wp2
  go_ret2
  exact ⟨⟨k, s, by omega, hs, rfl⟩, hb1.trans (hb2.mono hb1.size)⟩
set_option maxRecDepth 100000 in
set_option maxHeartbeats 1000000 in
/-- a key, an info and a size -/
theorem dexp_any (v : Value) (w : World) (hv : Cod w v) :
    Calls Tryd.prog 10 #[v] w fun e w' => (∃ (k s : ByteArray) (n : Int), k.size ≤ 70 ∧ s.size ≤ 65537 ∧ -300 ≤ n ∧ n ≤ 8161 ∧ e = .returned (.tuple #[.string k, .string s, .int .i64 n])) ∧ Below w.heap.size w w' := by
  have T1 := take_any v 0 20 w hv (by omega) (by omega) (by omega)
  have B := byt_any v 1 32 w hv (by omega) (by omega)
  go_enter Tryd.func10, Tryd.ntmps10
  go_wp2_with fail
  refine T1.mono ?_
  rintro e w1 ⟨⟨z, hz, rfl⟩, rfl⟩
  go_wp2_with fail
  refine B.mono ?_
  rintro e w1 ⟨⟨k, hk, rfl⟩, hb1⟩
  have S := some_any v 33 w1 (hv.below hb1) (by omega)
  go_wp2_with fail
  refine S.mono ?_
  rintro e w2 ⟨⟨s, q, hs, hq, rfl⟩, hb2⟩
  have hb := hb1.trans (hb2.mono hb1.size)
  have T2 := take_any v q 200 w2 (hv.below hb) (by omega) (by omega) (by omega)
  go_wp2_with fail
  refine T2.mono ?_
  rintro e w3 ⟨⟨y, hy, rfl⟩, rfl⟩
  clear T1 S B T2 hb1 hb2
  by_cases h18 : z = 18
  · subst h18
    go_wp2
    exact bodyPost_ret (v := .tuple #[.string k, .string s, .int .i64 (8160 + (y : Int) % 2)]) (by simp [results, Tryd.results10, go_sem]) rfl ⟨⟨k, s, _, by omega, hs, by omega, by omega, rfl⟩, hb⟩
  · have h18i : ((z : Int) == 18) = false := by simp; omega
    by_cases h19 : z = 19
    · subst h19
      go_wp2
      exact bodyPost_ret (v := .tuple #[.string k, .string s, .int .i64 (-(y : Int))]) (by simp [results, Tryd.results10, go_sem]) rfl ⟨⟨k, s, _, by omega, hs, by omega, by omega, rfl⟩, hb⟩
    · have h19i : ((z : Int) == 19) = false := by simp; omega
      go_wp2
      exact bodyPost_ret (v := .tuple #[.string k, .string s, .int .i64 ((y : Int))]) (by simp [results, Tryd.results10, go_sem]) rfl ⟨⟨k, s, _, by omega, hs, by omega, by omega, rfl⟩, hb⟩
set_option maxRecDepth 100000 in
set_option maxHeartbeats 1000000 in
/-- a text near the edges of blocks -/
theorem dsha_any (v : Value) (w : World) (hv : Cod w v) :
    Calls Tryd.prog 4 #[v] w fun e w' => (∃ s : ByteArray, s.size ≤ 1000 ∧ e = .returned (.string s)) ∧ Below w.heap.size w w' := by
  obtain ⟨i0, hi, hz0, hz1, hz2⟩ := info_parts infoU8d
  have T1 := take_any v 0 4 w hv (by omega) (by omega) (by omega)
  have T2 := take_any v 1 20 w hv (by omega) (by omega) (by omega)
  go_enter Tryd.func4, Tryd.ntmps4
  go_wp2_with fail
  refine T1.mono ?_
  rintro e w1 ⟨⟨z, hz, rfl⟩, rfl⟩
  go_wp2_with fail
  refine T2.mono ?_
  rintro e w1 ⟨⟨y, hy, rfl⟩, rfl⟩
  clear T1 T2
  by_cases h3 : z < 3
  · have h3i : (z : Int) < 3 := by omega
    obtain ⟨C, hC, hC2⟩ : ∃ C : Nat, 54 + 64 * (z : Int) + (y : Int) % 12 = (C : Int) ∧ C ≤ 300 := ⟨54 + 64 * z + y % 12, by omega, by omega⟩
    go_wp2
    go_loopw [6, 7, 8, 9] (fun q u i _ wr => ∃ (j g cap : Nat) (l : List Int), j ≤ C ∧ i = .int .i64 (j : Int) ∧ q = .int .i64 (2 + (j : Int)) ∧ u = .slice (some ⟨g, 0, none⟩) j cap ∧ l.length = j ∧ Row wr w.heap.size g j cap (l.map (Value.int .u8)) ∧ Below w.heap.size w wr) (fun _ _ i _ _ => C - (intOf i).toNat)
    case atStart => exact ⟨0, w.heap.size, 0, [], by omega, rfl, by simp, rfl, rfl, Row.of_block (n := 0) (cs := #[]) (heap_alloc_new w _) (Nat.le_refl _) (by simp) (by simp), (Below.refl _ _).alloc (Nat.le_refl _) _⟩
    case round =>
      obtain ⟨j, g1, cap1, l, hj, rfl, rfl, rfl, hll, hrow, hbl⟩ := hrel
      have hsz1 : w.heap.size ≤ wr.heap.size := hbl.size
      by_cases hlt : j < C
      · have T := fun w hv => take_any v (2 + j) 256 w hv (by omega) (by omega) (by omega)
        have e1 : ((2 + j : Nat) : Int) = 2 + (j : Int) := by omega
        rw [e1] at T
        have hlti : (j : Int) < (C : Int) := by omega
        clear e1
        go_wp2_with fail
        refine (T _ (hv.below hbl)).mono ?_
        rintro e w2 ⟨⟨z, hz, rfl⟩, rfl⟩
        clear T
        have ez : IntKind.u8.wrap (z : Int) = (z : Int) := by rw [IntKind.wrap_u8]; omega
        go_wp2_with (first
          | (at_builtin; refine wpList_append_row rfl _ _ 22 rfl w.heap.size 5 i0 (.int .u8 0) 1 Tryd.underlying22 hi hz0 hz1 hz2 rfl g1 j cap1 (l.map (Value.int .u8)) rfl (hrow.alloc _) ⟨wr.heap.size, 0, none⟩ 1 1 [.int .u8 z] rfl rfl (World.news_of_block (cs := #[.int .u8 z]) (heap_alloc_new wr _)) (by simp [Value.oneCell']) (by unfold maxLen; omega) (by omega) (by simp; omega) _ rfl ?_; intro g3 cap3 w3 hrow3 hgr3 _ _)
          | go_in)
        have R1 : Row w3 w.heap.size g3 (j + 1) cap3 ((l ++ [(z : Int)]).map (Value.int .u8)) := by rw [List.map_append]; exact hrow3
        have R2 : Below w.heap.size w w3 := (hbl.alloc hsz1 _).grown hgr3 (by simp; omega) (fun r hr => by simp at hr; have := hrow.lo; omega)
        go_roundw
        case rel => exact ⟨j + 1, g3, cap3, l ++ [(z : Int)], by omega, by go_num, (by first | (congr 1; omega) | congr 1), rfl, by simp [hll], R1, R2⟩
        case measure => simp [intOf]; omega
      · obtain rfl : j = C := by omega
        have hcv := run_convert_bytes_arg (P := Tryd.prog) wr 22 5 Tryd.underlying22 Tryd.underlying5 g1 0 j cap1 l hll (fun i h => by rw [Nat.zero_add]; exact hrow.cell i h) 9 Tryd.underlying9
        go_wp2
        go_ret
        exact ⟨⟨_, by rw [strOfNums_size]; omega, rfl⟩, hbl⟩
  · have h3i : ¬ (z : Int) < 3 := by omega
    obtain ⟨C, hC, hC2⟩ : ∃ C : Nat, (y : Int) = (C : Int) ∧ C ≤ 300 := ⟨y, rfl, by omega⟩
    rw [hC]
    clear hC
    go_wp2
    go_loopw [6, 7, 8, 9] (fun q u i _ wr => ∃ (j g cap : Nat) (l : List Int), j ≤ C ∧ i = .int .i64 (j : Int) ∧ q = .int .i64 (2 + (j : Int)) ∧ u = .slice (some ⟨g, 0, none⟩) j cap ∧ l.length = j ∧ Row wr w.heap.size g j cap (l.map (Value.int .u8)) ∧ Below w.heap.size w wr) (fun _ _ i _ _ => C - (intOf i).toNat)
    case atStart => exact ⟨0, w.heap.size, 0, [], by omega, rfl, by simp, rfl, rfl, Row.of_block (n := 0) (cs := #[]) (heap_alloc_new w _) (Nat.le_refl _) (by simp) (by simp), (Below.refl _ _).alloc (Nat.le_refl _) _⟩
    case round =>
      obtain ⟨j, g1, cap1, l, hj, rfl, rfl, rfl, hll, hrow, hbl⟩ := hrel
      have hsz1 : w.heap.size ≤ wr.heap.size := hbl.size
      by_cases hlt : j < C
      · have T := fun w hv => take_any v (2 + j) 256 w hv (by omega) (by omega) (by omega)
        have e1 : ((2 + j : Nat) : Int) = 2 + (j : Int) := by omega
        rw [e1] at T
        have hlti : (j : Int) < (C : Int) := by omega
        clear e1
        go_wp2_with fail
        refine (T _ (hv.below hbl)).mono ?_
        rintro e w2 ⟨⟨z, hz, rfl⟩, rfl⟩
        clear T
        have ez : IntKind.u8.wrap (z : Int) = (z : Int) := by rw [IntKind.wrap_u8]; omega
        go_wp2_with (first
          | (at_builtin; refine wpList_append_row rfl _ _ 22 rfl w.heap.size 5 i0 (.int .u8 0) 1 Tryd.underlying22 hi hz0 hz1 hz2 rfl g1 j cap1 (l.map (Value.int .u8)) rfl (hrow.alloc _) ⟨wr.heap.size, 0, none⟩ 1 1 [.int .u8 z] rfl rfl (World.news_of_block (cs := #[.int .u8 z]) (heap_alloc_new wr _)) (by simp [Value.oneCell']) (by unfold maxLen; omega) (by omega) (by simp; omega) _ rfl ?_; intro g3 cap3 w3 hrow3 hgr3 _ _)
          | go_in)
        have R1 : Row w3 w.heap.size g3 (j + 1) cap3 ((l ++ [(z : Int)]).map (Value.int .u8)) := by rw [List.map_append]; exact hrow3
        have R2 : Below w.heap.size w w3 := (hbl.alloc hsz1 _).grown hgr3 (by simp; omega) (fun r hr => by simp at hr; have := hrow.lo; omega)
        go_roundw
        case rel => exact ⟨j + 1, g3, cap3, l ++ [(z : Int)], by omega, by go_num, (by first | (congr 1; omega) | congr 1), rfl, by simp [hll], R1, R2⟩
        case measure => simp [intOf]; omega
      · obtain rfl : j = C := by omega
        have hcv := run_convert_bytes_arg (P := Tryd.prog) wr 22 5 Tryd.underlying22 Tryd.underlying5 g1 0 j cap1 l hll (fun i h => by rw [Nat.zero_add]; exact hrow.cell i h) 9 Tryd.underlying9
        go_wp2
        go_ret
        exact ⟨⟨_, by rw [strOfNums_size]; omega, rfl⟩, hbl⟩
end Go.Proofs.YtigjoddbljjdnaaDoor

namespace Go.Proofs.YtigjoddbljjdnaaDoor
open Go.RowKit
set_option linter.unusedVariables false

set_option maxRecDepth 100000 in
theorem wpick_none (q : Option Addr) (c i : Nat) (w : World) :
    Calls Tryd.prog 13 #[.slice q 0 c, .int .i64 i] w fun e w' => e = .returned (.int .i64 i) ∧ w = w' := by
  go_enter Tryd.func13, Tryd.ntmps13
  go_wp2
  go_ret
  exact ⟨rfl, rfl⟩
set_option maxRecDepth 100000 in
set_option maxHeartbeats 1000000 in
theorem wpick_some (b o l c i j x : Nat) (w : World) (hl0 : 0 < l) (hl : l ≤ 1048576) (hi : i ≤ 1000) (hj : j = i % l) (hx : x < 256) (hc : w.cell? ⟨b, o + j, none⟩ = some (.int .u8 x)) :
    Calls Tryd.prog 13 #[.slice (some ⟨b, o, none⟩) l c, .int .i64 i] w fun e w' => e = .returned (.int .i64 x) ∧ w = w' := by
  have h2 : ((l : Int) == 0) = false := by simp; omega
  have h6 : ¬ (l = 0) := by omega
  have hj1 : j < l := by rw [hj]; exact Nat.mod_lt _ hl0
  have ej : (i : Int) % (l : Int) = (j : Int) := by rw [hj]; simp
  have hj2 : (j : Int) < (l : Int) := by omega
  clear hj
  go_enter Tryd.func13, Tryd.ntmps13
  go_wp2
  go_ret
  exact ⟨rfl, rfl⟩
theorem wpick_any (v : Value) (i : Nat) (w : World) (hv : Cod w v) (hi : i ≤ 1000) :
    Calls Tryd.prog 13 #[v, .int .i64 i] w fun e w' => (∃ z : Nat, z ≤ 1000 ∧ e = .returned (.int .i64 z)) ∧ w = w' := by
  rcases hv with ⟨q, c, rfl⟩ | ⟨b, o, l, c, h0, h1, rfl, hc⟩
  · refine (wpick_none q c i w).mono ?_
    rintro e w' ⟨rfl, rfl⟩
    exact ⟨⟨i, hi, rfl⟩, rfl⟩
  · obtain ⟨x, hx, hcell⟩ := hc (i % l) (Nat.mod_lt _ h0)
    refine (wpick_some b o l c i _ x w h0 h1 hi rfl hx hcell).mono ?_
    rintro e w' ⟨rfl, rfl⟩
    exact ⟨⟨x, by omega, rfl⟩, rfl⟩
end Go.Proofs.YtigjoddbljjdnaaDoor
