import Derived.Test.YtdaobioomoajfaaGreatMrg5
import Derived.Test.YtdaobioomoajfaaGreatMrg4
import Derived.Test.YtdaobioomoajfaaGreatMrg0
import Derived.Test.YtdaobioomoajfaaGreatChecked
import Derived.WalkKit
import Derived.ProofKit
import Derived.WalkSpells
import Derived.WalkLawsBesides
import Derived.Outline
import Derived.Laws.BytesArg
set_option linter.unusedVariables false
set_option maxRecDepth 100000
set_option maxHeartbeats 16000000
namespace Go.Proofs.YtdaobioomoajfaaGreat
open Go.RowKit M
theorem onS_bigy (x y : Int) (w : World) (h1 : x < 2305843009213693951) (h : 2305843009213693951 ≤ y) :
    Calls Tryz.prog 41 #[.agg #[.int .u64 x, .int .u64 y, .bool false]] w fun e w' => e = .returned (.bool false) ∧ Below w.heap.size w w' := by
  have h2 : (y < 2305843009213693951) = False := by simp; omega
  have h3 : decide (y < 2305843009213693951) = false := by simp; omega
  have h4 : (x < 2305843009213693951) = True := by simp [h1]
  have h5 : decide (x < 2305843009213693951) = true := by simp [h1]
  clear h h1
  go_enter Tryz.func41, Tryz.ntmps41
  go_wp2
  go_region
  go_wp2
  go_ret
  exact ⟨rfl, ((Below.refl _ _).alloc (Nat.le_refl _) _).drew⟩
theorem onS_any (x y : Nat) (b : Bool) (w : World) :
    Calls Tryz.prog 41 #[.agg #[.int .u64 x, .int .u64 y, .bool b]] w fun e w' => e = .returned (.bool (toPt x y b).isSome) ∧ Below w.heap.size w w' := by
  cases b
  · by_cases h1 : x < 2305843009213693951
    · by_cases h2 : y < 2305843009213693951
      · have := onS_some ⟨x, h1⟩ ⟨y, h2⟩ w
        have e : (toPt x y false).isSome = decide ((⟨y, h2⟩ : Fp) * ⟨y, h2⟩ = crv ⟨x, h1⟩) := by
          unfold toPt
          rw [if_neg (by decide), dif_pos ⟨h1, h2⟩]
          split
          · rename_i h; rw [decide_eq_true h]; rfl
          · rename_i h; rw [decide_eq_false h]; rfl
        rw [e]; exact this
      · have := onS_bigy x y w (by omega) (by omega)
        have e : (toPt x y false).isSome = false := by
          unfold toPt
          rw [if_neg (by decide), dif_neg (fun h => h2 h.2)]; rfl
        rw [e]; exact this
    · have := onS_bigx x y w (by omega)
      have e : (toPt x y false).isSome = false := by
        unfold toPt
        rw [if_neg (by decide), dif_neg (fun h => h1 h.1)]; rfl
      rw [e]; exact this
  · have := onS_inf x y w
    have e : (toPt x y true).isSome = decide (x = 0 ∧ y = 0) := by
      unfold toPt
      rw [if_pos rfl]
      split
      · rename_i h; rw [decide_eq_true h]; rfl
      · rename_i h; rw [decide_eq_false h]; rfl
    rw [e]; exact this
end Go.Proofs.YtdaobioomoajfaaGreat
namespace Go.Proofs.YtdaobioomoajfaaGreat
open Go.RowKit
theorem infoU8w : (Tryz.prog.info? 5).map (fun i => (i.zero, i.size, i.bytes)) = some (some (.int .u8 0), 1, 1) := by kernel_rfl
theorem wordS_any (n : Nat) (w : World) (hn : n < 18446744073709551616) :
    Calls Tryz.prog 42 #[.int .u64 n] w fun e w' => e = .returned (.string (strOfNums (be8 n))) ∧ Below w.heap.size w w' := by
  obtain ⟨i0, hi, hz0, hz1, hz2⟩ := info_parts infoU8w
  go_enter Tryz.func42, Tryz.ntmps42
  go_wp2
  go_loopw [3, 4] (fun v i wr => ∃ j g cap : Nat, j ≤ 8 ∧ i = .int .i64 (7 - (j : Int)) ∧ v = .slice (some ⟨g, 0, none⟩) j cap ∧ Row wr w.heap.size g j cap (((be8 n).take j).map (Value.int .u8)) ∧ Below w.heap.size w wr) (fun _ i _ => (intOf i + 1).toNat)
  case atStart => exact ⟨0, w.heap.size, 0, by omega, rfl, rfl, Row.of_block (n := 0) (cs := #[]) (heap_alloc_new w _) (Nat.le_refl _) (by simp) (by simp), (Below.refl _ _).alloc (Nat.le_refl _) _⟩
  case round =>
    obtain ⟨j, g1, cap1, hj, rfl, rfl, hrow, hbl⟩ := hrel
    have hsz1 : w.heap.size ≤ wr.heap.size := hbl.size
    by_cases hlt : j < 8
    · have hg0 : (0 : Int) ≤ 7 - (j : Int) := by omega
      go_wp2_with (first
        | (at_builtin; refine wpList_append_row rfl _ _ 22 rfl w.heap.size 5 i0 (.int .u8 0) 1 Tryz.underlying22 hi hz0 hz1 hz2 rfl g1 j cap1 (((be8 n).take j).map (Value.int .u8)) rfl (hrow.alloc _) ⟨wr.heap.size, 0, none⟩ 1 1 [.int .u8 (beAt n j)] rfl rfl (World.news_of_block (cs := #[.int .u8 (beAt n j)]) (heap_alloc_new wr _)) (by simp [Value.oneCell']) (by unfold maxLen; omega) (by omega) (by simp; omega) _ rfl ?_; intro g3 cap3 w3 hrow3 hgr3 _ _)
        | go_in)
      go_roundw
      case rel =>
        have R1 : Row w3 w.heap.size g3 (j + 1) cap3 (((be8 n).take (j + 1)).map (Value.int .u8)) := by
          rw [be8_take _ j hlt, List.map_append]; exact hrow3
        have R2 : Below w.heap.size w w3 := (hbl.alloc hsz1 _).grown hgr3 (by simp; omega) (fun r hr => by simp at hr; have := hrow.lo; omega)
        have R3 : Value.int .i64 (7 - (j : Int) - 1) = Value.int .i64 (7 - ((j + 1 : Nat) : Int)) := by congr 1; omega
        first
          | exact ⟨j + 1, g3, cap3, by omega, R3, rfl, R1, R2⟩
          | ((repeat apply Exists.intro); exact ⟨⟨j + 1, g3, cap3, by omega, R3, rfl, R1, R2⟩, rfl⟩)
      case measure => simp [intOf]; omega
    · obtain rfl : j = 8 := by omega
      have hrow' : Row wr w.heap.size g1 8 cap1 ((be8 n).map (Value.int .u8)) := hrow
      have hcv := run_convert_bytes_arg (P := Tryz.prog) wr 22 5 Tryz.underlying22 Tryz.underlying5 g1 0 8 cap1 (be8 n) rfl (fun i h => by rw [Nat.zero_add]; exact hrow'.cell i h) 9 Tryz.underlying9
      go_wp2
      go_ret
      exact ⟨rfl, hbl⟩
end Go.Proofs.YtdaobioomoajfaaGreat
namespace Go.Proofs.YtdaobioomoajfaaGreat
open Go.RowKit M
def putN : Pt → Nat
  | none => 0
  | some (x, y) => x.val + 4611686018427387904 + 2305843009213693952 * (y.val % 2)
theorem putN_some (x y : Fp) : putN (some (x, y)) = x.val + 4611686018427387904 + 2305843009213693952 * (y.val % 2) := rfl
theorem putN_lt : ∀ p, putN p < 18446744073709551616
  | none => by decide
  | some (x, y) => by
    have hx := val_lt x
    have hy : y.val % 2 < 2 := Nat.mod_lt _ (by decide)
    rw [putN_some]
    generalize x.val = X at *
    generalize y.val % 2 = Z at *
    omega
theorem putS_inf (x y : Int) (w : World) :
    Calls Tryz.prog 34 #[.agg #[.int .u64 x, .int .u64 y, .bool true]] w fun e w' => e = .returned (.string (strOfNums (be8 (0 : Nat)))) ∧ Below w.heap.size w w' := by
  have L := fun w => wordS_any 0 w (by decide)
  go_enter Tryz.func34, Tryz.ntmps34
  go_wp2_with fail
  refine (L _).mono ?_
  rintro e w' ⟨rfl, hb⟩
  clear L
  go_wp2
  go_ret
  exact ⟨rfl, ((Below.refl _ w).alloc (Nat.le_refl _) _).trans (hb.mono (by simp))⟩
theorem putS_no (x y : Int) (w : World) (O : ∀ w, Calls Tryz.prog 41 #[.agg #[.int .u64 x, .int .u64 y, .bool false]] w fun e w' => e = .returned (.bool false) ∧ Below w.heap.size w w') :
    Calls Tryz.prog 34 #[.agg #[.int .u64 x, .int .u64 y, .bool false]] w fun e w' => e = .returned (.string (strOfNums (be8 (0 : Nat)))) ∧ Below w.heap.size w w' := by
  have L := fun w => wordS_any 0 w (by decide)
  go_enter Tryz.func34, Tryz.ntmps34
  go_wp2_with fail
  refine (O _).mono ?_
  rintro e w1 ⟨rfl, b1⟩
  go_wp2_with fail
  refine (L _).mono ?_
  rintro e w' ⟨rfl, hb⟩
  clear L
  go_wp2
  go_ret
  have b0 := ((Below.refl _ w).alloc (Nat.le_refl _) (Obj.cells #[.int .u64 x, .int .u64 y, .bool false] 25)).trans (b1.mono (by simp))
  exact ⟨rfl, b0.trans (hb.mono b0.size)⟩
theorem putS_yes (x y : Int) (n : Nat) (w : World) (hx0 : 0 ≤ x) (hx : x < 2305843009213693951) (hy0 : 0 ≤ y) (hn : (n : Int) = x + 4611686018427387904 + 2305843009213693952 * (y % 2))
    (O : ∀ w, Calls Tryz.prog 41 #[.agg #[.int .u64 x, .int .u64 y, .bool false]] w fun e w' => e = .returned (.bool true) ∧ Below w.heap.size w w') :
    Calls Tryz.prog 34 #[.agg #[.int .u64 x, .int .u64 y, .bool false]] w fun e w' => e = .returned (.string (strOfNums (be8 n))) ∧ Below w.heap.size w w' := by
  have L := fun w => wordS_any n w (by omega)
  rw [hn] at L ⊢
  clear hn
  go_enter Tryz.func34, Tryz.ntmps34
  go_wp2_with fail
  refine (O _).mono ?_
  rintro e w1 ⟨rfl, b1⟩
  have r0 := (R3.new w x y false).below b1 (by simp)
  have c0 := r0.c0
  have c1 := r0.c1
  go_wp2_with fail
  refine (L _).mono ?_
  rintro e w' ⟨rfl, hb⟩
  clear L
  go_wp2
  go_ret
  have b0 := ((Below.refl _ w).alloc (Nat.le_refl _) (Obj.cells #[.int .u64 x, .int .u64 y, .bool false] 25)).trans (b1.mono (by simp))
  exact ⟨rfl, b0.trans (hb.mono b0.size)⟩
theorem putS_any (x y : Nat) (b : Bool) (w : World) :
    Calls Tryz.prog 34 #[.agg #[.int .u64 x, .int .u64 y, .bool b]] w fun e w' => e = .returned (.string (strOfNums (be8 (putN (asPt x y b) : Nat)))) ∧ Below w.heap.size w w' := by
  have O := onS_any x y b
  cases b with
  | true =>
    have e : asPt x y true = none := by
      unfold asPt toPt
      rw [if_pos rfl]
      split <;> rfl
    rw [e]
    exact putS_inf x y w
  | false =>
    cases h : toPt x y false with
    | none =>
      rw [h] at O
      have e : asPt x y false = none := by unfold asPt; rw [h]; rfl
      rw [e]
      exact putS_no x y w O
    | some p =>
      rw [h] at O
      have e := toPt_W h
      rw [asPt_some h]
      rcases p with _ | ⟨X, Y⟩
      · cases e
      · have e1 : (x : Int) = fv X ∧ (y : Int) = fv Y := by
          simp only [ptW] at e
          injection e with e
          injection e with e
          simpa using e
        have hX := val_lt X
        refine putS_yes x y (putN (some (X, Y))) w (by omega) ?_ (by omega) ?_ O
        · rw [e1.1]; unfold fv; omega
        · rw [e1.1, e1.2, putN_some]; unfold fv
          generalize X.val = A
          generalize Y.val = B
          omega
end Go.Proofs.YtdaobioomoajfaaGreat
namespace Go.Proofs.YtdaobioomoajfaaGreat
open Go.RowKit M
theorem timS_no (k : Nat) (x y : Int) (c : Bool) (w : World)
    (O : ∀ w, Calls Tryz.prog 41 #[.agg #[.int .u64 x, .int .u64 y, .bool c]] w fun e w' => e = .returned (.bool false) ∧ Below w.heap.size w w') :
    Calls Tryz.prog 48 #[.int .u64 k, .agg #[.int .u64 x, .int .u64 y, .bool c]] w fun e w' => e = .returned (.agg #[.int .u64 0, .int .u64 0, .bool true]) ∧ Below w.heap.size w w' := by
  go_enter Tryz.func48, Tryz.ntmps48
  go_wp2_with fail
  refine (zeroS _).mono ?_
  rintro e w' ⟨rfl, rfl⟩
  go_wp2_with fail
  have b0 : Below w.heap.size w ((((w.alloc (Obj.cells #[Value.int IntKind.u64 x, Value.int IntKind.u64 y, Value.bool c] 25)).alloc (Obj.cells #[Value.int IntKind.u64 0, Value.int IntKind.u64 0, Value.bool false] 25)).alloc (Obj.cells #[Value.int IntKind.u64 0, Value.int IntKind.u64 0, Value.bool true] 25)).alloc (Obj.cells #[Value.int IntKind.u64 0, Value.int IntKind.u64 0, Value.bool true] 25)) :=
    ((((Below.refl _ w).alloc (Nat.le_refl _) _).alloc (by simp) _).alloc (by simp; omega) _).alloc (by simp; omega) _
  have r0 : R3 ((((w.alloc (Obj.cells #[Value.int IntKind.u64 x, Value.int IntKind.u64 y, Value.bool c] 25)).alloc (Obj.cells #[Value.int IntKind.u64 0, Value.int IntKind.u64 0, Value.bool false] 25)).alloc (Obj.cells #[Value.int IntKind.u64 0, Value.int IntKind.u64 0, Value.bool true] 25)).alloc (Obj.cells #[Value.int IntKind.u64 0, Value.int IntKind.u64 0, Value.bool true] 25)) w.heap.size x y c :=
    (((R3.new w x y c).alloc _).alloc _).alloc _
  have r1 : R3 ((((w.alloc (Obj.cells #[Value.int IntKind.u64 x, Value.int IntKind.u64 y, Value.bool c] 25)).alloc (Obj.cells #[Value.int IntKind.u64 0, Value.int IntKind.u64 0, Value.bool false] 25)).alloc (Obj.cells #[Value.int IntKind.u64 0, Value.int IntKind.u64 0, Value.bool true] 25)).alloc (Obj.cells #[Value.int IntKind.u64 0, Value.int IntKind.u64 0, Value.bool true] 25)) (w.heap.size + 1) 0 0 false :=
    (((R3.new _ 0 0 false).alloc _).alloc _).at (by simp)
  have r3 : R3 ((((w.alloc (Obj.cells #[Value.int IntKind.u64 x, Value.int IntKind.u64 y, Value.bool c] 25)).alloc (Obj.cells #[Value.int IntKind.u64 0, Value.int IntKind.u64 0, Value.bool false] 25)).alloc (Obj.cells #[Value.int IntKind.u64 0, Value.int IntKind.u64 0, Value.bool true] 25)).alloc (Obj.cells #[Value.int IntKind.u64 0, Value.int IntKind.u64 0, Value.bool true] 25)) (w.heap.size + 1 + 1 + 1) 0 0 true :=
    (R3.new _ 0 0 true).at (by simp)
  refine (O _).mono ?_
  rintro e w1 ⟨rfl, b1⟩
  replace r0 := r0.below b1 r0.lt
  replace r1 := r1.below b1 r1.lt
  replace r3 := r3.below b1 r3.lt
  have b2 := b0.trans (b1.mono b0.size)
  clear b0 b1
  have c0 := r3.c0
  have c1 := r3.c1
  have c2 := r3.c2
  have d0 := r1.c0
  have d1 := r1.c1
  have d2 := r1.c2
  have f0 := r1.frz 0
  have f1 := r1.frz 1
  have f2 := r1.frz 2
  go_wp2
  have rF := r1.set 0 0 true
  refine bodyPost_ret (v := .agg #[.int .u64 0, .int .u64 0, .bool true]) (point_res (fn := Tryz.f48) (p := 4) Tryz.results48 _ rfl rF) rfl ⟨rfl, ?_⟩
  exact set3_below b2 (by omega)
theorem nt_bit0 (p : Pt) (hp : on p) (k j : Nat) (h : k / 2 ^ j % 2 = 0) : ad (nt (k / 2 ^ (j + 1)) p) (nt (k / 2 ^ (j + 1)) p) = nt (k / 2 ^ j) p := by
  have e := shr_succ k j
  rw [h] at e
  rw [← nt_add hp, ← Nat.two_mul, e]; rfl
theorem nt_bit1 (p : Pt) (hp : on p) (k j : Nat) (h : k / 2 ^ j % 2 = 1) : ad (ad (nt (k / 2 ^ (j + 1)) p) (nt (k / 2 ^ (j + 1)) p)) p = nt (k / 2 ^ j) p := by
  have e := shr_succ k j
  rw [h] at e
  rw [← nt_add hp, ← Nat.two_mul, e]; rfl
theorem timS_yes (k : Nat) (p : Pt) (w : World) (hk : k < 18446744073709551616) (hp : on p)
    (O : ∀ w, Calls Tryz.prog 41 #[.agg #[.int .u64 (px p), .int .u64 (py p), .bool (pb p)]] w fun e w' => e = .returned (.bool true) ∧ Below w.heap.size w w') :
    Calls Tryz.prog 48 #[.int .u64 k, .agg #[.int .u64 (px p), .int .u64 (py p), .bool (pb p)]] w fun e w' => e = .returned (.agg #[.int .u64 (px (nt k p)), .int .u64 (py (nt k p)), .bool (pb (nt k p))]) ∧ Below w.heap.size w w' := by
  have hN : Hid (∀ j, (k / 2 ^ j % 2 = 0 → ad (nt (k / 2 ^ (j + 1)) p) (nt (k / 2 ^ (j + 1)) p) = nt (k / 2 ^ j) p) ∧ (k / 2 ^ j % 2 = 1 → ad (ad (nt (k / 2 ^ (j + 1)) p) (nt (k / 2 ^ (j + 1)) p)) p = nt (k / 2 ^ j) p)) := fun j => ⟨nt_bit0 p hp k j, nt_bit1 p hp k j⟩
  have h64 : k / 2 ^ 64 = 0 := Nat.div_eq_of_lt (by omega)
  clear hk hp
  go_enter Tryz.func48, Tryz.ntmps48
  go_wp2_with fail
  refine (zeroS _).mono ?_
  rintro e w' ⟨rfl, rfl⟩
  go_wp2_with fail
  have b0 : Below w.heap.size w ((((w.alloc (Obj.cells #[Value.int IntKind.u64 (px p), Value.int IntKind.u64 (py p), Value.bool (pb p)] 25)).alloc (Obj.cells #[Value.int IntKind.u64 0, Value.int IntKind.u64 0, Value.bool false] 25)).alloc (Obj.cells #[Value.int IntKind.u64 0, Value.int IntKind.u64 0, Value.bool true] 25)).alloc (Obj.cells #[Value.int IntKind.u64 0, Value.int IntKind.u64 0, Value.bool true] 25)) :=
    ((((Below.refl _ w).alloc (Nat.le_refl _) _).alloc (by simp) _).alloc (by simp; omega) _).alloc (by simp; omega) _
  have r0 : R3 ((((w.alloc (Obj.cells #[Value.int IntKind.u64 (px p), Value.int IntKind.u64 (py p), Value.bool (pb p)] 25)).alloc (Obj.cells #[Value.int IntKind.u64 0, Value.int IntKind.u64 0, Value.bool false] 25)).alloc (Obj.cells #[Value.int IntKind.u64 0, Value.int IntKind.u64 0, Value.bool true] 25)).alloc (Obj.cells #[Value.int IntKind.u64 0, Value.int IntKind.u64 0, Value.bool true] 25)) w.heap.size (px p) (py p) (pb p) :=
    (((R3.new w (px p) (py p) (pb p)).alloc _).alloc _).alloc _
  have r1 : R3 ((((w.alloc (Obj.cells #[Value.int IntKind.u64 (px p), Value.int IntKind.u64 (py p), Value.bool (pb p)] 25)).alloc (Obj.cells #[Value.int IntKind.u64 0, Value.int IntKind.u64 0, Value.bool false] 25)).alloc (Obj.cells #[Value.int IntKind.u64 0, Value.int IntKind.u64 0, Value.bool true] 25)).alloc (Obj.cells #[Value.int IntKind.u64 0, Value.int IntKind.u64 0, Value.bool true] 25)) (w.heap.size + 1) 0 0 false :=
    (((R3.new _ 0 0 false).alloc _).alloc _).at (by simp)
  have r3 : R3 ((((w.alloc (Obj.cells #[Value.int IntKind.u64 (px p), Value.int IntKind.u64 (py p), Value.bool (pb p)] 25)).alloc (Obj.cells #[Value.int IntKind.u64 0, Value.int IntKind.u64 0, Value.bool false] 25)).alloc (Obj.cells #[Value.int IntKind.u64 0, Value.int IntKind.u64 0, Value.bool true] 25)).alloc (Obj.cells #[Value.int IntKind.u64 0, Value.int IntKind.u64 0, Value.bool true] 25)) (w.heap.size + 1 + 1 + 1) 0 0 true :=
    (R3.new _ 0 0 true).at (by simp)
  refine (O _).mono ?_
  rintro e w1 ⟨rfl, b1⟩
  replace r0 := r0.below b1 r0.lt
  replace r1 := r1.below b1 r1.lt
  replace r3 := r3.below b1 r3.lt
  have b2 := b0.trans (b1.mono b0.size)
  clear b0 b1
  clear O
  go_wp2
  go_loopw [6] (fun i wr => ∃ (j : Nat) (x : Int) (q : Pt), x = (j : Int) - 1 ∧ j ≤ 64 ∧ i = .int .i64 x ∧ Hid (q = nt (k / 2 ^ j) p) ∧ R3 wr (w.heap.size + 1 + 1 + 1) (px q) (py q) (pb q) ∧ R3 wr w.heap.size (px p) (py p) (pb p) ∧ R3 wr (w.heap.size + 1) 0 0 false ∧ Below w.heap.size w wr) (fun i _ => (intOf i + 1).toNat)
  case atStart => exact ⟨64, 63, none, rfl, by omega, rfl, by rw [h64]; rfl, r3, r0, r1, b2⟩
  case round =>
    clear r0 r1 r3 b2 h64
    obtain ⟨j, x, q, hx, hj, rfl, hq, r3, r0, r1, b2⟩ := hrel
    rcases j with _ | j
    · have hneg : ¬ ((0 : Int) ≤ x) := by omega
      clear hx
      have hq' : q = nt k p := by rw [hq.out, Nat.pow_zero, Nat.div_one]
      subst hq'
      have c0 := r3.c0
      have c1 := r3.c1
      have c2 := r3.c2
      have d0 := r1.c0
      have d1 := r1.c1
      have d2 := r1.c2
      have f0 := r1.frz 0
      have f1 := r1.frz 1
      have f2 := r1.frz 2
      go_wp2
      have rF := r1.set (px (nt k p)) (py (nt k p)) (pb (nt k p))
      refine bodyPost_ret (v := .agg #[.int .u64 (px (nt k p)), .int .u64 (py (nt k p)), .bool (pb (nt k p))]) (point_res (fn := Tryz.f48) (p := 4) Tryz.results48 _ rfl rF) rfl ⟨rfl, ?_⟩
      exact set3_below b2 (by omega)
    · obtain rfl : x = (j : Int) := by omega
      clear hx
      have hN0 := (hN.out j).1
      have hN1 := (hN.out j).2
      rw [← hq.out] at hN0 hN1
      have S1 := sumS_xyz q q
      have S2 := sumS_xyz (ad q q) p
      obtain ⟨q2, hq2⟩ : ∃ q2, q2 = ad q q := ⟨_, rfl⟩
      rw [← hq2] at hN0 hN1 S1 S2
      obtain ⟨q3, hq3⟩ : ∃ q3, q3 = ad q2 p := ⟨_, rfl⟩
      rw [← hq3] at hN1 S2
      clear hq2 hq3 hq
      have c0 := r3.c0
      have c1 := r3.c1
      have c2 := r3.c2
      by_cases hbit : k / 2 ^ j % 2 = 1
      · have ht := bit1 _ k j rfl hbit
        have hR : Hid (q3 = nt (k / 2 ^ j) p) := hN1 hbit
        clear hN0 hN1 hbit
        go_wp2_with fail
        refine (S1 _).mono ?_
        rintro e w2 ⟨rfl, B⟩
        replace r3 := r3.below B r3.lt
        replace r0 := r0.below B r0.lt
        replace r1 := r1.below B r1.lt
        replace b2 := b2.trans (B.mono b2.size)
        clear c0 c1 c2 B
        have c0 := r3.c0
        have c1 := r3.c1
        have c2 := r3.c2
        have f0 := r3.frz 0
        have f1 := r3.frz 1
        have f2 := r3.frz 2
        have t3 := r3.set (px q2) (py q2) (pb q2)
        have t0 := r0.other (b' := w.heap.size + 1 + 1 + 1) (by omega) (px q2) (py q2) (pb q2)
        have t1 := r1.other (b' := w.heap.size + 1 + 1 + 1) (by omega) (px q2) (py q2) (pb q2)
        have tb := set3_below (b := w.heap.size + 1 + 1 + 1) (x := px q2) (y := py q2) (c := pb q2) b2 (by omega)
        unfold set3 at t3 t0 t1 tb
        have e0 := t3.c0
        have e1 := t3.c1
        have e2 := t3.c2
        have g0 := t0.c0
        have g1 := t0.c1
        have g2 := t0.c2
        go_wp2_with fail
        refine (S2 _).mono ?_
        rintro e w3 ⟨rfl, B⟩
        replace t3 := t3.below B t3.lt
        replace t0 := t0.below B t0.lt
        replace t1 := t1.below B t1.lt
        replace tb := tb.trans (B.mono tb.size)
        clear c0 c1 c2 f0 f1 f2 e0 e1 e2 g0 g1 g2 r0 r1 r3 b2 B
        have c0 := t3.c0
        have c1 := t3.c1
        have c2 := t3.c2
        have f0 := t3.frz 0
        have f1 := t3.frz 1
        have f2 := t3.frz 2
        go_wp2
        go_roundw
        case rel => exact ⟨j, (j : Int) - 1, q3, rfl, by omega, rfl, hR, t3.set (px q3) (py q3) (pb q3), t0.other (by omega) _ _ _, t1.other (by omega) _ _ _, set3_below tb (by omega)⟩
        case measure => simp [intOf]
      · have hb0 : k / 2 ^ j % 2 = 0 := by omega
        have ht := bit0 _ k j rfl hb0
        have hR : Hid (q2 = nt (k / 2 ^ j) p) := hN0 hb0
        clear hN0 hN1 hbit hb0
        go_wp2_with fail
        refine (S1 _).mono ?_
        rintro e w2 ⟨rfl, B⟩
        replace r3 := r3.below B r3.lt
        replace r0 := r0.below B r0.lt
        replace r1 := r1.below B r1.lt
        replace b2 := b2.trans (B.mono b2.size)
        clear c0 c1 c2 B
        have c0 := r3.c0
        have c1 := r3.c1
        have c2 := r3.c2
        have f0 := r3.frz 0
        have f1 := r3.frz 1
        have f2 := r3.frz 2
        go_wp2
        go_roundw
        case rel => exact ⟨j, (j : Int) - 1, q2, rfl, by omega, rfl, hR, r3.set (px q2) (py q2) (pb q2), r0.other (by omega) _ _ _, r1.other (by omega) _ _ _, set3_below b2 (by omega)⟩
        case measure => simp [intOf]
end Go.Proofs.YtdaobioomoajfaaGreat
