import Derived.Test.YtjmhmajfkdglnaaGreatDoorMrg19
import Derived.Test.YtjmhmajfkdglnaaGreatDoorMrg17
import Derived.Test.YtjmhmajfkdglnaaGreatDoorMrg16
import Derived.Test.YtjmhmajfkdglnaaGreatDoorMrg0
import Derived.Test.YtjmhmajfkdglnaaGreatDoorMrg18
set_option linter.unusedVariables false
set_option maxRecDepth 100000
set_option maxHeartbeats 16000000
namespace Go.Proofs.YtjmhmajfkdglnaaGreatDoor
open Go.RowKit M
theorem timS_no (k : Nat) (x y : Int) (c : Bool) (w : World)
    (O : ∀ w, Calls Tryz.prog 76 #[.agg #[.int .u64 x, .int .u64 y, .bool c]] w fun e w' => e = .returned (.bool false) ∧ Below w.heap.size w w') :
    Calls Tryz.prog 37 #[.int .u64 k, .agg #[.int .u64 x, .int .u64 y, .bool c]] w fun e w' => e = .returned (.agg #[.int .u64 0, .int .u64 0, .bool true]) ∧ Below w.heap.size w w' := by
  go_enter Tryz.func37, Tryz.ntmps37
  go_wp2_with fail
  refine (zeroS _).mono ?_
  rintro e w' ⟨rfl, rfl⟩
  go_wp2_with fail
  have b0 : Below w.heap.size w ((((w.alloc (Obj.cells #[Value.int IntKind.u64 x, Value.int IntKind.u64 y, Value.bool c] 28)).alloc (Obj.cells #[Value.int IntKind.u64 0, Value.int IntKind.u64 0, Value.bool false] 28)).alloc (Obj.cells #[Value.int IntKind.u64 0, Value.int IntKind.u64 0, Value.bool true] 28)).alloc (Obj.cells #[Value.int IntKind.u64 0, Value.int IntKind.u64 0, Value.bool true] 28)) :=
    ((((Below.refl _ w).alloc (Nat.le_refl _) _).alloc (by simp) _).alloc (by simp; omega) _).alloc (by simp; omega) _
  have r0 : R3 ((((w.alloc (Obj.cells #[Value.int IntKind.u64 x, Value.int IntKind.u64 y, Value.bool c] 28)).alloc (Obj.cells #[Value.int IntKind.u64 0, Value.int IntKind.u64 0, Value.bool false] 28)).alloc (Obj.cells #[Value.int IntKind.u64 0, Value.int IntKind.u64 0, Value.bool true] 28)).alloc (Obj.cells #[Value.int IntKind.u64 0, Value.int IntKind.u64 0, Value.bool true] 28)) w.heap.size x y c :=
    (((R3.new w x y c).alloc _).alloc _).alloc _
  have r1 : R3 ((((w.alloc (Obj.cells #[Value.int IntKind.u64 x, Value.int IntKind.u64 y, Value.bool c] 28)).alloc (Obj.cells #[Value.int IntKind.u64 0, Value.int IntKind.u64 0, Value.bool false] 28)).alloc (Obj.cells #[Value.int IntKind.u64 0, Value.int IntKind.u64 0, Value.bool true] 28)).alloc (Obj.cells #[Value.int IntKind.u64 0, Value.int IntKind.u64 0, Value.bool true] 28)) (w.heap.size + 1) 0 0 false :=
    (((R3.new _ 0 0 false).alloc _).alloc _).at (by simp)
  have r3 : R3 ((((w.alloc (Obj.cells #[Value.int IntKind.u64 x, Value.int IntKind.u64 y, Value.bool c] 28)).alloc (Obj.cells #[Value.int IntKind.u64 0, Value.int IntKind.u64 0, Value.bool false] 28)).alloc (Obj.cells #[Value.int IntKind.u64 0, Value.int IntKind.u64 0, Value.bool true] 28)).alloc (Obj.cells #[Value.int IntKind.u64 0, Value.int IntKind.u64 0, Value.bool true] 28)) (w.heap.size + 1 + 1 + 1) 0 0 true :=
    (R3.new _ 0 0 true).at (by simp)
  refine (O _).mono ?_
  rintro e w1 ⟨rfl, b1⟩
  replace r0 := r0.below b1 r0.lt
  replace r1 := r1.below b1 r1.lt
  replace r3 := r3.below b1 r3.lt
  have b2 := b0.trans (b1.mono b0.size)
  clear b0 b1
  have c0 := r3.c0
  have c1 := r3.c1
  have c2 := r3.c2
  have d0 := r1.c0
  have d1 := r1.c1
  have d2 := r1.c2
  have f0 := r1.frz 0
  have f1 := r1.frz 1
  have f2 := r1.frz 2
  go_wp2
  have rF := r1.set 0 0 true
  refine bodyPost_ret (v := .agg #[.int .u64 0, .int .u64 0, .bool true]) (point_res (fn := Tryz.f37) (p := 4) Tryz.results37 _ rfl rF) rfl ⟨rfl, ?_⟩
  exact set3_below b2 (by omega)
theorem nt_bit0 (p : Pt) (hp : on p) (k j : Nat) (h : k / 2 ^ j % 2 = 0) : ad (nt (k / 2 ^ (j + 1)) p) (nt (k / 2 ^ (j + 1)) p) = nt (k / 2 ^ j) p := by
  have e := shr_succ k j
  rw [h] at e
  rw [← nt_add hp, ← Nat.two_mul, e]; rfl
theorem nt_bit1 (p : Pt) (hp : on p) (k j : Nat) (h : k / 2 ^ j % 2 = 1) : ad (ad (nt (k / 2 ^ (j + 1)) p) (nt (k / 2 ^ (j + 1)) p)) p = nt (k / 2 ^ j) p := by
  have e := shr_succ k j
  rw [h] at e
  rw [← nt_add hp, ← Nat.two_mul, e]; rfl
theorem timS_yes (k : Nat) (p : Pt) (w : World) (hk : k < 18446744073709551616) (hp : on p)
    (O : ∀ w, Calls Tryz.prog 76 #[.agg #[.int .u64 (px p), .int .u64 (py p), .bool (pb p)]] w fun e w' => e = .returned (.bool true) ∧ Below w.heap.size w w') :
    Calls Tryz.prog 37 #[.int .u64 k, .agg #[.int .u64 (px p), .int .u64 (py p), .bool (pb p)]] w fun e w' => e = .returned (.agg #[.int .u64 (px (nt k p)), .int .u64 (py (nt k p)), .bool (pb (nt k p))]) ∧ Below w.heap.size w w' := by
  have hN : Hid (∀ j, (k / 2 ^ j % 2 = 0 → ad (nt (k / 2 ^ (j + 1)) p) (nt (k / 2 ^ (j + 1)) p) = nt (k / 2 ^ j) p) ∧ (k / 2 ^ j % 2 = 1 → ad (ad (nt (k / 2 ^ (j + 1)) p) (nt (k / 2 ^ (j + 1)) p)) p = nt (k / 2 ^ j) p)) := fun j => ⟨nt_bit0 p hp k j, nt_bit1 p hp k j⟩
  have h64 : k / 2 ^ 64 = 0 := Nat.div_eq_of_lt (by omega)
  clear hk hp
  go_enter Tryz.func37, Tryz.ntmps37
  go_wp2_with fail
  refine (zeroS _).mono ?_
  rintro e w' ⟨rfl, rfl⟩
  go_wp2_with fail
  have b0 : Below w.heap.size w ((((w.alloc (Obj.cells #[Value.int IntKind.u64 (px p), Value.int IntKind.u64 (py p), Value.bool (pb p)] 28)).alloc (Obj.cells #[Value.int IntKind.u64 0, Value.int IntKind.u64 0, Value.bool false] 28)).alloc (Obj.cells #[Value.int IntKind.u64 0, Value.int IntKind.u64 0, Value.bool true] 28)).alloc (Obj.cells #[Value.int IntKind.u64 0, Value.int IntKind.u64 0, Value.bool true] 28)) :=
    ((((Below.refl _ w).alloc (Nat.le_refl _) _).alloc (by simp) _).alloc (by simp; omega) _).alloc (by simp; omega) _
  have r0 : R3 ((((w.alloc (Obj.cells #[Value.int IntKind.u64 (px p), Value.int IntKind.u64 (py p), Value.bool (pb p)] 28)).alloc (Obj.cells #[Value.int IntKind.u64 0, Value.int IntKind.u64 0, Value.bool false] 28)).alloc (Obj.cells #[Value.int IntKind.u64 0, Value.int IntKind.u64 0, Value.bool true] 28)).alloc (Obj.cells #[Value.int IntKind.u64 0, Value.int IntKind.u64 0, Value.bool true] 28)) w.heap.size (px p) (py p) (pb p) :=
    (((R3.new w (px p) (py p) (pb p)).alloc _).alloc _).alloc _
  have r1 : R3 ((((w.alloc (Obj.cells #[Value.int IntKind.u64 (px p), Value.int IntKind.u64 (py p), Value.bool (pb p)] 28)).alloc (Obj.cells #[Value.int IntKind.u64 0, Value.int IntKind.u64 0, Value.bool false] 28)).alloc (Obj.cells #[Value.int IntKind.u64 0, Value.int IntKind.u64 0, Value.bool true] 28)).alloc (Obj.cells #[Value.int IntKind.u64 0, Value.int IntKind.u64 0, Value.bool true] 28)) (w.heap.size + 1) 0 0 false :=
    (((R3.new _ 0 0 false).alloc _).alloc _).at (by simp)
  have r3 : R3 ((((w.alloc (Obj.cells #[Value.int IntKind.u64 (px p), Value.int IntKind.u64 (py p), Value.bool (pb p)] 28)).alloc (Obj.cells #[Value.int IntKind.u64 0, Value.int IntKind.u64 0, Value.bool false] 28)).alloc (Obj.cells #[Value.int IntKind.u64 0, Value.int IntKind.u64 0, Value.bool true] 28)).alloc (Obj.cells #[Value.int IntKind.u64 0, Value.int IntKind.u64 0, Value.bool true] 28)) (w.heap.size + 1 + 1 + 1) 0 0 true :=
    (R3.new _ 0 0 true).at (by simp)
  refine (O _).mono ?_
  rintro e w1 ⟨rfl, b1⟩
  replace r0 := r0.below b1 r0.lt
  replace r1 := r1.below b1 r1.lt
  replace r3 := r3.below b1 r3.lt
  have b2 := b0.trans (b1.mono b0.size)
  clear b0 b1
  clear O
  go_wp2
  go_loopw [6] (fun i wr => ∃ (j : Nat) (x : Int) (q : Pt), x = (j : Int) - 1 ∧ j ≤ 64 ∧ i = .int .i64 x ∧ Hid (q = nt (k / 2 ^ j) p) ∧ R3 wr (w.heap.size + 1 + 1 + 1) (px q) (py q) (pb q) ∧ R3 wr w.heap.size (px p) (py p) (pb p) ∧ R3 wr (w.heap.size + 1) 0 0 false ∧ Below w.heap.size w wr) (fun i _ => (intOf i + 1).toNat)
  case atStart => exact ⟨64, 63, none, rfl, by omega, rfl, by rw [h64]; rfl, r3, r0, r1, b2⟩
  case round =>
    clear r0 r1 r3 b2 h64
    obtain ⟨j, x, q, hx, hj, rfl, hq, r3, r0, r1, b2⟩ := hrel
    rcases j with _ | j
    · have hneg : ¬ ((0 : Int) ≤ x) := by omega
      clear hx
      have hq' : q = nt k p := by rw [hq.out, Nat.pow_zero, Nat.div_one]
      subst hq'
      have c0 := r3.c0
      have c1 := r3.c1
      have c2 := r3.c2
      have d0 := r1.c0
      have d1 := r1.c1
      have d2 := r1.c2
      have f0 := r1.frz 0
      have f1 := r1.frz 1
      have f2 := r1.frz 2
      go_wp2
      have rF := r1.set (px (nt k p)) (py (nt k p)) (pb (nt k p))
      refine bodyPost_ret (v := .agg #[.int .u64 (px (nt k p)), .int .u64 (py (nt k p)), .bool (pb (nt k p))]) (point_res (fn := Tryz.f37) (p := 4) Tryz.results37 _ rfl rF) rfl ⟨rfl, ?_⟩
      exact set3_below b2 (by omega)
    · obtain rfl : x = (j : Int) := by omega
      clear hx
      have hN0 := (hN.out j).1
      have hN1 := (hN.out j).2
      rw [← hq.out] at hN0 hN1
      have S1 := sumS_xyz q q
      have S2 := sumS_xyz (ad q q) p
      obtain ⟨q2, hq2⟩ : ∃ q2, q2 = ad q q := ⟨_, rfl⟩
      rw [← hq2] at hN0 hN1 S1 S2
      obtain ⟨q3, hq3⟩ : ∃ q3, q3 = ad q2 p := ⟨_, rfl⟩
      rw [← hq3] at hN1 S2
      clear hq2 hq3 hq
      have c0 := r3.c0
      have c1 := r3.c1
      have c2 := r3.c2
      by_cases hbit : k / 2 ^ j % 2 = 1
      · have ht := bit1 _ k j rfl hbit
        have hR : Hid (q3 = nt (k / 2 ^ j) p) := hN1 hbit
        clear hN0 hN1 hbit
        go_wp2_with fail
        refine (S1 _).mono ?_
        rintro e w2 ⟨rfl, B⟩
        replace r3 := r3.below B r3.lt
        replace r0 := r0.below B r0.lt
        replace r1 := r1.below B r1.lt
        replace b2 := b2.trans (B.mono b2.size)
        clear c0 c1 c2 B
        have c0 := r3.c0
        have c1 := r3.c1
        have c2 := r3.c2
        have f0 := r3.frz 0
        have f1 := r3.frz 1
        have f2 := r3.frz 2
        have t3 := r3.set (px q2) (py q2) (pb q2)
        have t0 := r0.other (b' := w.heap.size + 1 + 1 + 1) (by omega) (px q2) (py q2) (pb q2)
        have t1 := r1.other (b' := w.heap.size + 1 + 1 + 1) (by omega) (px q2) (py q2) (pb q2)
        have tb := set3_below (b := w.heap.size + 1 + 1 + 1) (x := px q2) (y := py q2) (c := pb q2) b2 (by omega)
        unfold set3 at t3 t0 t1 tb
        have e0 := t3.c0
        have e1 := t3.c1
        have e2 := t3.c2
        have g0 := t0.c0
        have g1 := t0.c1
        have g2 := t0.c2
        go_wp2_with fail
        refine (S2 _).mono ?_
        rintro e w3 ⟨rfl, B⟩
        replace t3 := t3.below B t3.lt
        replace t0 := t0.below B t0.lt
        replace t1 := t1.below B t1.lt
        replace tb := tb.trans (B.mono tb.size)
        clear c0 c1 c2 f0 f1 f2 e0 e1 e2 g0 g1 g2 r0 r1 r3 b2 B
        have c0 := t3.c0
        have c1 := t3.c1
        have c2 := t3.c2
        have f0 := t3.frz 0
        have f1 := t3.frz 1
        have f2 := t3.frz 2
        go_wp2
        go_roundw
        case rel => exact ⟨j, (j : Int) - 1, q3, rfl, by omega, rfl, hR, t3.set (px q3) (py q3) (pb q3), t0.other (by omega) _ _ _, t1.other (by omega) _ _ _, set3_below tb (by omega)⟩
        case measure => simp [intOf]
      · have hb0 : k / 2 ^ j % 2 = 0 := by omega
        have ht := bit0 _ k j rfl hb0
        have hR : Hid (q2 = nt (k / 2 ^ j) p) := hN0 hb0
        clear hN0 hN1 hbit hb0
        go_wp2_with fail
        refine (S1 _).mono ?_
        rintro e w2 ⟨rfl, B⟩
        replace r3 := r3.below B r3.lt
        replace r0 := r0.below B r0.lt
        replace r1 := r1.below B r1.lt
        replace b2 := b2.trans (B.mono b2.size)
        clear c0 c1 c2 B
        have c0 := r3.c0
        have c1 := r3.c1
        have c2 := r3.c2
        have f0 := r3.frz 0
        have f1 := r3.frz 1
        have f2 := r3.frz 2
        go_wp2
        go_roundw
        case rel => exact ⟨j, (j : Int) - 1, q2, rfl, by omega, rfl, hR, r3.set (px q2) (py q2) (pb q2), r0.other (by omega) _ _ _, r1.other (by omega) _ _ _, set3_below b2 (by omega)⟩
        case measure => simp [intOf]
theorem nt_none : ∀ k, nt k none = none
  | 0 => rfl
  | k + 1 => by rw [nt, nt_none k]; rfl
theorem timS_any (k x y : Nat) (b : Bool) (w : World) (hk : k < 18446744073709551616) :
    Calls Tryz.prog 37 #[.int .u64 k, .agg #[.int .u64 x, .int .u64 y, .bool b]] w fun e w' => e = .returned (ptW (nt k (asPt x y b))) ∧ Below w.heap.size w w' := by
  have O := onS_any x y b
  cases h : toPt x y b with
  | none =>
    rw [h] at O
    have := timS_no k x y b w O
    have e : asPt x y b = none := by unfold asPt; rw [h]; rfl
    rw [e, nt_none]; exact this
  | some p =>
    rw [h] at O
    have e := toPt_W h
    rw [ptW_eq] at e
    rw [e] at O ⊢
    rw [asPt_some h, ptW_eq]
    exact timS_yes k p w hk (toPt_on h) O
def putN : Pt → Nat
  | none => 0
  | some (x, y) => x.val + 4611686018427387904 + 2305843009213693952 * (y.val % 2)
theorem putN_some (x y : Fp) : putN (some (x, y)) = x.val + 4611686018427387904 + 2305843009213693952 * (y.val % 2) := rfl
theorem putN_lt : ∀ p, putN p < 18446744073709551616
  | none => by decide
  | some (x, y) => by
    have hx := val_lt x
    have hy : y.val % 2 < 2 := Nat.mod_lt _ (by decide)
    rw [putN_some]
    generalize x.val = X at *
    generalize y.val % 2 = Z at *
    omega
theorem putS_inf (x y : Int) (w : World) :
    Calls Tryz.prog 75 #[.agg #[.int .u64 x, .int .u64 y, .bool true]] w fun e w' => e = .returned (.string (strOfNums (be8 (0 : Nat)))) ∧ Below w.heap.size w w' := by
  have L := fun w => wordS_any 0 w (by decide)
  go_enter Tryz.func75, Tryz.ntmps75
  go_wp2_with fail
  refine (L _).mono ?_
  rintro e w' ⟨rfl, hb⟩
  clear L
  go_wp2
  go_ret
  exact ⟨rfl, ((Below.refl _ w).alloc (Nat.le_refl _) _).trans (hb.mono (by simp))⟩
theorem putS_no (x y : Int) (w : World) (O : ∀ w, Calls Tryz.prog 76 #[.agg #[.int .u64 x, .int .u64 y, .bool false]] w fun e w' => e = .returned (.bool false) ∧ Below w.heap.size w w') :
    Calls Tryz.prog 75 #[.agg #[.int .u64 x, .int .u64 y, .bool false]] w fun e w' => e = .returned (.string (strOfNums (be8 (0 : Nat)))) ∧ Below w.heap.size w w' := by
  have L := fun w => wordS_any 0 w (by decide)
  go_enter Tryz.func75, Tryz.ntmps75
  go_wp2_with fail
  refine (O _).mono ?_
  rintro e w1 ⟨rfl, b1⟩
  go_wp2_with fail
  refine (L _).mono ?_
  rintro e w' ⟨rfl, hb⟩
  clear L
  go_wp2
  go_ret
  have b0 := ((Below.refl _ w).alloc (Nat.le_refl _) (Obj.cells #[.int .u64 x, .int .u64 y, .bool false] 28)).trans (b1.mono (by simp))
  exact ⟨rfl, b0.trans (hb.mono b0.size)⟩
theorem putS_yes (x y : Int) (n : Nat) (w : World) (hx0 : 0 ≤ x) (hx : x < 2305843009213693951) (hy0 : 0 ≤ y) (hn : (n : Int) = x + 4611686018427387904 + 2305843009213693952 * (y % 2))
    (O : ∀ w, Calls Tryz.prog 76 #[.agg #[.int .u64 x, .int .u64 y, .bool false]] w fun e w' => e = .returned (.bool true) ∧ Below w.heap.size w w') :
    Calls Tryz.prog 75 #[.agg #[.int .u64 x, .int .u64 y, .bool false]] w fun e w' => e = .returned (.string (strOfNums (be8 n))) ∧ Below w.heap.size w w' := by
  have L := fun w => wordS_any n w (by omega)
  rw [hn] at L ⊢
  clear hn
  go_enter Tryz.func75, Tryz.ntmps75
  go_wp2_with fail
  refine (O _).mono ?_
  rintro e w1 ⟨rfl, b1⟩
  have r0 := (R3.new w x y false).below b1 (by simp)
  have c0 := r0.c0
  have c1 := r0.c1
  go_wp2_with fail
  refine (L _).mono ?_
  rintro e w' ⟨rfl, hb⟩
  clear L
  go_wp2
  go_ret
  have b0 := ((Below.refl _ w).alloc (Nat.le_refl _) (Obj.cells #[.int .u64 x, .int .u64 y, .bool false] 28)).trans (b1.mono (by simp))
  exact ⟨rfl, b0.trans (hb.mono b0.size)⟩
theorem putS_any (x y : Nat) (b : Bool) (w : World) :
    Calls Tryz.prog 75 #[.agg #[.int .u64 x, .int .u64 y, .bool b]] w fun e w' => e = .returned (.string (strOfNums (be8 (putN (asPt x y b) : Nat)))) ∧ Below w.heap.size w w' := by
  have O := onS_any x y b
  cases b with
  | true =>
    have e : asPt x y true = none := by
      unfold asPt toPt
      rw [if_pos rfl]
      split <;> rfl
    rw [e]
    exact putS_inf x y w
  | false =>
    cases h : toPt x y false with
    | none =>
      rw [h] at O
      have e : asPt x y false = none := by unfold asPt; rw [h]; rfl
      rw [e]
      exact putS_no x y w O
    | some p =>
      rw [h] at O
      have e := toPt_W h
      rw [asPt_some h]
      rcases p with _ | ⟨X, Y⟩
      · cases e
      · have e1 : (x : Int) = fv X ∧ (y : Int) = fv Y := by
          simp only [ptW] at e
          injection e with e
          injection e with e
          simpa using e
        have hX := val_lt X
        refine putS_yes x y (putN (some (X, Y))) w (by omega) ?_ (by omega) ?_ O
        · rw [e1.1]; unfold fv; omega
        · rw [e1.1, e1.2, putN_some]; unfold fv
          generalize X.val = A
          generalize Y.val = B
          omega
theorem toPt_self {X Y : Fp} (h : on (some (X, Y))) : toPt X.val Y.val false = some (some (X, Y)) := by
  unfold toPt
  rw [if_neg (by decide), dif_pos ⟨X.isLt, Y.isLt⟩]
  exact if_pos h
def ptB (p : Pt) : ByteArray := strOfNums (be8 (putN p : Nat))
theorem ptB_size (p : Pt) : (ptB p).size = 8 := by unfold ptB; rw [strOfNums_size]; rfl
def seedT (k : Nat) : ByteArray := tagB ⟨#[83, 101, 101, 100, 45]⟩ k
theorem seedT_size (k : Nat) (h : k < 3) : (seedT k).size = 17 := tagB_size _ k h
def seedM (k : Nat) (b : Pt) : ByteArray := sizB (ptB b) ++ sizB (seedT k)
def seedB (k : Nat) (b : Pt) : ByteArray := strOfNums (shaF (byt (seedM k b)))
def compB : ByteArray := ⟨#[67, 111, 109, 112, 111, 115, 105, 116, 101]⟩
def challB : ByteArray := ⟨#[67, 104, 97, 108, 108, 101, 110, 103, 101]⟩
def wgtT (k : Nat) (b : Pt) (i : Nat) (c d : Pt) : ByteArray := sizB (seedB k b) ++ numB i ++ sizB (ptB c) ++ sizB (ptB d) ++ compB
def wgt (k : Nat) (b : Pt) (i : Nat) (c d : Pt) : Nat := scaN (wgtT k b i c d) k
theorem scaN_lt (s : ByteArray) (k : Nat) : scaN s k < 2305843010818082053 := Nat.mod_lt _ (by decide)
def wgts (k : Nat) (b : Pt) (cs ds : List Pt) (n : Nat) : List Int := (List.range n).map fun i => ((wgt k b i (cs.getD i none) (ds.getD i none) : Nat) : Int)
theorem wgts_length (k : Nat) (b : Pt) (cs ds : List Pt) (n : Nat) : (wgts k b cs ds n).length = n := by simp [wgts]
theorem wgts_succ (k : Nat) (b : Pt) (cs ds : List Pt) (n : Nat) : wgts k b cs ds (n + 1) = wgts k b cs ds n ++ [((wgt k b n (cs.getD n none) (ds.getD n none) : Nat) : Int)] := by
  simp [wgts, List.range_succ]
theorem wgts_at (k : Nat) (b : Pt) (cs ds : List Pt) (n i : Nat) (h : i < n) : lk (wgts k b cs ds n) i = ((wgt k b i (cs.getD i none) (ds.getD i none) : Nat) : Int) := by
  unfold lk wgts
  rw [List.getD_eq_getElem?_getD, List.getElem?_map, List.getElem?_range h]
  rfl
theorem wgts_lt (k : Nat) (b : Pt) (cs ds : List Pt) (n : Nat) : ∀ x ∈ wgts k b cs ds n, 0 ≤ x ∧ x < 2305843010818082053 := by
  intro x hx
  unfold wgts at hx
  obtain ⟨i, -, rfl⟩ := List.mem_map.1 hx
  have := scaN_lt (wgtT k b i (cs.getD i none) (ds.getD i none)) k
  unfold wgt
  omega
def mixTo (ws : List Int) (ps : List Pt) : Nat → Pt
  | 0 => none
  | n + 1 => ad (mixTo ws ps n) (nt (lk ws n).toNat (ps.getD n none))
theorem mixTo_on {ws : List Int} {ps : List Pt} (h : ∀ p ∈ ps, on p) : ∀ n, on (mixTo ws ps n)
  | 0 => trivial
  | n + 1 => by
    refine ad_on (mixTo_on h n) (nt_on ?_ _)
    rw [List.getD_eq_getElem?_getD]
    cases hn : ps[n]? with
    | none => trivial
    | some p => exact h p (List.mem_of_getElem? hn)
def chalT (b m z x y : Pt) : ByteArray := sizB (ptB b) ++ sizB (ptB m) ++ sizB (ptB z) ++ sizB (ptB x) ++ sizB (ptB y) ++ challB
def chal (k : Nat) (b m z x y : Pt) : Nat := scaN (chalT b m z x y) k
abbrev Tri := Nat × Nat × Bool
noncomputable def asT (t : Tri) : Pt := asPt t.1 t.2.1 t.2.2
noncomputable def onT (t : Tri) : Bool := (toPt t.1 t.2.1 t.2.2).isSome
theorem asT_on (t : Tri) : on (asT t) := asPt_on _ _ _
def triW (t : Tri) : Value := .agg #[.int .u64 (t.1 : Int), .int .u64 (t.2.1 : Int), .bool t.2.2]
theorem triW_of {t : Tri} (h : onT t = true) : triW t = ptW (asT t) := by
  unfold onT at h
  obtain ⟨p, hp⟩ := Option.isSome_iff_exists.1 h
  unfold triW asT
  rw [asPt_some hp]
  exact toPt_W hp
noncomputable def batB (mode : Int) (a b : Tri) (cs ds : List Tri) : Bool := decide (0 ≤ mode ∧ mode ≤ 2) && onT a && onT b && decide (1 ≤ cs.length ∧ cs.length ≤ 200) && decide (cs.length = ds.length) && cs.all onT && ds.all onT
theorem batB_iff (mode : Int) (a b : Tri) (cs ds : List Tri) : batB mode a b cs ds = true ↔ (0 ≤ mode ∧ mode ≤ 2) ∧ onT a = true ∧ onT b = true ∧ (1 ≤ cs.length ∧ cs.length ≤ 200) ∧ cs.length = ds.length ∧ (∀ t ∈ cs, onT t = true) ∧ ∀ t ∈ ds, onT t = true := by
  unfold batB
  simp only [Bool.and_eq_true, decide_eq_true_eq, List.all_eq_true, and_assoc]
structure Pts (W : World) (g o : Nat) (L : List Tri) : Prop where
  lt : g < W.heap.size
  c0 : ∀ i (t : Tri), L[i]? = some t → W.cell? ⟨g, o + i * 3, none⟩ = some (.int .u64 (t.1 : Int))
  c1 : ∀ i (t : Tri), L[i]? = some t → W.cell? ⟨g, o + i * 3 + 1, none⟩ = some (.int .u64 (t.2.1 : Int))
  c2 : ∀ i (t : Tri), L[i]? = some t → W.cell? ⟨g, o + i * 3 + 2, none⟩ = some (.bool t.2.2)
theorem Pts.below {W W' : World} {g o : Nat} {L : List Tri} (h : Pts W g o L) {B : Nat} (hb : Below B W W') (hg : g < B) : Pts W' g o L :=
  have e : ∀ i, W'.cell? ⟨g, i, none⟩ = W.cell? ⟨g, i, none⟩ := fun i => World.cell?_of_block (w := W) (a := ⟨g, i, none⟩) (hb.block g hg)
  ⟨Nat.lt_of_lt_of_le h.lt hb.size, fun i t ht => (e _).trans (h.c0 i t ht), fun i t ht => (e _).trans (h.c1 i t ht), fun i t ht => (e _).trans (h.c2 i t ht)⟩
theorem Pts.keep {W W' : World} {g o : Nat} {L : List Tri} (h : Pts W g o L) (hb : Below W.heap.size W W') : Pts W' g o L := h.below hb h.lt
theorem Pts.drew {W : World} {g o : Nat} {L : List Tri} (h : Pts W g o L) : Pts W.drew g o L := ⟨h.lt, h.c0, h.c1, h.c2⟩
theorem Pts.alloc {W : World} {g o : Nat} {L : List Tri} (h : Pts W g o L) (ob : Obj) : Pts (W.alloc ob) g o L := h.keep ((Below.refl _ W).alloc (Nat.le_refl _) _)
end Go.Proofs.YtjmhmajfkdglnaaGreatDoor
