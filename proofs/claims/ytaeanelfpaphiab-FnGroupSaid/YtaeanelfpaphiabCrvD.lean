import Derived.Test.YtaeanelfpaphiabCrvC
import Derived.Test.YtaeanelfpaphiabOwn
namespace Go.Proofs.Ytaeanelfpaphiab
open Go.RowKit M
set_option linter.unusedVariables false

def px : Pt → Int
  | none => 0
  | some (x, _) => fv x
def py : Pt → Int
  | none => 0
  | some (_, y) => fv y
def pb : Pt → Bool
  | none => true
  | some _ => false
theorem ptW_eq : ∀ p, ptW p = .agg #[.int .u64 (px p), .int .u64 (py p), .bool (pb p)]
  | none => rfl
  | some (_, _) => rfl
theorem sumS_xyz (p q : Pt) (w : World) :
    Calls Try.prog 39 #[.agg #[.int .u64 (px p), .int .u64 (py p), .bool (pb p)], .agg #[.int .u64 (px q), .int .u64 (py q), .bool (pb q)]] w fun e w' => e = .returned (.agg #[.int .u64 (px (ad p q)), .int .u64 (py (ad p q)), .bool (pb (ad p q))]) ∧ Below w.heap.size w w' := by
  have := sumS_any p q w
  rwa [ptW_eq, ptW_eq, ptW_eq] at this

/-- a block that holds a point's three fields -/
def R3 (W : World) (b : Nat) (x y : Int) (c : Bool) : Prop := W.heap[b]? = some (.cells #[.int .u64 x, .int .u64 y, .bool c] 25)
variable {W W' : World} {b : Nat} {x y : Int} {c : Bool}
theorem R3.c0 (h : R3 W b x y c) : W.cell? ⟨b, 0, none⟩ = some (.int .u64 x) := by unfold R3 at h; simp [World.cell?, h]
theorem R3.c1 (h : R3 W b x y c) : W.cell? ⟨b, 1, none⟩ = some (.int .u64 y) := by unfold R3 at h; simp [World.cell?, h]
theorem R3.c2 (h : R3 W b x y c) : W.cell? ⟨b, 2, none⟩ = some (.bool c) := by unfold R3 at h; simp [World.cell?, h]
theorem R3.frz (h : R3 W b x y c) (i : Nat) : W.frozen? ⟨b, i, none⟩ = false := by unfold R3 at h; simp [World.frozen?, h]
theorem R3.lt (h : R3 W b x y c) : b < W.heap.size := (Array.getElem?_eq_some_iff.1 h).1
theorem R3.below {N : Nat} (h : R3 W b x y c) (hb : Below N W W') (hl : b < N) : R3 W' b x y c := (hb.block b hl).trans h
theorem R3.new (w : World) (x y : Int) (c : Bool) : R3 (w.alloc (.cells #[.int .u64 x, .int .u64 y, .bool c] 25)) w.heap.size x y c := heap_alloc_new w _
theorem R3.alloc (h : R3 W b x y c) (o : Obj) : R3 (W.alloc o) b x y c := (Below.heap_alloc W o b h.lt).trans h
theorem R3.at {b' : Nat} (h : R3 W b x y c) (e : b = b') : R3 W b' x y c := e ▸ h
theorem R3.range (h : R3 W b x y c) : W.rangeAt b 0 [.int .u64 x, .int .u64 y, .bool c] := fun j v hj => by
  match j, hj with
  | 0, hj => cases hj; exact h.c0
  | 1, hj => cases hj; exact h.c1
  | 2, hj => cases hj; exact h.c2
def set3 (W : World) (b : Nat) (x y : Int) (c : Bool) : World := ((W.setCell ⟨b, 0, none⟩ (.int .u64 x)).setCell ⟨b, 1, none⟩ (.int .u64 y)).setCell ⟨b, 2, none⟩ (.bool c)
theorem R3.set (h : R3 W b x y c) (x' y' : Int) (c' : Bool) : R3 (set3 W b x' y' c') b x' y' c' := by
  unfold R3 set3 at *
  simp [World.setCell, Array.getElem?_modify, h]
theorem setCell_heap3 (W : World) (b i : Nat) (v : Value) (k : Nat) (h : k ≠ b) : (W.setCell ⟨b, i, none⟩ v).heap[k]? = W.heap[k]? := by
  simp [World.setCell, Array.getElem?_modify, Ne.symm h]
theorem R3.other {b' : Nat} (h : R3 W b x y c) (hne : b ≠ b') (x' y' : Int) (c' : Bool) : R3 (set3 W b' x' y' c') b x y c := by
  unfold R3 set3 at *
  rw [setCell_heap3 _ _ _ _ _ hne, setCell_heap3 _ _ _ _ _ hne, setCell_heap3 _ _ _ _ _ hne]; exact h
theorem set3_below {N : Nat} {w : World} (h : Below N w W) (hb : N ≤ b) : Below N w (set3 W b x y c) :=
  ((h.setCell (p := ⟨b, 0, none⟩) hb _).setCell (p := ⟨b, 1, none⟩) hb _).setCell (p := ⟨b, 2, none⟩) hb _
theorem point_res {fn : Func} {p : Tmp} (h : fn.results = #[.cell p 25]) (tmps : Array Value) (hp : tmps.getD p undef = .pointer (some ⟨b, 0, none⟩)) (hc : R3 W b x y c) :
    (results fn tmps).run Try.prog W = .ok (.agg #[.int .u64 x, .int .u64 y, .bool c]) W :=
  results_mid h tmps W b 0 [.int .u64 x, .int .u64 y, .bool c] _ hp hc.range Try.underlying25 rfl (by kernel_rfl)

set_option maxRecDepth 100000 in
set_option maxHeartbeats 2000000 in
theorem timS_no (k : Nat) (x y : Int) (c : Bool) (w : World)
    (O : ∀ w, Calls Try.prog 29 #[.agg #[.int .u64 x, .int .u64 y, .bool c]] w fun e w' => e = .returned (.bool false) ∧ Below w.heap.size w w') :
    Calls Try.prog 8 #[.int .u64 k, .agg #[.int .u64 x, .int .u64 y, .bool c]] w fun e w' => e = .returned (.agg #[.int .u64 0, .int .u64 0, .bool true]) ∧ Below w.heap.size w w' := by
  go_enter Try.func8, Try.ntmps8
  go_wp2_with fail
  refine (zeroS _).mono ?_
  rintro e w' ⟨rfl, rfl⟩
  go_wp2_with fail
  have b0 : Below w.heap.size w ((((w.alloc (Obj.cells #[Value.int IntKind.u64 x, Value.int IntKind.u64 y, Value.bool c] 25)).alloc (Obj.cells #[Value.int IntKind.u64 0, Value.int IntKind.u64 0, Value.bool false] 25)).alloc (Obj.cells #[Value.int IntKind.u64 0, Value.int IntKind.u64 0, Value.bool true] 25)).alloc (Obj.cells #[Value.int IntKind.u64 0, Value.int IntKind.u64 0, Value.bool true] 25)) :=
    ((((Below.refl _ w).alloc (Nat.le_refl _) _).alloc (by simp) _).alloc (by simp; omega) _).alloc (by simp; omega) _
  have r0 : R3 ((((w.alloc (Obj.cells #[Value.int IntKind.u64 x, Value.int IntKind.u64 y, Value.bool c] 25)).alloc (Obj.cells #[Value.int IntKind.u64 0, Value.int IntKind.u64 0, Value.bool false] 25)).alloc (Obj.cells #[Value.int IntKind.u64 0, Value.int IntKind.u64 0, Value.bool true] 25)).alloc (Obj.cells #[Value.int IntKind.u64 0, Value.int IntKind.u64 0, Value.bool true] 25)) w.heap.size x y c :=
    (((R3.new w x y c).alloc _).alloc _).alloc _
  have r1 : R3 ((((w.alloc (Obj.cells #[Value.int IntKind.u64 x, Value.int IntKind.u64 y, Value.bool c] 25)).alloc (Obj.cells #[Value.int IntKind.u64 0, Value.int IntKind.u64 0, Value.bool false] 25)).alloc (Obj.cells #[Value.int IntKind.u64 0, Value.int IntKind.u64 0, Value.bool true] 25)).alloc (Obj.cells #[Value.int IntKind.u64 0, Value.int IntKind.u64 0, Value.bool true] 25)) (w.heap.size + 1) 0 0 false :=
    (((R3.new _ 0 0 false).alloc _).alloc _).at (by simp)
  have r3 : R3 ((((w.alloc (Obj.cells #[Value.int IntKind.u64 x, Value.int IntKind.u64 y, Value.bool c] 25)).alloc (Obj.cells #[Value.int IntKind.u64 0, Value.int IntKind.u64 0, Value.bool false] 25)).alloc (Obj.cells #[Value.int IntKind.u64 0, Value.int IntKind.u64 0, Value.bool true] 25)).alloc (Obj.cells #[Value.int IntKind.u64 0, Value.int IntKind.u64 0, Value.bool true] 25)) (w.heap.size + 1 + 1 + 1) 0 0 true :=
    (R3.new _ 0 0 true).at (by simp)
  refine (O _).mono ?_
  rintro e w1 ⟨rfl, b1⟩
  replace r0 := r0.below b1 r0.lt
  replace r1 := r1.below b1 r1.lt
  replace r3 := r3.below b1 r3.lt
  have b2 := b0.trans (b1.mono b0.size)
  clear b0 b1
  have c0 := r3.c0
  have c1 := r3.c1
  have c2 := r3.c2
  have d0 := r1.c0
  have d1 := r1.c1
  have d2 := r1.c2
  have f0 := r1.frz 0
  have f1 := r1.frz 1
  have f2 := r1.frz 2
  go_wp2
  have rF := r1.set 0 0 true
  refine bodyPost_ret (v := .agg #[.int .u64 0, .int .u64 0, .bool true]) (point_res (fn := Try.f8) (p := 4) Try.results8 _ rfl rF) rfl ⟨rfl, ?_⟩
  exact set3_below b2 (by omega)

theorem nt_bit0 (p : Pt) (hp : on p) (k j : Nat) (h : k / 2 ^ j % 2 = 0) : ad (nt (k / 2 ^ (j + 1)) p) (nt (k / 2 ^ (j + 1)) p) = nt (k / 2 ^ j) p := by
  have e := shr_succ k j
  rw [h] at e
  rw [← nt_add hp, ← Nat.two_mul, e]; rfl
theorem nt_bit1 (p : Pt) (hp : on p) (k j : Nat) (h : k / 2 ^ j % 2 = 1) : ad (ad (nt (k / 2 ^ (j + 1)) p) (nt (k / 2 ^ (j + 1)) p)) p = nt (k / 2 ^ j) p := by
  have e := shr_succ k j
  rw [h] at e
  rw [← nt_add hp, ← Nat.two_mul, e]; rfl

set_option maxRecDepth 100000 in
set_option maxHeartbeats 2000000 in
theorem timS_yes (k : Nat) (p : Pt) (w : World) (hk : k < 18446744073709551616) (hp : on p)
    (O : ∀ w, Calls Try.prog 29 #[.agg #[.int .u64 (px p), .int .u64 (py p), .bool (pb p)]] w fun e w' => e = .returned (.bool true) ∧ Below w.heap.size w w') :
    Calls Try.prog 8 #[.int .u64 k, .agg #[.int .u64 (px p), .int .u64 (py p), .bool (pb p)]] w fun e w' => e = .returned (.agg #[.int .u64 (px (nt k p)), .int .u64 (py (nt k p)), .bool (pb (nt k p))]) ∧ Below w.heap.size w w' := by
  have hN : Hid (∀ j, (k / 2 ^ j % 2 = 0 → ad (nt (k / 2 ^ (j + 1)) p) (nt (k / 2 ^ (j + 1)) p) = nt (k / 2 ^ j) p) ∧ (k / 2 ^ j % 2 = 1 → ad (ad (nt (k / 2 ^ (j + 1)) p) (nt (k / 2 ^ (j + 1)) p)) p = nt (k / 2 ^ j) p)) := fun j => ⟨nt_bit0 p hp k j, nt_bit1 p hp k j⟩
  have h64 : k / 2 ^ 64 = 0 := Nat.div_eq_of_lt (by omega)
  clear hk hp
  go_enter Try.func8, Try.ntmps8
  go_wp2_with fail
  refine (zeroS _).mono ?_
  rintro e w' ⟨rfl, rfl⟩
  go_wp2_with fail
  have b0 : Below w.heap.size w ((((w.alloc (Obj.cells #[Value.int IntKind.u64 (px p), Value.int IntKind.u64 (py p), Value.bool (pb p)] 25)).alloc (Obj.cells #[Value.int IntKind.u64 0, Value.int IntKind.u64 0, Value.bool false] 25)).alloc (Obj.cells #[Value.int IntKind.u64 0, Value.int IntKind.u64 0, Value.bool true] 25)).alloc (Obj.cells #[Value.int IntKind.u64 0, Value.int IntKind.u64 0, Value.bool true] 25)) :=
    ((((Below.refl _ w).alloc (Nat.le_refl _) _).alloc (by simp) _).alloc (by simp; omega) _).alloc (by simp; omega) _
  have r0 : R3 ((((w.alloc (Obj.cells #[Value.int IntKind.u64 (px p), Value.int IntKind.u64 (py p), Value.bool (pb p)] 25)).alloc (Obj.cells #[Value.int IntKind.u64 0, Value.int IntKind.u64 0, Value.bool false] 25)).alloc (Obj.cells #[Value.int IntKind.u64 0, Value.int IntKind.u64 0, Value.bool true] 25)).alloc (Obj.cells #[Value.int IntKind.u64 0, Value.int IntKind.u64 0, Value.bool true] 25)) w.heap.size (px p) (py p) (pb p) :=
    (((R3.new w (px p) (py p) (pb p)).alloc _).alloc _).alloc _
  have r1 : R3 ((((w.alloc (Obj.cells #[Value.int IntKind.u64 (px p), Value.int IntKind.u64 (py p), Value.bool (pb p)] 25)).alloc (Obj.cells #[Value.int IntKind.u64 0, Value.int IntKind.u64 0, Value.bool false] 25)).alloc (Obj.cells #[Value.int IntKind.u64 0, Value.int IntKind.u64 0, Value.bool true] 25)).alloc (Obj.cells #[Value.int IntKind.u64 0, Value.int IntKind.u64 0, Value.bool true] 25)) (w.heap.size + 1) 0 0 false :=
    (((R3.new _ 0 0 false).alloc _).alloc _).at (by simp)
  have r3 : R3 ((((w.alloc (Obj.cells #[Value.int IntKind.u64 (px p), Value.int IntKind.u64 (py p), Value.bool (pb p)] 25)).alloc (Obj.cells #[Value.int IntKind.u64 0, Value.int IntKind.u64 0, Value.bool false] 25)).alloc (Obj.cells #[Value.int IntKind.u64 0, Value.int IntKind.u64 0, Value.bool true] 25)).alloc (Obj.cells #[Value.int IntKind.u64 0, Value.int IntKind.u64 0, Value.bool true] 25)) (w.heap.size + 1 + 1 + 1) 0 0 true :=
    (R3.new _ 0 0 true).at (by simp)
  refine (O _).mono ?_
  rintro e w1 ⟨rfl, b1⟩
  replace r0 := r0.below b1 r0.lt
  replace r1 := r1.below b1 r1.lt
  replace r3 := r3.below b1 r3.lt
  have b2 := b0.trans (b1.mono b0.size)
  clear b0 b1
  clear O
  go_wp2
  go_loopw [6] (fun i wr => ∃ (j : Nat) (x : Int) (q : Pt), x = (j : Int) - 1 ∧ j ≤ 64 ∧ i = .int .i64 x ∧ Hid (q = nt (k / 2 ^ j) p) ∧ R3 wr (w.heap.size + 1 + 1 + 1) (px q) (py q) (pb q) ∧ R3 wr w.heap.size (px p) (py p) (pb p) ∧ R3 wr (w.heap.size + 1) 0 0 false ∧ Below w.heap.size w wr) (fun i _ => (intOf i + 1).toNat)
  case atStart => exact ⟨64, 63, none, rfl, by omega, rfl, by rw [h64]; rfl, r3, r0, r1, b2⟩
  case round =>
    clear r0 r1 r3 b2 h64
    obtain ⟨j, x, q, hx, hj, rfl, hq, r3, r0, r1, b2⟩ := hrel
    rcases j with _ | j
    · have hneg : ¬ ((0 : Int) ≤ x) := by omega
      clear hx
      have hq' : q = nt k p := by rw [hq.out, Nat.pow_zero, Nat.div_one]
      subst hq'
      have c0 := r3.c0
      have c1 := r3.c1
      have c2 := r3.c2
      have d0 := r1.c0
      have d1 := r1.c1
      have d2 := r1.c2
      have f0 := r1.frz 0
      have f1 := r1.frz 1
      have f2 := r1.frz 2
      go_wp2
      have rF := r1.set (px (nt k p)) (py (nt k p)) (pb (nt k p))
      refine bodyPost_ret (v := .agg #[.int .u64 (px (nt k p)), .int .u64 (py (nt k p)), .bool (pb (nt k p))]) (point_res (fn := Try.f8) (p := 4) Try.results8 _ rfl rF) rfl ⟨rfl, ?_⟩
      exact set3_below b2 (by omega)
    · obtain rfl : x = (j : Int) := by omega
      clear hx
      have hN0 := (hN.out j).1
      have hN1 := (hN.out j).2
      rw [← hq.out] at hN0 hN1
      have S1 := sumS_xyz q q
      have S2 := sumS_xyz (ad q q) p
      obtain ⟨q2, hq2⟩ : ∃ q2, q2 = ad q q := ⟨_, rfl⟩
      rw [← hq2] at hN0 hN1 S1 S2
      obtain ⟨q3, hq3⟩ : ∃ q3, q3 = ad q2 p := ⟨_, rfl⟩
      rw [← hq3] at hN1 S2
      clear hq2 hq3 hq
      have c0 := r3.c0
      have c1 := r3.c1
      have c2 := r3.c2
      by_cases hbit : k / 2 ^ j % 2 = 1
      · have ht := bit1 _ k j rfl hbit
        have hR : Hid (q3 = nt (k / 2 ^ j) p) := hN1 hbit
        clear hN0 hN1 hbit
        go_wp2_with fail
        refine (S1 _).mono ?_
        rintro e w2 ⟨rfl, B⟩
        replace r3 := r3.below B r3.lt
        replace r0 := r0.below B r0.lt
        replace r1 := r1.below B r1.lt
        replace b2 := b2.trans (B.mono b2.size)
        clear c0 c1 c2 B
        have c0 := r3.c0
        have c1 := r3.c1
        have c2 := r3.c2
        have f0 := r3.frz 0
        have f1 := r3.frz 1
        have f2 := r3.frz 2
        have t3 := r3.set (px q2) (py q2) (pb q2)
        have t0 := r0.other (b' := w.heap.size + 1 + 1 + 1) (by omega) (px q2) (py q2) (pb q2)
        have t1 := r1.other (b' := w.heap.size + 1 + 1 + 1) (by omega) (px q2) (py q2) (pb q2)
        have tb := set3_below (b := w.heap.size + 1 + 1 + 1) (x := px q2) (y := py q2) (c := pb q2) b2 (by omega)
        unfold set3 at t3 t0 t1 tb
        have e0 := t3.c0
        have e1 := t3.c1
        have e2 := t3.c2
        have g0 := t0.c0
        have g1 := t0.c1
        have g2 := t0.c2
        go_wp2_with fail
        refine (S2 _).mono ?_
        rintro e w3 ⟨rfl, B⟩
        replace t3 := t3.below B t3.lt
        replace t0 := t0.below B t0.lt
        replace t1 := t1.below B t1.lt
        replace tb := tb.trans (B.mono tb.size)
        clear c0 c1 c2 f0 f1 f2 e0 e1 e2 g0 g1 g2 r0 r1 r3 b2 B
        have c0 := t3.c0
        have c1 := t3.c1
        have c2 := t3.c2
        have f0 := t3.frz 0
        have f1 := t3.frz 1
        have f2 := t3.frz 2
        go_wp2
        go_roundw
        case rel => exact ⟨j, (j : Int) - 1, q3, rfl, by omega, rfl, hR, t3.set (px q3) (py q3) (pb q3), t0.other (by omega) _ _ _, t1.other (by omega) _ _ _, set3_below tb (by omega)⟩
        case measure => simp [intOf]
      · have hb0 : k / 2 ^ j % 2 = 0 := by omega
        have ht := bit0 _ k j rfl hb0
        have hR : Hid (q2 = nt (k / 2 ^ j) p) := hN0 hb0
        clear hN0 hN1 hbit hb0
        go_wp2_with fail
        refine (S1 _).mono ?_
        rintro e w2 ⟨rfl, B⟩
        replace r3 := r3.below B r3.lt
        replace r0 := r0.below B r0.lt
        replace r1 := r1.below B r1.lt
        replace b2 := b2.trans (B.mono b2.size)
        clear c0 c1 c2 B
        have c0 := r3.c0
        have c1 := r3.c1
        have c2 := r3.c2
        have f0 := r3.frz 0
        have f1 := r3.frz 1
        have f2 := r3.frz 2
        go_wp2
        go_roundw
        case rel => exact ⟨j, (j : Int) - 1, q2, rfl, by omega, rfl, hR, r3.set (px q2) (py q2) (pb q2), r0.other (by omega) _ _ _, r1.other (by omega) _ _ _, set3_below b2 (by omega)⟩
        case measure => simp [intOf]
end Go.Proofs.Ytaeanelfpaphiab
