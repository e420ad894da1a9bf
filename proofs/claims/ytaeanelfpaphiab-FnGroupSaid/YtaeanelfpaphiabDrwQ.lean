import Derived.Test.YtaeanelfpaphiabDrwP
namespace Go.Proofs.Ytaeanelfpaphiab
open Go.RowKit M
set_option linter.unusedVariables false

theorem pt_nat : ∀ q : Pt, ∃ x y : Nat, px q = x ∧ py q = y ∧ x < 2305843009213693951 ∧ y < 2305843009213693951
  | none => ⟨0, 0, rfl, rfl, by decide, by decide⟩
  | some (x, y) => ⟨x.val, y.val, rfl, rfl, val_lt x, val_lt y⟩

set_option maxRecDepth 100000 in
set_option maxHeartbeats 2000000 in
/-- a point is drawn, or three fields near one -/
theorem dany_any (v : Value) (p : Nat) (w : World) (hv : Cod w v) (hp : p ≤ 20000) :
    Calls Try.prog 66 #[v, .int .i64 p] w fun e w' => (∃ (x y : Nat) (c : Bool), x < 18446744073709551616 ∧ y < 18446744073709551616 ∧ e = .returned (.tuple #[.agg #[.int .u64 x, .int .u64 y, .bool c], .int .i64 (p + 12 : Nat)])) ∧ Below w.heap.size w w' := by
  have hr := R3.new w 0 0 false
  have hb := (Below.refl _ w).alloc (Nat.le_refl _) (Obj.cells #[.int .u64 0, .int .u64 0, .bool false] 25)
  have hv0 := hv.below ((Below.refl w.heap.size w).alloc (Nat.le_refl _) (Obj.cells #[.int .u64 0, .int .u64 0, .bool false] 25))
  have T1 := take_any v p 20 _ hv0 (by omega) (by omega) (by omega)
  have T2 := dpt_any v (p + 1) _ hv0 (by omega)
  have e1 : ((p + 1 : Nat) : Int) = (p : Int) + 1 := by omega
  have e2 : ((p + 1 + 11 : Nat) : Int) = (p : Int) + 12 := by omega
  rw [e1, e2] at T2
  clear e1 e2 hv0
  go_enter Try.func66, Try.ntmps66
  go_wp2_with fail
  refine T1.mono ?_
  rintro e w1 ⟨⟨z, hz, rfl⟩, rfl⟩
  go_wp2_with fail
  refine T2.mono ?_
  rintro e w2 ⟨⟨q, hq, rfl⟩, b2⟩
  obtain ⟨x, y, ex, ey, hx, hy⟩ := pt_nat q
  rw [ex, ey]
  generalize pb q = c
  clear ex ey hq q
  have hlt := hr.lt
  replace hr := (hr.keep b2).alloc (Obj.cells #[.int .u64 x, .int .u64 y, .bool c] 25)
  have hp7 := R3.new w2 x y c
  replace hb := kpB hb hb.size b2
  replace hb := hb.alloc hb.size (Obj.cells #[.int .u64 x, .int .u64 y, .bool c] 25)
  clear b2 T1 T2
  have c0 := hr.c0
  have c1 := hr.c1
  have c2 := hr.c2
  have f0 := hr.frz 0
  have f1 := hr.frz 1
  have f2 := hr.frz 2
  rcases (show z = 18 ∨ z = 19 ∨ (z < 18) by omega) with rfl | rfl | h
  · have e1 : IntKind.u64.wrap ((y : Int) + 1) = (y : Int) + 1 := by rw [IntKind.wrap_u64]; omega
    go_wp2
    exact bodyPost_ret (v := .tuple #[.agg #[.int .u64 x, .int .u64 ((y : Int) + 1), .bool c], .int .i64 ((p : Int) + 12)]) (pt_ct (fn := Try.f66) (p := 4) (u := 5) Try.results66 _ rfl (hr.set _ _ _)) rfl ⟨⟨x, y + 1, c, by omega, by omega, rfl⟩, set3_below hb (Nat.le_refl _)⟩
  · have e1 : IntKind.u64.wrap ((x : Int) + 2305843009213693951) = (x : Int) + 2305843009213693951 := by rw [IntKind.wrap_u64]; omega
    go_wp2
    exact bodyPost_ret (v := .tuple #[.agg #[.int .u64 ((x : Int) + 2305843009213693951), .int .u64 y, .bool false], .int .i64 ((p : Int) + 12)]) (pt_ct (fn := Try.f66) (p := 4) (u := 5) Try.results66 _ rfl (hr.set _ _ _)) rfl ⟨⟨x + 2305843009213693951, y, false, by omega, by omega, rfl⟩, set3_below hb (Nat.le_refl _)⟩
  · have h0 : ((z : Int) == 18) = false := by simp; omega
    have h1 : ((z : Int) == 19) = false := by simp; omega
    go_wp2
    exact bodyPost_ret (v := .tuple #[.agg #[.int .u64 x, .int .u64 y, .bool c], .int .i64 ((p : Int) + 12)]) (pt_ct (fn := Try.f66) (p := 4) (u := 5) Try.results66 _ rfl (hr.set _ _ _)) rfl ⟨⟨x, y, c, by omega, by omega, rfl⟩, set3_below hb (Nat.le_refl _)⟩

set_option maxRecDepth 100000 in
set_option maxHeartbeats 2000000 in
theorem donc_any (v : Value) (w : World) (hv : Cod w v) :
    Calls Try.prog 61 #[v] w fun e w' => (∃ (x y : Nat) (c : Bool), x < 18446744073709551616 ∧ y < 18446744073709551616 ∧ e = .returned (.agg #[.int .u64 x, .int .u64 y, .bool c])) ∧ Below w.heap.size w w' := by
  have hr := R3.new w 0 0 false
  have hb := (Below.refl _ w).alloc (Nat.le_refl _) (Obj.cells #[.int .u64 0, .int .u64 0, .bool false] 25)
  have hv0 := hv.below ((Below.refl w.heap.size w).alloc (Nat.le_refl _) (Obj.cells #[.int .u64 0, .int .u64 0, .bool false] 25))
  have T1 := dany_any v 0 _ hv0 (by omega)
  have T2 := fun w hv => take_any v 12 20 w hv (by omega) (by omega) (by omega)
  go_enter Try.func61, Try.ntmps61
  go_wp2_with fail
  refine T1.mono ?_
  rintro e w1 ⟨⟨x, y, c, hx, hy, rfl⟩, b1⟩
  have hv1 := (hv0.below b1).below ((Below.refl w1.heap.size w1).alloc (Nat.le_refl _) (Obj.cells #[.int .u64 x, .int .u64 y, .bool c] 25))
  replace hr := (hr.keep b1).alloc (Obj.cells #[.int .u64 x, .int .u64 y, .bool c] 25)
  have hp3 := R3.new w1 x y c
  replace hb := kpB hb hb.size b1
  replace hb := hb.alloc hb.size (Obj.cells #[.int .u64 x, .int .u64 y, .bool c] 25)
  clear b1 T1 hv0
  go_wp2_with fail
  refine (T2 _ hv1).mono ?_
  rintro e w2 ⟨⟨z, hz, rfl⟩, rfl⟩
  clear T2 hv1
  have c0 := hr.c0
  have c1 := hr.c1
  have c2 := hr.c2
  have f0 := hr.frz 0
  have f1 := hr.frz 1
  have f2 := hr.frz 2
  rcases (show z = 0 ∨ 0 < z by omega) with rfl | h
  · go_wp2
    exact bodyPost_ret (v := .agg #[.int .u64 x, .int .u64 0, .bool true]) (point_res (fn := Try.f61) (p := 2) Try.results61 _ rfl (hr.set _ _ _)) rfl ⟨⟨x, 0, true, hx, by decide, rfl⟩, set3_below hb (Nat.le_refl _)⟩
  · have h0 : ((z : Int) == 0) = false := by simp; omega
    go_wp2
    exact bodyPost_ret (v := .agg #[.int .u64 x, .int .u64 y, .bool c]) (point_res (fn := Try.f61) (p := 2) Try.results61 _ rfl (hr.set _ _ _)) rfl ⟨⟨x, y, c, hx, hy, rfl⟩, set3_below hb (Nat.le_refl _)⟩
set_option maxRecDepth 100000 in
theorem dput_any (v : Value) (w : World) (hv : Cod w v) :
    Calls Try.prog 26 #[v] w fun e w' => (∃ (x y : Nat) (c : Bool), x < 18446744073709551616 ∧ y < 18446744073709551616 ∧ e = .returned (.agg #[.int .u64 x, .int .u64 y, .bool c])) ∧ Below w.heap.size w w' := by
  have hr := R3.new w 0 0 false
  have hb := (Below.refl _ w).alloc (Nat.le_refl _) (Obj.cells #[.int .u64 0, .int .u64 0, .bool false] 25)
  have hv0 := hv.below ((Below.refl w.heap.size w).alloc (Nat.le_refl _) (Obj.cells #[.int .u64 0, .int .u64 0, .bool false] 25))
  have T1 := donc_any v _ hv0
  clear hv0
  go_enter Try.func26, Try.ntmps26
  go_wp2_with fail
  refine T1.mono ?_
  rintro e w1 ⟨⟨x, y, c, hx, hy, rfl⟩, b1⟩
  replace hr := hr.keep b1
  replace hb := kpB hb hb.size b1
  clear T1 b1
  have c0 := hr.c0
  have c1 := hr.c1
  have c2 := hr.c2
  have f0 := hr.frz 0
  have f1 := hr.frz 1
  have f2 := hr.frz 2
  go_wp2
  exact bodyPost_ret (v := .agg #[.int .u64 x, .int .u64 y, .bool c]) (point_res (fn := Try.f26) (p := 2) Try.results26 _ rfl (hr.set _ _ _)) rfl ⟨⟨x, y, c, hx, hy, rfl⟩, set3_below hb (Nat.le_refl _)⟩
theorem xor_u64 (a b : Nat) (ha : a < 18446744073709551616) (hb : b < 18446744073709551616) : ∃ m : Nat, m < 18446744073709551616 ∧ bits .xor .u64 (a : Int) (b : Int) = (m : Int) := by
  have hx : a ^^^ b < 2 ^ 64 := Nat.xor_lt_two_pow (by omega) (by omega)
  have h1 : (BitVec.ofInt 64 (a : Int)).toNat = a := by
    rw [BitVec.ofInt_natCast, BitVec.toNat_ofNat]; exact Nat.mod_eq_of_lt (by omega)
  have h2 : (BitVec.ofInt 64 (b : Int)).toNat = b := by
    rw [BitVec.ofInt_natCast, BitVec.toNat_ofNat]; exact Nat.mod_eq_of_lt (by omega)
  refine ⟨a ^^^ b, by omega, ?_⟩
  show IntKind.u64.wrap ((BitVec.ofInt 64 (a : Int) ^^^ BitVec.ofInt 64 (b : Int)).toNat : Int) = _
  rw [BitVec.toNat_xor, h1, h2]
  generalize a ^^^ b = z at *
  rw [IntKind.wrap_u64]
  omega
set_option maxRecDepth 100000 in
set_option maxHeartbeats 2000000 in
/-- a text near a point's is drawn -/
theorem dget_any (v : Value) (w : World) (hv : Cod w v) :
    Calls Try.prog 30 #[v] w fun e w' => (∃ s : ByteArray, e = .returned (.string s)) ∧ Below w.heap.size w w' := by
  have T0 := take_any v 0 10 w hv (by omega) (by omega) (by omega)
  have T1 := dpt_any v 1 w hv (by omega)
  have T2 := fun w hv => take_any v 12 64 w hv (by omega) (by omega) (by omega)
  go_enter Try.func30, Try.ntmps30
  go_wp2_with fail
  refine T0.mono ?_
  rintro e w0 ⟨⟨z, hz, rfl⟩, rfl⟩
  go_wp2_with fail
  refine T1.mono ?_
  rintro e w1 ⟨⟨q, hq, rfl⟩, hb⟩
  obtain ⟨x, y, ex, ey, hx, hy⟩ := pt_nat q
  have P1 := putS_any x y (pb q)
  rw [ex, ey]
  generalize pb q = c at *
  clear ex ey hq T0 T1
  have hv1 := (hv.below hb).below ((Below.refl w1.heap.size w1).alloc (Nat.le_refl _) (Obj.cells #[.int .u64 x, .int .u64 y, .bool c] 25))
  replace hb := hb.alloc hb.size (Obj.cells #[.int .u64 x, .int .u64 y, .bool c] 25)
  go_wp2_with fail
  refine (T2 _ hv1).mono ?_
  rintro e w2 ⟨⟨k, hk, rfl⟩, rfl⟩
  clear T2 hv1
  have hl := putN_lt (asPt x y c)
  generalize putN (asPt x y c) = n at *
  have hs8 : (strOfNums (be8 (n : Int))).size = 8 := by rw [strOfNums_size]; rfl
  have W := fun w => wdS_any (strOfNums (be8 (n : Int))) w hs8
  have hn8 := numL_8 _ hs8
  generalize strOfNums (be8 (n : Int)) = s at *
  go_wp2_with fail
  refine (P1 _).mono ?_
  rintro e w3 ⟨rfl, b3⟩
  replace hb := kpB hb hb.size b3
  clear b3 P1
  rcases (show z = 7 ∨ z = 8 ∨ z = 9 ∨ z < 7 by omega) with rfl | rfl | rfl | h
  · obtain ⟨m, hm⟩ : ∃ m : Nat, m = (numL (byt s) + k) % 18446744073709551616 := ⟨_, rfl⟩
    have hm1 : m < 18446744073709551616 := by rw [hm]; exact Nat.mod_lt _ (by decide)
    have e0 : IntKind.u64.wrap (k : Int) = (k : Int) := by rw [IntKind.wrap_u64]; omega
    have e1 : IntKind.u64.wrap ((numL (byt s) : Int) + (k : Int)) = (m : Int) := by rw [IntKind.wrap_u64, hm]; omega
    have Pw := fun w => wordS_any m w hm1
    clear hm hm1 hn8 hl
    generalize numL (byt s) = j at *
    go_wp2_with fail
    refine (W _).mono ?_
    rintro e w4 ⟨rfl, rfl⟩
    go_wp2_with fail
    refine (Pw _).mono ?_
    rintro e w5 ⟨rfl, b5⟩
    replace hb := kpB hb hb.size b5
    go_wp2
    go_ret
    exact ⟨⟨_, rfl⟩, hb⟩
  · obtain ⟨m, hm, em⟩ : ∃ m : Nat, m < 18446744073709551616 ∧ bits .xor .u64 (numL (byt s) : Int) (IntKind.u64.wrap (2 ^ k)) = (m : Int) := by
      have h2 : (2 : Nat) ^ k < 18446744073709551616 := by
        have : (2 : Nat) ^ k < 2 ^ 64 := Nat.pow_lt_pow_right (by decide) hk
        omega
      have e2 : IntKind.u64.wrap (2 ^ k) = ((2 ^ k : Nat) : Int) := by
        rw [IntKind.wrap_u64]
        have : ((2 : Int) ^ k) = ((2 ^ k : Nat) : Int) := by simp
        rw [this]
        generalize (2 : Nat) ^ k = z at *
        omega
      rw [e2]
      exact xor_u64 _ _ hn8 h2
    have Pw := fun w => wordS_any m w hm
    clear hl hn8 hm
    generalize numL (byt s) = j at *
    go_wp2_with fail
    refine (W _).mono ?_
    rintro e w4 ⟨rfl, rfl⟩
    have e0 : IntKind.u64.wrap (k : Int) = (k : Int) := by rw [IntKind.wrap_u64]; omega
    go_wp2_with fail
    refine (Pw _).mono ?_
    rintro e w5 ⟨rfl, b5⟩
    replace hb := kpB hb hb.size b5
    go_wp2
    go_ret
    exact ⟨⟨_, rfl⟩, hb⟩
  · clear hl hn8 W
    have ek : (k : Int) % 8 = ((k % 8 : Nat) : Int) := by omega
    have hk8 : k % 8 < 8 := Nat.mod_lt _ (by decide)
    generalize k % 8 = m at *
    have hm0 : (m : Int) ≤ (s.size : Int) := by omega
    go_wp2
    go_ret
    exact ⟨⟨_, rfl⟩, hb⟩
  · have h7 : ((z : Int) == 7) = false := by simp; omega
    have h8 : ((z : Int) == 8) = false := by simp; omega
    have h9 : ((z : Int) == 9) = false := by simp; omega
    go_wp2
    go_ret
    exact ⟨⟨_, rfl⟩, hb⟩
end Go.Proofs.Ytaeanelfpaphiab
