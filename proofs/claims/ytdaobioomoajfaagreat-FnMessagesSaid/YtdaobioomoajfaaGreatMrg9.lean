import Derived.Test.YtdaobioomoajfaaGreatMrg7
import Derived.Test.YtdaobioomoajfaaGreatMrg4
import Derived.Test.YtdaobioomoajfaaGreatMrg8
import Derived.Test.YtdaobioomoajfaaGreatMrg0
set_option linter.unusedVariables false
set_option maxRecDepth 100000
set_option maxHeartbeats 16000000
namespace Go.Proofs.YtdaobioomoajfaaGreat
open Go.RowKit M
theorem baseS (w : World) : Calls Tryz.prog 49 #[] w fun e w' => e = .returned (ptW gG) ∧ Below w.heap.size w w' := by
  go_enter Tryz.func49, Tryz.ntmps49
  go_wp2
  refine bodyPost_ret (v := .agg #[.int .u64 1, .int .u64 509478702933351334, .bool false]) (by simp [results, Tryz.results49, go_sem]) rfl ⟨rfl, (Below.refl _ w).alloc (Nat.le_refl _) _⟩
end Go.Proofs.YtdaobioomoajfaaGreat
namespace Go.Proofs.YtdaobioomoajfaaGreat
open Go.RowKit M
theorem dscal_any (v : Value) (p : Nat) (w : World) (hv : Cod w v) (hp : p ≤ 40000) :
    Calls Tryz.prog 47 #[v, .int .i64 p] w fun e w' => (∃ k : Nat, k < 18446744073709551616 ∧ e = .returned (.tuple #[.int .u64 k, .int .i64 (p + 10 : Nat)])) ∧ Below w.heap.size w w' := by
  have T1 := dword_any v p w hv (by omega)
  go_enter Tryz.func47, Tryz.ntmps47
  go_wp2_with fail
  refine T1.mono ?_
  rintro e w1 ⟨⟨x, hx, rfl⟩, hb⟩
  clear T1
  obtain ⟨z, hz⟩ : ∃ z : Nat, z = x % 2305843010818082052 := ⟨_, rfl⟩
  have hz1 : z < 2305843010818082052 := by rw [hz]; exact Nat.mod_lt _ (by decide)
  have e1 : (x : Int) % 2305843010818082052 = (z : Int) := by rw [hz]; rfl
  have e2 : IntKind.u64.wrap ((z : Int) + 1) = (z : Int) + 1 := by rw [IntKind.wrap_u64]; omega
  clear hz hx
  go_wp2
  go_ret2
  exact ⟨⟨z + 1, by omega, rfl⟩, hb⟩
theorem base_pt : asPt 1 509478702933351334 false = gG := asPt_some (toPt_self gG_on)
theorem bsT (k : Nat) (w : World) (hk : k < 18446744073709551616) :
    Calls Tryz.prog 48 #[.int .u64 k, .agg #[.int .u64 1, .int .u64 509478702933351334, .bool false]] w fun e w' => e = .returned (.agg #[.int .u64 (px (nt k gG)), .int .u64 (py (nt k gG)), .bool (pb (nt k gG))]) ∧ Below w.heap.size w w' := by
  have := timS_any k 1 509478702933351334 false w hk
  rw [base_pt, ptW_eq] at this
  exact this
theorem baseS' (w : World) : Calls Tryz.prog 49 #[] w fun e w' => e = .returned (.agg #[.int .u64 1, .int .u64 509478702933351334, .bool false]) ∧ Below w.heap.size w w' := baseS w
theorem dpt_any (v : Value) (p : Nat) (w : World) (hv : Cod w v) (hp : p ≤ 30000) :
    Calls Tryz.prog 40 #[v, .int .i64 p] w fun e w' => (∃ q : Pt, on q ∧ e = .returned (.tuple #[.agg #[.int .u64 (px q), .int .u64 (py q), .bool (pb q)], .int .i64 (p + 11 : Nat)])) ∧ Below w.heap.size w w' := by
  have hr := R3.new w 0 0 false
  have hb := (Below.refl _ w).alloc (Nat.le_refl _) (Obj.cells #[.int .u64 0, .int .u64 0, .bool false] 25)
  have hv0 := hv.below ((Below.refl w.heap.size w).alloc (Nat.le_refl _) (Obj.cells #[.int .u64 0, .int .u64 0, .bool false] 25))
  have T1 := take_any v p 16 _ hv0 (by omega) (by omega) (by omega)
  have T2 := dscal_any v (p + 1) _ hv0 (by omega)
  have e1 : ((p + 1 : Nat) : Int) = (p : Int) + 1 := by omega
  have e2 : ((p + 1 + 10 : Nat) : Int) = (p : Int) + 11 := by omega
  rw [e1, e2] at T2
  clear e1 e2 hv0
  go_enter Tryz.func40, Tryz.ntmps40
  go_wp2_with fail
  refine T1.mono ?_
  rintro e w1 ⟨⟨z, hz, rfl⟩, rfl⟩
  go_wp2_with fail
  refine T2.mono ?_
  rintro e w2 ⟨⟨k, hk, rfl⟩, b2⟩
  replace hr := hr.keep b2
  replace hb := kpB hb hb.size b2
  clear b2 T1 T2
  rcases (show z = 0 ∨ (1 ≤ z ∧ z < 6) ∨ 6 ≤ z by omega) with rfl | h | h
  · go_wp2_with fail
    refine (zeroS _).mono ?_
    rintro e w3 ⟨rfl, rfl⟩
    replace hr := hr.alloc (Obj.cells #[.int .u64 0, .int .u64 0, .bool true] 25)
    replace hb := hb.alloc hb.size (Obj.cells #[.int .u64 0, .int .u64 0, .bool true] 25)
    have c0 := hr.c0
    have c1 := hr.c1
    have c2 := hr.c2
    have f0 := hr.frz 0
    have f1 := hr.frz 1
    have f2 := hr.frz 2
    go_wp2
    exact bodyPost_ret (v := .tuple #[.agg #[.int .u64 0, .int .u64 0, .bool true], .int .i64 ((p : Int) + 11)]) (pt_ct (fn := Tryz.f40) (p := 4) (u := 5) Tryz.results40 _ rfl (hr.set _ _ _)) rfl ⟨⟨none, trivial, rfl⟩, set3_below hb (Nat.le_refl _)⟩
  · have h0 : ((z : Int) == 0) = false := by simp; omega
    have h1 : (z : Int) < 6 := by omega
    obtain ⟨j, hj⟩ : ∃ j : Nat, j = k % 20 := ⟨_, rfl⟩
    have hj1 : j < 18446744073709551616 := by omega
    have e1 : (k : Int) % 20 = (j : Int) := by rw [hj]; rfl
    have T := fun w => bsT j w hj1
    have hon : on (nt j gG) := nt_on gG_on j
    clear hj hj1 hk
    generalize nt j gG = q at *
    go_wp2_with fail
    refine (baseS' _).mono ?_
    rintro e w3 ⟨rfl, b3⟩
    go_wp2_with fail
    refine (T _).mono ?_
    rintro e w4 ⟨rfl, b4⟩
    replace hr := (hr.keep b3).keep b4
    replace hb := kpB hb hb.size b3
    replace hb := kpB hb hb.size b4
    clear b3 b4 T
    have c0 := hr.c0
    have c1 := hr.c1
    have c2 := hr.c2
    have f0 := hr.frz 0
    have f1 := hr.frz 1
    have f2 := hr.frz 2
    go_wp2
    exact bodyPost_ret (v := .tuple #[.agg #[.int .u64 (px q), .int .u64 (py q), .bool (pb q)], .int .i64 ((p : Int) + 11)]) (pt_ct (fn := Tryz.f40) (p := 4) (u := 5) Tryz.results40 _ rfl (hr.set _ _ _)) rfl ⟨⟨q, hon, rfl⟩, set3_below hb (Nat.le_refl _)⟩
  · have h0 : ((z : Int) == 0) = false := by simp; omega
    have h1 : ¬ (z : Int) < 6 := by omega
    have T := fun w => bsT k w hk
    have hon : on (nt k gG) := nt_on gG_on k
    clear hk
    generalize nt k gG = q at *
    go_wp2_with fail
    refine (baseS' _).mono ?_
    rintro e w3 ⟨rfl, b3⟩
    go_wp2_with fail
    refine (T _).mono ?_
    rintro e w4 ⟨rfl, b4⟩
    replace hr := (hr.keep b3).keep b4
    replace hb := kpB hb hb.size b3
    replace hb := kpB hb hb.size b4
    clear b3 b4 T
    have c0 := hr.c0
    have c1 := hr.c1
    have c2 := hr.c2
    have f0 := hr.frz 0
    have f1 := hr.frz 1
    have f2 := hr.frz 2
    go_wp2
    exact bodyPost_ret (v := .tuple #[.agg #[.int .u64 (px q), .int .u64 (py q), .bool (pb q)], .int .i64 ((p : Int) + 11)]) (pt_ct (fn := Tryz.f40) (p := 4) (u := 5) Tryz.results40 _ rfl (hr.set _ _ _)) rfl ⟨⟨q, hon, rfl⟩, set3_below hb (Nat.le_refl _)⟩
end Go.Proofs.YtdaobioomoajfaaGreat
namespace Go.Proofs.YtdaobioomoajfaaGreat
open Go.RowKit M
theorem pt_natQ : ∀ q : Pt, ∃ x y : Nat, px q = x ∧ py q = y ∧ x < 2305843009213693951 ∧ y < 2305843009213693951
  | none => ⟨0, 0, rfl, rfl, by decide, by decide⟩
  | some (x, y) => ⟨x.val, y.val, rfl, rfl, val_lt x, val_lt y⟩
theorem dany_any (v : Value) (p : Nat) (w : World) (hv : Cod w v) (hp : p ≤ 20000) :
    Calls Tryz.prog 30 #[v, .int .i64 p] w fun e w' => (∃ (x y : Nat) (c : Bool), x < 18446744073709551616 ∧ y < 18446744073709551616 ∧ e = .returned (.tuple #[.agg #[.int .u64 x, .int .u64 y, .bool c], .int .i64 (p + 12 : Nat)])) ∧ Below w.heap.size w w' := by
  have hr := R3.new w 0 0 false
  have hb := (Below.refl _ w).alloc (Nat.le_refl _) (Obj.cells #[.int .u64 0, .int .u64 0, .bool false] 25)
  have hv0 := hv.below ((Below.refl w.heap.size w).alloc (Nat.le_refl _) (Obj.cells #[.int .u64 0, .int .u64 0, .bool false] 25))
  have T1 := take_any v p 20 _ hv0 (by omega) (by omega) (by omega)
  have T2 := dpt_any v (p + 1) _ hv0 (by omega)
  have e1 : ((p + 1 : Nat) : Int) = (p : Int) + 1 := by omega
  have e2 : ((p + 1 + 11 : Nat) : Int) = (p : Int) + 12 := by omega
  rw [e1, e2] at T2
  clear e1 e2 hv0
  go_enter Tryz.func30, Tryz.ntmps30
  go_wp2_with fail
  refine T1.mono ?_
  rintro e w1 ⟨⟨z, hz, rfl⟩, rfl⟩
  go_wp2_with fail
  refine T2.mono ?_
  rintro e w2 ⟨⟨q, hq, rfl⟩, b2⟩
  obtain ⟨x, y, ex, ey, hx, hy⟩ := pt_natQ q
  rw [ex, ey]
  generalize pb q = c
  clear ex ey hq q
  have hlt := hr.lt
  replace hr := (hr.keep b2).alloc (Obj.cells #[.int .u64 x, .int .u64 y, .bool c] 25)
  have hp7 := R3.new w2 x y c
  replace hb := kpB hb hb.size b2
  replace hb := hb.alloc hb.size (Obj.cells #[.int .u64 x, .int .u64 y, .bool c] 25)
  clear b2 T1 T2
  have c0 := hr.c0
  have c1 := hr.c1
  have c2 := hr.c2
  have f0 := hr.frz 0
  have f1 := hr.frz 1
  have f2 := hr.frz 2
  rcases (show z = 18 ∨ z = 19 ∨ (z < 18) by omega) with rfl | rfl | h
  · have e1 : IntKind.u64.wrap ((y : Int) + 1) = (y : Int) + 1 := by rw [IntKind.wrap_u64]; omega
    go_wp2
    exact bodyPost_ret (v := .tuple #[.agg #[.int .u64 x, .int .u64 ((y : Int) + 1), .bool c], .int .i64 ((p : Int) + 12)]) (pt_ct (fn := Tryz.f30) (p := 4) (u := 5) Tryz.results30 _ rfl (hr.set _ _ _)) rfl ⟨⟨x, y + 1, c, by omega, by omega, rfl⟩, set3_below hb (Nat.le_refl _)⟩
  · have e1 : IntKind.u64.wrap ((x : Int) + 2305843009213693951) = (x : Int) + 2305843009213693951 := by rw [IntKind.wrap_u64]; omega
    go_wp2
    exact bodyPost_ret (v := .tuple #[.agg #[.int .u64 ((x : Int) + 2305843009213693951), .int .u64 y, .bool false], .int .i64 ((p : Int) + 12)]) (pt_ct (fn := Tryz.f30) (p := 4) (u := 5) Tryz.results30 _ rfl (hr.set _ _ _)) rfl ⟨⟨x + 2305843009213693951, y, false, by omega, by omega, rfl⟩, set3_below hb (Nat.le_refl _)⟩
  · have h0 : ((z : Int) == 18) = false := by simp; omega
    have h1 : ((z : Int) == 19) = false := by simp; omega
    go_wp2
    exact bodyPost_ret (v := .tuple #[.agg #[.int .u64 x, .int .u64 y, .bool c], .int .i64 ((p : Int) + 12)]) (pt_ct (fn := Tryz.f30) (p := 4) (u := 5) Tryz.results30 _ rfl (hr.set _ _ _)) rfl ⟨⟨x, y, c, by omega, by omega, rfl⟩, set3_below hb (Nat.le_refl _)⟩
end Go.Proofs.YtdaobioomoajfaaGreat
namespace Go.Proofs.YtdaobioomoajfaaGreat
open Go.RowKit
def nameB (s : ByteArray) : Bool := decide (1 ≤ s.size ∧ s.size ≤ 32)
end Go.Proofs.YtdaobioomoajfaaGreat
