import Derived.Test.YtaeanelfpaphiabGetS
import Derived.Test.YtaeanelfpaphiabPutP
import Derived.Test.YtaeanelfpaphiabSqrE
namespace Go.Proofs.Ytaeanelfpaphiab
open Go.RowKit M
set_option linter.unusedVariables false

section
variable (n x : Int)
set_option maxRecDepth 100000 in
set_option maxHeartbeats 2000000 in
theorem powI_big (z : Int) (w : World) (hn0 : 0 ≤ n) (hx : n.tmod 2305843009213693952 = x)
    (E : ∀ w, Calls Try.prog 59 #[.int .u64 x, .agg #[]] w fun e w' => e = .returned (.tuple #[.agg #[.int .u64 z], .bool false]) ∧ Below w.heap.size w w') :
    Calls Try.prog 46 #[.int .u64 n] w fun e w' => e = .returned (.tuple #[.agg #[.int .u64 0, .int .u64 0, .bool true], .bool false]) ∧ Below w.heap.size w w' := by
  have hr := K3.new w 60 0 0 false
  have hb := (Below.refl _ w).alloc (Nat.le_refl _) (Obj.cells #[.int .u64 0, .int .u64 0, .bool false] 60)
  go_enter Try.func46, Try.ntmps46
  go_wp2_with fail
  refine (E _).mono ?_
  rintro e w1 ⟨rfl, b1⟩
  replace hr := (hr.keep b1).alloc (Obj.cells #[.int .u64 z] 86)
  replace hb := keepB hb hb.size b1
  replace hb := hb.alloc hb.size (Obj.cells #[.int .u64 z] 86)
  clear b1 E
  go_wp2_with fail
  refine (zpP _).mono ?_
  rintro e w2 ⟨rfl, b2⟩
  replace hr := hr.keep b2
  replace hb := keepB hb hb.size b2
  have d0 := hr.c0
  have d1 := hr.c1
  have d2 := hr.c2
  have f0 := hr.frz 0
  have f1 := hr.frz 1
  have f2 := hr.frz 2
  go_wp2
  exact bodyPost_ret (v := .tuple #[.agg #[.int .u64 0, .int .u64 0, .bool true], .bool false]) (cp_ct (fn := Try.f46) (p := 2) (u := 3) Try.results46 _ rfl (hr.set _ _ _)) rfl ⟨rfl, set3_below hb (Nat.le_refl _)⟩
set_option maxRecDepth 100000 in
set_option maxHeartbeats 2000000 in
theorem powI_mark (z q : Int) (w : World) (hn0 : 0 ≤ n) (hx : n.tmod 2305843009213693952 = x) (hq : n.tdiv 4611686018427387904 = q) (hqw : IntKind.u64.wrap q = q) (hq1 : (q == 1) = false)
    (E : ∀ w, Calls Try.prog 59 #[.int .u64 x, .agg #[]] w fun e w' => e = .returned (.tuple #[.agg #[.int .u64 z], .bool true]) ∧ Below w.heap.size w w') :
    Calls Try.prog 46 #[.int .u64 n] w fun e w' => e = .returned (.tuple #[.agg #[.int .u64 0, .int .u64 0, .bool true], .bool false]) ∧ Below w.heap.size w w' := by
  have hr := K3.new w 60 0 0 false
  have hb := (Below.refl _ w).alloc (Nat.le_refl _) (Obj.cells #[.int .u64 0, .int .u64 0, .bool false] 60)
  go_enter Try.func46, Try.ntmps46
  go_wp2_with fail
  refine (E _).mono ?_
  rintro e w1 ⟨rfl, b1⟩
  replace hr := (hr.keep b1).alloc (Obj.cells #[.int .u64 z] 86)
  replace hb := keepB hb hb.size b1
  replace hb := hb.alloc hb.size (Obj.cells #[.int .u64 z] 86)
  clear b1 E
  go_wp2_with fail
  refine (zpP _).mono ?_
  rintro e w2 ⟨rfl, b2⟩
  replace hr := hr.keep b2
  replace hb := keepB hb hb.size b2
  have d0 := hr.c0
  have d1 := hr.c1
  have d2 := hr.c2
  have f0 := hr.frz 0
  have f1 := hr.frz 1
  have f2 := hr.frz 2
  go_wp2
  exact bodyPost_ret (v := .tuple #[.agg #[.int .u64 0, .int .u64 0, .bool true], .bool false]) (cp_ct (fn := Try.f46) (p := 2) (u := 3) Try.results46 _ rfl (hr.set _ _ _)) rfl ⟨rfl, set3_below hb (Nat.le_refl _)⟩
set_option maxRecDepth 100000 in
set_option maxHeartbeats 2000000 in
theorem powI_no (z r : Int) (w : World) (hn0 : 0 ≤ n) (hx : n.tmod 2305843009213693952 = x) (hq : n.tdiv 4611686018427387904 = 1)
    (E : ∀ w, Calls Try.prog 59 #[.int .u64 x, .agg #[]] w fun e w' => e = .returned (.tuple #[.agg #[.int .u64 x], .bool true]) ∧ Below w.heap.size w w')
    (Cs : ∀ w, Calls Try.prog 73 #[.agg #[.int .u64 x]] w fun e w' => e = .returned (.agg #[.int .u64 z]) ∧ Below w.heap.size w w')
    (Ev : ∀ w, Calls Try.prog 60 #[.agg #[.int .u64 z]] w fun e w' => e = .returned (.tuple #[.agg #[.int .u64 r], .bool false]) ∧ Below w.heap.size w w') :
    Calls Try.prog 46 #[.int .u64 n] w fun e w' => e = .returned (.tuple #[.agg #[.int .u64 0, .int .u64 0, .bool true], .bool false]) ∧ Below w.heap.size w w' := by
  have hr := K3.new w 60 0 0 false
  have hb := (Below.refl _ w).alloc (Nat.le_refl _) (Obj.cells #[.int .u64 0, .int .u64 0, .bool false] 60)
  go_enter Try.func46, Try.ntmps46
  go_wp2_with fail
  refine (E _).mono ?_
  rintro e w1 ⟨rfl, b1⟩
  replace hr := (hr.keep b1).alloc (Obj.cells #[.int .u64 x] 86)
  replace hb := keepB hb hb.size b1
  replace hb := hb.alloc hb.size (Obj.cells #[.int .u64 x] 86)
  clear b1 E
  go_wp2_with fail
  refine (Cs _).mono ?_
  rintro e w2 ⟨rfl, b1⟩
  replace hr := hr.keep b1
  replace hb := keepB hb hb.size b1
  clear b1 Cs
  go_wp2_with fail
  refine (Ev _).mono ?_
  rintro e w3 ⟨rfl, b1⟩
  replace hr := (hr.keep b1).alloc (Obj.cells #[.int .u64 r] 86)
  replace hb := keepB hb hb.size b1
  replace hb := hb.alloc hb.size (Obj.cells #[.int .u64 r] 86)
  clear b1 Ev
  go_wp2_with fail
  refine (zpP _).mono ?_
  rintro e w4 ⟨rfl, b2⟩
  replace hr := hr.keep b2
  replace hb := keepB hb hb.size b2
  have d0 := hr.c0
  have d1 := hr.c1
  have d2 := hr.c2
  have f0 := hr.frz 0
  have f1 := hr.frz 1
  have f2 := hr.frz 2
  go_wp2
  exact bodyPost_ret (v := .tuple #[.agg #[.int .u64 0, .int .u64 0, .bool true], .bool false]) (cp_ct (fn := Try.f46) (p := 2) (u := 3) Try.results46 _ rfl (hr.set _ _ _)) rfl ⟨rfl, set3_below hb (Nat.le_refl _)⟩
set_option maxRecDepth 100000 in
set_option maxHeartbeats 2000000 in
theorem powI_even (z r m : Int) (w : World) (hn0 : 0 ≤ n) (hx : n.tmod 2305843009213693952 = x) (hq : n.tdiv 4611686018427387904 = 1) (hm : bits .and .u64 n 2305843009213693952 = m) (hm0 : (m == 0) = true)
    (E : ∀ w, Calls Try.prog 59 #[.int .u64 x, .agg #[]] w fun e w' => e = .returned (.tuple #[.agg #[.int .u64 x], .bool true]) ∧ Below w.heap.size w w')
    (Cs : ∀ w, Calls Try.prog 73 #[.agg #[.int .u64 x]] w fun e w' => e = .returned (.agg #[.int .u64 z]) ∧ Below w.heap.size w w')
    (Ev : ∀ w, Calls Try.prog 60 #[.agg #[.int .u64 z]] w fun e w' => e = .returned (.tuple #[.agg #[.int .u64 r], .bool true]) ∧ Below w.heap.size w w') :
    Calls Try.prog 46 #[.int .u64 n] w fun e w' => e = .returned (.tuple #[.agg #[.int .u64 x, .int .u64 r, .bool false], .bool true]) ∧ Below w.heap.size w w' := by
  have hr := K3.new w 60 0 0 false
  have hb := (Below.refl _ w).alloc (Nat.le_refl _) (Obj.cells #[.int .u64 0, .int .u64 0, .bool false] 60)
  go_enter Try.func46, Try.ntmps46
  go_wp2_with fail
  refine (E _).mono ?_
  rintro e w1 ⟨rfl, b1⟩
  replace hr := (hr.keep b1).alloc (Obj.cells #[.int .u64 x] 86)
  replace hb := keepB hb hb.size b1
  replace hb := hb.alloc hb.size (Obj.cells #[.int .u64 x] 86)
  have n4 := R1.new w1 x
  clear b1 E
  go_wp2_with fail
  refine (Cs _).mono ?_
  rintro e w2 ⟨rfl, b1⟩
  replace hr := hr.keep b1
  replace n4 := n4.keep b1
  replace hb := keepB hb hb.size b1
  clear b1 Cs
  go_wp2_with fail
  refine (Ev _).mono ?_
  rintro e w3 ⟨rfl, b1⟩
  replace hr := (hr.keep b1).alloc (Obj.cells #[.int .u64 r] 86)
  replace n4 := (n4.keep b1).alloc (Obj.cells #[.int .u64 r] 86)
  replace hb := keepB hb hb.size b1
  replace hb := hb.alloc hb.size (Obj.cells #[.int .u64 r] 86)
  clear b1 Ev
  have d0 := hr.c0
  have d1 := hr.c1
  have d2 := hr.c2
  have f0 := hr.frz 0
  have f1 := hr.frz 1
  have f2 := hr.frz 2
  have c4 := n4.cell
  go_wp2
  exact bodyPost_ret (v := .tuple #[.agg #[.int .u64 x, .int .u64 r, .bool false], .bool true]) (cp_ct (fn := Try.f46) (p := 2) (u := 3) Try.results46 _ rfl (hr.set _ _ _)) rfl ⟨rfl, set3_below hb (Nat.le_refl _)⟩
set_option maxRecDepth 100000 in
set_option maxHeartbeats 2000000 in
theorem powI_odd (z r r2 m : Int) (w : World) (hn0 : 0 ≤ n) (hx : n.tmod 2305843009213693952 = x) (hq : n.tdiv 4611686018427387904 = 1) (hm : bits .and .u64 n 2305843009213693952 = m) (hm0 : (m == 0) = false)
    (E : ∀ w, Calls Try.prog 59 #[.int .u64 x, .agg #[]] w fun e w' => e = .returned (.tuple #[.agg #[.int .u64 x], .bool true]) ∧ Below w.heap.size w w')
    (Cs : ∀ w, Calls Try.prog 73 #[.agg #[.int .u64 x]] w fun e w' => e = .returned (.agg #[.int .u64 z]) ∧ Below w.heap.size w w')
    (Ev : ∀ w, Calls Try.prog 60 #[.agg #[.int .u64 z]] w fun e w' => e = .returned (.tuple #[.agg #[.int .u64 r], .bool true]) ∧ Below w.heap.size w w')
    (Ng : ∀ w, Calls Try.prog 77 #[.agg #[.int .u64 r]] w fun e w' => e = .returned (.agg #[.int .u64 r2]) ∧ Below w.heap.size w w') :
    Calls Try.prog 46 #[.int .u64 n] w fun e w' => e = .returned (.tuple #[.agg #[.int .u64 x, .int .u64 r2, .bool false], .bool true]) ∧ Below w.heap.size w w' := by
  have hr := K3.new w 60 0 0 false
  have hb := (Below.refl _ w).alloc (Nat.le_refl _) (Obj.cells #[.int .u64 0, .int .u64 0, .bool false] 60)
  go_enter Try.func46, Try.ntmps46
  go_wp2_with fail
  refine (E _).mono ?_
  rintro e w1 ⟨rfl, b1⟩
  replace hr := (hr.keep b1).alloc (Obj.cells #[.int .u64 x] 86)
  replace hb := keepB hb hb.size b1
  replace hb := hb.alloc hb.size (Obj.cells #[.int .u64 x] 86)
  have n4 := R1.new w1 x
  clear b1 E
  go_wp2_with fail
  refine (Cs _).mono ?_
  rintro e w2 ⟨rfl, b1⟩
  replace hr := hr.keep b1
  replace n4 := n4.keep b1
  replace hb := keepB hb hb.size b1
  clear b1 Cs
  go_wp2_with fail
  refine (Ev _).mono ?_
  rintro e w3 ⟨rfl, b1⟩
  have hr' := hr.lt
  have n4' := n4.lt
  replace hr := (hr.keep b1).alloc (Obj.cells #[.int .u64 r] 86)
  replace n4 := (n4.keep b1).alloc (Obj.cells #[.int .u64 r] 86)
  have n6 := R1.new w3 r
  have hne1 : w1.heap.size ≠ w3.heap.size := Nat.ne_of_lt (Nat.lt_of_lt_of_le n4' b1.size)
  have hlt : w.heap.size < w3.heap.size := Nat.lt_of_lt_of_le hr' b1.size
  replace hb := keepB hb hb.size b1
  replace hb := hb.alloc hb.size (Obj.cells #[.int .u64 r] 86)
  clear b1 Ev
  go_wp2_with fail
  refine (Ng _).mono ?_
  rintro e w4 ⟨rfl, b1⟩
  replace hr := hr.keep b1
  replace n4 := n4.keep b1
  replace n6 := n6.keep b1
  replace hb := keepB hb hb.size b1
  clear b1 Ng
  have c6 := n6.cell
  have f6 := n6.frz
  have m6 := n6.set r2
  have m4 : R1 (w4.setCell ⟨w3.heap.size, 0, none⟩ (.int .u64 r2)) w1.heap.size x := n4.other hne1 0 _
  have mr : K3 (w4.setCell ⟨w3.heap.size, 0, none⟩ (.int .u64 r2)) 60 w.heap.size 0 0 false := by
    unfold K3 at *
    rw [setCell_heap3 _ _ _ _ _ (by omega)]; exact hr
  replace hb := hb.setCell (p := ⟨w3.heap.size, 0, none⟩) (by simp; omega) (.int .u64 r2)
  have d0 := mr.c0
  have d1 := mr.c1
  have d2 := mr.c2
  have f0 := mr.frz 0
  have f1 := mr.frz 1
  have f2 := mr.frz 2
  have c4 := m4.cell
  have e6 := m6.cell
  go_wp2
  exact bodyPost_ret (v := .tuple #[.agg #[.int .u64 x, .int .u64 r2, .bool false], .bool true]) (cp_ct (fn := Try.f46) (p := 2) (u := 3) Try.results46 _ rfl (mr.set _ _ _)) rfl ⟨rfl, set3_below hb (Nat.le_refl _)⟩
end

set_option maxRecDepth 100000 in
theorem getI_len (s : ByteArray) (w : World) (h : ((s.size : Int) == 8) = false) :
    Calls Try.prog 13 #[.string s] w fun e w' => e = .returned (.tuple #[.agg #[.int .u64 0, .int .u64 0, .bool true], .bool false]) ∧ Below w.heap.size w w' := by
  have hfl := fldK
  have hr := K3.new w 25 0 0 false
  have hb := (Below.refl _ w).alloc (Nat.le_refl _) (Obj.cells #[.int .u64 0, .int .u64 0, .bool false] 25)
  go_enter Try.func13, Try.ntmps13
  go_wp2_with fail
  refine (zpP _).mono ?_
  rintro e w1 ⟨rfl, b1⟩
  replace hr := hr.keep b1
  replace hb := keepB hb hb.size b1
  have d0 := hr.c0
  have d1 := hr.c1
  have d2 := hr.c2
  have f0 := hr.frz 0
  have f1 := hr.frz 1
  have f2 := hr.frz 2
  go_wp2
  exact bodyPost_ret (v := .tuple #[.agg #[.int .u64 0, .int .u64 0, .bool true], .bool false]) (pt_ct (fn := Try.f13) (p := 2) (u := 3) Try.results13 _ rfl (R3.set hr _ _ _)) rfl ⟨rfl, set3_below hb (Nat.le_refl _)⟩
set_option maxRecDepth 100000 in
set_option maxHeartbeats 2000000 in
theorem getI_of (s : ByteArray) (n X Y : Int) (C ok : Bool) (w : World) (h : ((s.size : Int) == 8) = true)
    (L : ∀ w, Calls Try.prog 47 #[.string s] w fun e w' => e = .returned (.int .u64 n) ∧ w = w')
    (P : ∀ w, Calls Try.prog 46 #[.int .u64 n] w fun e w' => e = .returned (.tuple #[.agg #[.int .u64 X, .int .u64 Y, .bool C], .bool ok]) ∧ Below w.heap.size w w') :
    Calls Try.prog 13 #[.string s] w fun e w' => e = .returned (.tuple #[.agg #[.int .u64 X, .int .u64 Y, .bool C], .bool ok]) ∧ Below w.heap.size w w' := by
  have hr := K3.new w 25 0 0 false
  have hb := (Below.refl _ w).alloc (Nat.le_refl _) (Obj.cells #[.int .u64 0, .int .u64 0, .bool false] 25)
  go_enter Try.func13, Try.ntmps13
  go_wp2_with fail
  refine (L _).mono ?_
  rintro e w' ⟨rfl, rfl⟩
  go_wp2_with fail
  refine (P _).mono ?_
  rintro e w1 ⟨rfl, b1⟩
  replace hr := (hr.keep b1).alloc (Obj.cells #[.int .u64 X, .int .u64 Y, .bool C] 60)
  replace hb := keepB hb hb.size b1
  replace hb := hb.alloc hb.size (Obj.cells #[.int .u64 X, .int .u64 Y, .bool C] 60)
  have d0 := hr.c0
  have d1 := hr.c1
  have d2 := hr.c2
  have f0 := hr.frz 0
  have f1 := hr.frz 1
  have f2 := hr.frz 2
  go_wp2
  exact bodyPost_ret (v := .tuple #[.agg #[.int .u64 X, .int .u64 Y, .bool C], .bool ok]) (pt_ct (fn := Try.f13) (p := 2) (u := 3) Try.results13 _ rfl (R3.set hr _ _ _)) rfl ⟨rfl, set3_below hb (Nat.le_refl _)⟩
end Go.Proofs.Ytaeanelfpaphiab
