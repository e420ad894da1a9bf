import Derived.Test.YtaeanelfpaphiabCrvF
import Derived.Test.YtaeanelfpaphiabStr8
import Derived.Test.YtaeanelfpaphiabStrP
namespace Go.Proofs.Ytaeanelfpaphiab
open Go.RowKit M
set_option linter.unusedVariables false

theorem pt_ct {W : World} {b : Nat} {x y : Int} {c : Bool} {fn : Func} {p u : Tmp} (h : fn.results = #[.cell p 25, .tmp u]) (tmps : Array Value)
    (hp : tmps.getD p undef = .pointer (some ⟨b, 0, none⟩)) (hc : R3 W b x y c) :
    (results fn tmps).run Try.prog W = .ok (.tuple #[.agg #[.int .u64 x, .int .u64 y, .bool c], tmps.getD u undef]) W := by
  have hp' : tmps[p]?.getD undef = .pointer (some ⟨b, 0, none⟩) := by simpa using hp
  simp [results, h, hp', asAddr, run_loadVar_mid W b 0 25 [.int .u64 x, .int .u64 y, .bool c] _ hc.range Try.underlying25 rfl (by kernel_rfl)]

set_option maxRecDepth 100000 in
theorem getS_len (s : ByteArray) (w : World) (h : ((s.size : Int) == 8) = false) :
    Calls Try.prog 12 #[.string s] w fun e w' => e = .returned (.tuple #[.agg #[.int .u64 0, .int .u64 0, .bool true], .bool false]) ∧ Below w.heap.size w w' := by
  go_enter Try.func12, Try.ntmps12
  go_wp2_with fail
  refine (zeroS _).mono ?_
  rintro e w' ⟨rfl, rfl⟩
  go_wp2
  refine bodyPost_ret (v := .tuple #[.agg #[.int .u64 0, .int .u64 0, .bool true], .bool false]) (by simp [results, Try.results12, go_sem]) rfl ⟨rfl, ?_⟩
  exact ((Below.refl _ w).alloc (Nat.le_refl _) _).alloc (by simp) _
set_option maxRecDepth 100000 in
theorem getS_big (s : ByteArray) (n x : Int) (w : World) (h : ((s.size : Int) == 8) = true) (hx : n.tmod 2305843009213693952 = x) (hn0 : 0 ≤ n) (hb : 2305843009213693951 ≤ x)
    (L : ∀ w, Calls Try.prog 42 #[.string s] w fun e w' => e = .returned (.int .u64 n) ∧ w = w') :
    Calls Try.prog 12 #[.string s] w fun e w' => e = .returned (.tuple #[.agg #[.int .u64 0, .int .u64 0, .bool true], .bool false]) ∧ Below w.heap.size w w' := by
  go_enter Try.func12, Try.ntmps12
  go_wp2_with fail
  refine (L _).mono ?_
  rintro e w' ⟨rfl, rfl⟩
  go_wp2_with fail
  refine (zeroS _).mono ?_
  rintro e w' ⟨rfl, rfl⟩
  go_wp2
  refine bodyPost_ret (v := .tuple #[.agg #[.int .u64 0, .int .u64 0, .bool true], .bool false]) (by simp [results, Try.results12, go_sem]) rfl ⟨rfl, ?_⟩
  exact ((Below.refl _ w).alloc (Nat.le_refl _) _).alloc (by simp) _
set_option maxRecDepth 100000 in
theorem getS_no (s : ByteArray) (n x z r : Int) (w : World) (h : ((s.size : Int) == 8) = true) (hx : n.tmod 2305843009213693952 = x) (hn0 : 0 ≤ n) (hb : x < 2305843009213693951)
    (L : ∀ w, Calls Try.prog 42 #[.string s] w fun e w' => e = .returned (.int .u64 n) ∧ w = w')
    (R : ∀ w, Calls Try.prog 43 #[.int .u64 x] w fun e w' => e = .returned (.int .u64 z) ∧ w = w')
    (Sq : ∀ w, Calls Try.prog 25 #[.int .u64 z] w fun e w' => e = .returned (.tuple #[.int .u64 r, .bool false]) ∧ w = w') :
    Calls Try.prog 12 #[.string s] w fun e w' => e = .returned (.tuple #[.agg #[.int .u64 0, .int .u64 0, .bool true], .bool false]) ∧ Below w.heap.size w w' := by
  go_enter Try.func12, Try.ntmps12
  go_wp2_with fail
  refine (L _).mono ?_
  rintro e w' ⟨rfl, rfl⟩
  go_wp2_with fail
  refine (R _).mono ?_
  rintro e w' ⟨rfl, rfl⟩
  go_wp2_with fail
  refine (Sq _).mono ?_
  rintro e w' ⟨rfl, rfl⟩
  go_wp2_with fail
  refine (zeroS _).mono ?_
  rintro e w' ⟨rfl, rfl⟩
  go_wp2
  refine bodyPost_ret (v := .tuple #[.agg #[.int .u64 0, .int .u64 0, .bool true], .bool false]) (by simp [results, Try.results12, go_sem]) rfl ⟨rfl, ?_⟩
  exact (((Below.refl _ w).alloc (Nat.le_refl _) _).alloc (by simp) _).alloc (by simp; omega) _
set_option maxRecDepth 100000 in
set_option maxHeartbeats 2000000 in
theorem getS_even (s : ByteArray) (n x z r : Int) (w : World) (h : ((s.size : Int) == 8) = true) (hx : n.tmod 2305843009213693952 = x) (hn0 : 0 ≤ n) (hb : x < 2305843009213693951)
    (L : ∀ w, Calls Try.prog 42 #[.string s] w fun e w' => e = .returned (.int .u64 n) ∧ w = w')
    (R : ∀ w, Calls Try.prog 43 #[.int .u64 x] w fun e w' => e = .returned (.int .u64 z) ∧ w = w')
    (Sq : ∀ w, Calls Try.prog 25 #[.int .u64 z] w fun e w' => e = .returned (.tuple #[.int .u64 r, .bool true]) ∧ w = w')
    (P1 : ∀ w, Calls Try.prog 28 #[.agg #[.int .u64 x, .int .u64 r, .bool false]] w fun e w' => e = .returned (.string s) ∧ Below w.heap.size w w') :
    Calls Try.prog 12 #[.string s] w fun e w' => e = .returned (.tuple #[.agg #[.int .u64 x, .int .u64 r, .bool false], .bool true]) ∧ Below w.heap.size w w' := by
  have hr : R3 ((w.alloc (Obj.cells #[.int .u64 0, .int .u64 0, .bool false] 25)).alloc (Obj.cells #[.int .u64 x, .int .u64 r, .bool false] 25)) w.heap.size 0 0 false := (R3.new w 0 0 false).alloc _
  have hp : R3 ((w.alloc (Obj.cells #[.int .u64 0, .int .u64 0, .bool false] 25)).alloc (Obj.cells #[.int .u64 x, .int .u64 r, .bool false] 25)) (w.heap.size + 1) x r false := (R3.new _ x r false).at (by simp)
  have hbl : Below w.heap.size w ((w.alloc (Obj.cells #[.int .u64 0, .int .u64 0, .bool false] 25)).alloc (Obj.cells #[.int .u64 x, .int .u64 r, .bool false] 25)) := ((Below.refl _ w).alloc (Nat.le_refl _) _).alloc (by simp) _
  go_enter Try.func12, Try.ntmps12
  go_wp2_with fail
  refine (L _).mono ?_
  rintro e w' ⟨rfl, rfl⟩
  go_wp2_with fail
  refine (R _).mono ?_
  rintro e w' ⟨rfl, rfl⟩
  go_wp2_with fail
  refine (Sq _).mono ?_
  rintro e w' ⟨rfl, rfl⟩
  go_wp2_with fail
  refine (P1 _).mono ?_
  rintro e w1 ⟨rfl, b1⟩
  replace hr := hr.keep b1
  replace hp := hp.keep b1
  replace hbl := kpB hbl hbl.size b1
  clear b1 L R Sq
  have c0 := hp.c0
  have c1 := hp.c1
  have c2 := hp.c2
  go_wp2_with fail
  refine (P1 _).mono ?_
  rintro e w2 ⟨rfl, b1⟩
  replace hr := hr.keep b1
  replace hp := hp.keep b1
  replace hbl := kpB hbl hbl.size b1
  clear b1 c0 c1 c2
  have c0 := hp.c0
  have c1 := hp.c1
  have c2 := hp.c2
  have d0 := hr.c0
  have d1 := hr.c1
  have d2 := hr.c2
  have f0 := hr.frz 0
  have f1 := hr.frz 1
  have f2 := hr.frz 2
  go_wp2
  exact bodyPost_ret (v := .tuple #[.agg #[.int .u64 x, .int .u64 r, .bool false], .bool true]) (pt_ct (fn := Try.f12) (p := 2) (u := 3) Try.results12 _ rfl (hr.set _ _ _)) rfl ⟨rfl, set3_below hbl (by omega)⟩
set_option maxRecDepth 100000 in
set_option maxHeartbeats 2000000 in
theorem getS_odd (s s1 s2 : ByteArray) (n x z r X2 Y2 : Int) (C2 good : Bool) (w : World) (h : ((s.size : Int) == 8) = true) (hx : n.tmod 2305843009213693952 = x) (hn0 : 0 ≤ n) (hb : x < 2305843009213693951)
    (hs1 : (s1.toList == s.toList) = false) (hs2 : (s2.toList == s.toList) = good)
    (L : ∀ w, Calls Try.prog 42 #[.string s] w fun e w' => e = .returned (.int .u64 n) ∧ w = w')
    (R : ∀ w, Calls Try.prog 43 #[.int .u64 x] w fun e w' => e = .returned (.int .u64 z) ∧ w = w')
    (Sq : ∀ w, Calls Try.prog 25 #[.int .u64 z] w fun e w' => e = .returned (.tuple #[.int .u64 r, .bool true]) ∧ w = w')
    (P1 : ∀ w, Calls Try.prog 28 #[.agg #[.int .u64 x, .int .u64 r, .bool false]] w fun e w' => e = .returned (.string s1) ∧ Below w.heap.size w w')
    (Ng : ∀ w, Calls Try.prog 44 #[.agg #[.int .u64 x, .int .u64 r, .bool false]] w fun e w' => e = .returned (.agg #[.int .u64 X2, .int .u64 Y2, .bool C2]) ∧ Below w.heap.size w w')
    (P2 : ∀ w, Calls Try.prog 28 #[.agg #[.int .u64 X2, .int .u64 Y2, .bool C2]] w fun e w' => e = .returned (.string s2) ∧ Below w.heap.size w w') :
    Calls Try.prog 12 #[.string s] w fun e w' => e = .returned (if good then .tuple #[.agg #[.int .u64 X2, .int .u64 Y2, .bool C2], .bool true] else .tuple #[.agg #[.int .u64 0, .int .u64 0, .bool true], .bool false]) ∧ Below w.heap.size w w' := by
  have hr : R3 ((w.alloc (Obj.cells #[.int .u64 0, .int .u64 0, .bool false] 25)).alloc (Obj.cells #[.int .u64 x, .int .u64 r, .bool false] 25)) w.heap.size 0 0 false := (R3.new w 0 0 false).alloc _
  have hp : R3 ((w.alloc (Obj.cells #[.int .u64 0, .int .u64 0, .bool false] 25)).alloc (Obj.cells #[.int .u64 x, .int .u64 r, .bool false] 25)) (w.heap.size + 1) x r false := (R3.new _ x r false).at (by simp)
  have hbl : Below w.heap.size w ((w.alloc (Obj.cells #[.int .u64 0, .int .u64 0, .bool false] 25)).alloc (Obj.cells #[.int .u64 x, .int .u64 r, .bool false] 25)) := ((Below.refl _ w).alloc (Nat.le_refl _) _).alloc (by simp) _
  go_enter Try.func12, Try.ntmps12
  go_wp2_with fail
  refine (L _).mono ?_
  rintro e w' ⟨rfl, rfl⟩
  go_wp2_with fail
  refine (R _).mono ?_
  rintro e w' ⟨rfl, rfl⟩
  go_wp2_with fail
  refine (Sq _).mono ?_
  rintro e w' ⟨rfl, rfl⟩
  go_wp2_with fail
  refine (P1 _).mono ?_
  rintro e w1 ⟨rfl, b1⟩
  replace hr := hr.keep b1
  replace hp := hp.keep b1
  replace hbl := kpB hbl hbl.size b1
  clear b1 L R Sq P1
  have c0 := hp.c0
  have c1 := hp.c1
  have c2 := hp.c2
  go_wp2_with fail
  refine (Ng _).mono ?_
  rintro e w2 ⟨rfl, b1⟩
  replace hr := hr.keep b1
  replace hp := hp.keep b1
  replace hbl := kpB hbl hbl.size b1
  clear b1 c0 c1 c2 Ng
  have c0 := hp.c0
  have c1 := hp.c1
  have c2 := hp.c2
  have f0 := hp.frz 0
  have f1 := hp.frz 1
  have f2 := hp.frz 2
  replace hr := hr.other (b' := w.heap.size + 1) (by omega) X2 Y2 C2
  have hq := hp.set X2 Y2 C2
  replace hbl := set3_below (b := w.heap.size + 1) (x := X2) (y := Y2) (c := C2) hbl (by omega)
  unfold set3 at hr hq hbl
  have k0 := hq.c0
  have k1 := hq.c1
  have k2 := hq.c2
  go_wp2_with fail
  refine (P2 _).mono ?_
  rintro e w3 ⟨rfl, b1⟩
  replace hr := hr.keep b1
  replace hq := hq.keep b1
  replace hbl := kpB hbl hbl.size b1
  clear b1 c0 c1 c2 f0 f1 f2 k0 k1 k2 P2 hp
  cases good
  · go_wp2_with fail
    refine (zeroS _).mono ?_
    rintro e w' ⟨rfl, rfl⟩
    replace hr := hr.alloc (Obj.cells #[.int .u64 0, .int .u64 0, .bool true] 25)
    replace hbl := hbl.alloc hbl.size (Obj.cells #[.int .u64 0, .int .u64 0, .bool true] 25)
    have d0 := hr.c0
    have d1 := hr.c1
    have d2 := hr.c2
    have f0 := hr.frz 0
    have f1 := hr.frz 1
    have f2 := hr.frz 2
    go_wp2
    exact bodyPost_ret (v := .tuple #[.agg #[.int .u64 0, .int .u64 0, .bool true], .bool false]) (pt_ct (fn := Try.f12) (p := 2) (u := 3) Try.results12 _ rfl (hr.set _ _ _)) rfl ⟨rfl, set3_below hbl (by omega)⟩
  · have c0 := hq.c0
    have c1 := hq.c1
    have c2 := hq.c2
    have d0 := hr.c0
    have d1 := hr.c1
    have d2 := hr.c2
    have f0 := hr.frz 0
    have f1 := hr.frz 1
    have f2 := hr.frz 2
    go_wp2
    exact bodyPost_ret (v := .tuple #[.agg #[.int .u64 X2, .int .u64 Y2, .bool C2], .bool true]) (pt_ct (fn := Try.f12) (p := 2) (u := 3) Try.results12 _ rfl (hr.set _ _ _)) rfl ⟨rfl, set3_below hbl (by omega)⟩
end Go.Proofs.Ytaeanelfpaphiab
