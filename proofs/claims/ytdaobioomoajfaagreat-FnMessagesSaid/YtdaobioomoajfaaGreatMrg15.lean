import Derived.Test.YtdaobioomoajfaaGreatMrg3
import Derived.Test.YtdaobioomoajfaaGreatMrg7
import Derived.Test.YtdaobioomoajfaaGreatMrg14
import Derived.Test.YtdaobioomoajfaaGreatMrg10
import Derived.Test.YtdaobioomoajfaaGreatMrg11
import Derived.Test.YtdaobioomoajfaaGreatMrg12
import Derived.Deep.RegionHeld3
set_option linter.unusedVariables false
set_option maxRecDepth 100000
set_option maxHeartbeats 16000000
namespace Go.Proofs.YtdaobioomoajfaaGreat
open Go.RowKit M
theorem putP_of (x y p q n : Int) (c pb ok : Bool) (s : ByteArray) (w : World)
    (F1 : ∀ w, Calls Tryz.prog 81 #[.agg #[.int .u64 x, .int .u64 y, .bool c]] w fun e w' => e = .returned (.tuple #[.agg #[.int .u64 p, .int .u64 q, .bool pb], .bool ok]) ∧ Below w.heap.size w w')
    (Wd : ∀ w, Calls Tryz.prog 82 #[.agg #[.int .u64 p, .int .u64 q, .bool pb]] w fun e w' => e = .returned (.int .u64 n) ∧ Below w.heap.size w w')
    (Pw : ∀ w, Calls Tryz.prog 15 #[.int .u64 n] w fun e w' => e = .returned (.string s) ∧ Below w.heap.size w w') :
    Calls Tryz.prog 79 #[.agg #[.int .u64 x, .int .u64 y, .bool c]] w fun e w' => e = .returned (.string s) ∧ Below w.heap.size w w' := by
  have hb := (Below.refl _ w).alloc (Nat.le_refl _) (Obj.cells #[.int .u64 x, .int .u64 y, .bool c] 25)
  go_enter Tryz.func79, Tryz.ntmps79
  go_wp2_with fail
  refine (F1 _).mono ?_
  rintro e w1 ⟨rfl, b1⟩
  replace hb := keepB hb hb.size b1
  replace hb := hb.alloc hb.size (Obj.cells #[.int .u64 p, .int .u64 q, .bool pb] 118)
  clear b1 F1
  go_wp2_with fail
  refine (Wd _).mono ?_
  rintro e w3 ⟨rfl, b3⟩
  replace hb := keepB hb hb.size b3
  clear b3 Wd
  go_wp2_with fail
  refine (Pw _).mono ?_
  rintro e w4 ⟨rfl, b4⟩
  replace hb := keepB hb hb.size b4
  go_wp2
  go_ret
  exact ⟨rfl, hb⟩
theorem putI_pt (x y : Nat) (c : Bool) (w : World) :
    Calls Tryz.prog 79 #[.agg #[.int .u64 x, .int .u64 y, .bool c]] w fun e w' => e = .returned (.string (strOfNums (be8 (putN (asPt x y c) : Nat)))) ∧ Below w.heap.size w w' := by
  have Wd := wrdV (asPt x y c)
  rw [ptW_eq] at Wd
  exact putP_of _ _ _ _ _ _ _ _ _ w (fndW x y c) Wd (fun w => putI_any _ w (putN_lt _))
end Go.Proofs.YtdaobioomoajfaaGreat
namespace Go.Proofs.YtdaobioomoajfaaGreat
open Go.RowKit
theorem sqS_no (x r z : Int) (w : World) (h1 : x < 2305843009213693951) (hz : (z == x) = false)
    (L : ∀ w, Calls Tryz.prog 51 #[.int .u64 x, .int .u64 576460752303423488, .int .u64 2305843009213693951] w fun e w' => e = .returned (.int .u64 r) ∧ w = w')
    (M : ∀ w, Calls Tryz.prog 50 #[.int .u64 r, .int .u64 r] w fun e w' => e = .returned (.int .u64 z) ∧ w = w') :
    Calls Tryz.prog 44 #[.int .u64 x] w fun e w' => e = .returned (.tuple #[.int .u64 0, .bool false]) ∧ w = w' := by
  go_enter Tryz.func44, Tryz.ntmps44
  go_wp2_with (first | (go_at_call 51; refine (L _).mono ?_; rintro e w' ⟨rfl, rfl⟩) | (go_at_call 50; refine (M _).mono ?_; rintro e w' ⟨rfl, rfl⟩))
  go_ret2
  exact ⟨rfl, rfl⟩
theorem sqS_odd (x r : Int) (w : World) (h1 : x < 2305843009213693951) (ho : (r % 2 == 1) = true) (hr0 : 0 ≤ r) (hr : r ≤ 2305843009213693951)
    (L : ∀ w, Calls Tryz.prog 51 #[.int .u64 x, .int .u64 576460752303423488, .int .u64 2305843009213693951] w fun e w' => e = .returned (.int .u64 r) ∧ w = w')
    (M : ∀ w, Calls Tryz.prog 50 #[.int .u64 r, .int .u64 r] w fun e w' => e = .returned (.int .u64 x) ∧ w = w') :
    Calls Tryz.prog 44 #[.int .u64 x] w fun e w' => e = .returned (.tuple #[.int .u64 (2305843009213693951 - r), .bool true]) ∧ w = w' := by
  go_enter Tryz.func44, Tryz.ntmps44
  go_wp2_with (first | (go_at_call 51; refine (L _).mono ?_; rintro e w' ⟨rfl, rfl⟩) | (go_at_call 50; refine (M _).mono ?_; rintro e w' ⟨rfl, rfl⟩))
  go_ret2
  exact ⟨rfl, rfl⟩
theorem sqS_even (x r : Int) (w : World) (h1 : x < 2305843009213693951) (ho : (r % 2 == 1) = false) (hr0 : 0 ≤ r)
    (L : ∀ w, Calls Tryz.prog 51 #[.int .u64 x, .int .u64 576460752303423488, .int .u64 2305843009213693951] w fun e w' => e = .returned (.int .u64 r) ∧ w = w')
    (M : ∀ w, Calls Tryz.prog 50 #[.int .u64 r, .int .u64 r] w fun e w' => e = .returned (.int .u64 x) ∧ w = w') :
    Calls Tryz.prog 44 #[.int .u64 x] w fun e w' => e = .returned (.tuple #[.int .u64 r, .bool true]) ∧ w = w' := by
  go_enter Tryz.func44, Tryz.ntmps44
  go_wp2_with (first | (go_at_call 51; refine (L _).mono ?_; rintro e w' ⟨rfl, rfl⟩) | (go_at_call 50; refine (M _).mono ?_; rintro e w' ⟨rfl, rfl⟩))
  go_ret2
  exact ⟨rfl, rfl⟩
theorem results_ct {P : Program} {fn : Func} {p u : Tmp} {ty : TypeId} (h : fn.results = #[.cell p ty, .tmp u]) (tmps : Array Value) (w : World) (g y : Nat) (d : TypeDesc)
    (hp : tmps.getD p undef = .pointer (some ⟨g, 0, none⟩)) (hc : Rp w ty g y)
    (hu : P.underlying ty = some d) (hd : d.isRow = true) (hi : (P.info? ty).map (·.size) = some 1) :
    (results fn tmps).run P w = .ok (.tuple #[.agg #[.int .u64 y], tmps.getD u undef]) w := by
  have hp' : tmps[p]?.getD undef = .pointer (some ⟨g, 0, none⟩) := by simpa using hp
  simp [results, h, hp', asAddr, run_loadVar_mid w g 0 ty [.int .u64 y] d hc.range hu hd hi]
theorem evenP_no (x r z : Nat) (w : World) (hz : ((z : Int) == (x : Int)) = false)
    (L : ∀ w, Calls Tryz.prog 107 #[.agg #[.int .u64 x], .int .u64 576460752303423488] w fun e w' => e = .returned (.agg #[.int .u64 r]) ∧ Below w.heap.size w w')
    (M : ∀ w, Calls Tryz.prog 85 #[.agg #[.int .u64 r], .agg #[.int .u64 r]] w fun e w' => e = .returned (.agg #[.int .u64 z]) ∧ Below w.heap.size w w') :
    Calls Tryz.prog 106 #[.agg #[.int .u64 x]] w fun e w' => e = .returned (.tuple #[.agg #[.int .u64 0], .bool false]) ∧ Below w.heap.size w w' := by
  go_enter Tryz.func106, Tryz.ntmps106
  go_wp2_with fail
  refine (L _).mono ?_
  rintro e w1 ⟨rfl, b1⟩
  have hx0 : Rp ((w.alloc (Obj.cells #[.int .u64 (x : Int)] 124)).alloc (Obj.cells #[.int .u64 0] 124)) 124 w.heap.size x := (Rp.new w _ x).alloc _
  have hr0' : Rp ((w.alloc (Obj.cells #[.int .u64 (x : Int)] 124)).alloc (Obj.cells #[.int .u64 0] 124)) 124 (w.heap.size + 1) 0 := (Rp.new _ _ 0).at (by simp)
  have hx1 := hx0.below b1 hx0.lt
  have hr1 := hr0'.below b1 hr0'.lt
  have hw1 : Below w.heap.size w w1 := (((Below.refl _ w).alloc (Nat.le_refl _) _).alloc (by simp) _).trans (b1.mono (by simp; omega))
  have hl1 : w.heap.size + 2 ≤ w1.heap.size := by have := b1.size; simp at this; omega
  clear b1 hx0 hr0'
  have rR := (Rp.new w1 124 r).drew
  have rX := (hx1.alloc (Obj.cells #[.int .u64 (r : Int)] 124)).drew
  have rO := (hr1.alloc (Obj.cells #[.int .u64 (r : Int)] 124)).drew
  have hw2 := (hw1.alloc hw1.size (Obj.cells #[.int .u64 (r : Int)] 124)).drew
  have cR := rR.cell
  have cX := rX.cell
  go_wp2
  go_region_held3 (fun w' => w'.cell? ⟨w1.heap.size, 0, none⟩ = some (.int .u64 (r : Int)) ∧ w'.cell? ⟨w.heap.size, 0, none⟩ = some (.int .u64 (x : Int))) (first | exact ⟨cR, cX⟩ | exact ⟨qR, qX⟩ | go_keep) ((go_at_call 85; refine (M _).mono ?_; rintro e w3 ⟨rfl, b3⟩; have sR := rR.below b3 rR.lt; have sX := rX.below b3 rX.lt; have sO := rO.below b3 rO.lt; have qR := sR.cell; have qX := sX.cell))
  have hw3 := hw2.trans (b3.mono hw2.size)
  have qO := sO.cell
  have fO := sO.frz
  have fR := sR.frz
  have hne : w1.heap.size ≠ w.heap.size + 1 := by omega
  clear b3 hw2 rX rO rR cR cX hx1 hr1 hw1 L M sX qX
  go_wp2
  have rF := sO.set 0
  refine bodyPost_ret (v := .tuple #[.agg #[.int .u64 0], .bool false]) (results_ct (fn := Tryz.f106) (p := 2) (u := 3) (ty := 124) Tryz.results106 _ _ (w.heap.size + 1) _ _ rfl rF Tryz.underlying124 rfl (by kernel_rfl)) rfl ⟨rfl, ?_⟩
  exact hw3.setCell (p := ⟨w.heap.size + 1, 0, none⟩) (by simp) _
theorem evenP_even (x r : Nat) (w : World) (ho : (((r : Nat) : Int) % 2 == 1) = false)
    (L : ∀ w, Calls Tryz.prog 107 #[.agg #[.int .u64 x], .int .u64 576460752303423488] w fun e w' => e = .returned (.agg #[.int .u64 r]) ∧ Below w.heap.size w w')
    (M : ∀ w, Calls Tryz.prog 85 #[.agg #[.int .u64 r], .agg #[.int .u64 r]] w fun e w' => e = .returned (.agg #[.int .u64 x]) ∧ Below w.heap.size w w') :
    Calls Tryz.prog 106 #[.agg #[.int .u64 x]] w fun e w' => e = .returned (.tuple #[.agg #[.int .u64 r], .bool true]) ∧ Below w.heap.size w w' := by
  go_enter Tryz.func106, Tryz.ntmps106
  go_wp2_with fail
  refine (L _).mono ?_
  rintro e w1 ⟨rfl, b1⟩
  have hx0 : Rp ((w.alloc (Obj.cells #[.int .u64 (x : Int)] 124)).alloc (Obj.cells #[.int .u64 0] 124)) 124 w.heap.size x := (Rp.new w _ x).alloc _
  have hr0' : Rp ((w.alloc (Obj.cells #[.int .u64 (x : Int)] 124)).alloc (Obj.cells #[.int .u64 0] 124)) 124 (w.heap.size + 1) 0 := (Rp.new _ _ 0).at (by simp)
  have hx1 := hx0.below b1 hx0.lt
  have hr1 := hr0'.below b1 hr0'.lt
  have hw1 : Below w.heap.size w w1 := (((Below.refl _ w).alloc (Nat.le_refl _) _).alloc (by simp) _).trans (b1.mono (by simp; omega))
  have hl1 : w.heap.size + 2 ≤ w1.heap.size := by have := b1.size; simp at this; omega
  clear b1 hx0 hr0'
  have rR := (Rp.new w1 124 r).drew
  have rX := (hx1.alloc (Obj.cells #[.int .u64 (r : Int)] 124)).drew
  have rO := (hr1.alloc (Obj.cells #[.int .u64 (r : Int)] 124)).drew
  have hw2 := (hw1.alloc hw1.size (Obj.cells #[.int .u64 (r : Int)] 124)).drew
  have cR := rR.cell
  have cX := rX.cell
  go_wp2
  go_region_held3 (fun w' => w'.cell? ⟨w1.heap.size, 0, none⟩ = some (.int .u64 (r : Int)) ∧ w'.cell? ⟨w.heap.size, 0, none⟩ = some (.int .u64 (x : Int))) (first | exact ⟨cR, cX⟩ | exact ⟨qR, qX⟩ | go_keep) ((go_at_call 85; refine (M _).mono ?_; rintro e w3 ⟨rfl, b3⟩; have sR := rR.below b3 rR.lt; have sX := rX.below b3 rX.lt; have sO := rO.below b3 rO.lt; have qR := sR.cell; have qX := sX.cell))
  have hw3 := hw2.trans (b3.mono hw2.size)
  have qO := sO.cell
  have fO := sO.frz
  have fR := sR.frz
  have hne : w1.heap.size ≠ w.heap.size + 1 := by omega
  clear b3 hw2 rX rO rR cR cX hx1 hr1 hw1 L M sX qX
  go_wp2
  have rF := sO.set r
  refine bodyPost_ret (v := .tuple #[.agg #[.int .u64 r], .bool true]) (results_ct (fn := Tryz.f106) (p := 2) (u := 3) (ty := 124) Tryz.results106 _ _ (w.heap.size + 1) _ _ rfl rF Tryz.underlying124 rfl (by kernel_rfl)) rfl ⟨rfl, ?_⟩
  exact hw3.setCell (p := ⟨w.heap.size + 1, 0, none⟩) (by simp) _
theorem evenP_odd (x r : Nat) (w : World) (ho : (((r : Nat) : Int) % 2 == 1) = true) (r' : Nat)
    (N : ∀ w, Calls Tryz.prog 93 #[.agg #[.int .u64 r]] w fun e w' => e = .returned (.agg #[.int .u64 r']) ∧ Below w.heap.size w w')
    (L : ∀ w, Calls Tryz.prog 107 #[.agg #[.int .u64 x], .int .u64 576460752303423488] w fun e w' => e = .returned (.agg #[.int .u64 r]) ∧ Below w.heap.size w w')
    (M : ∀ w, Calls Tryz.prog 85 #[.agg #[.int .u64 r], .agg #[.int .u64 r]] w fun e w' => e = .returned (.agg #[.int .u64 x]) ∧ Below w.heap.size w w') :
    Calls Tryz.prog 106 #[.agg #[.int .u64 x]] w fun e w' => e = .returned (.tuple #[.agg #[.int .u64 r'], .bool true]) ∧ Below w.heap.size w w' := by
  go_enter Tryz.func106, Tryz.ntmps106
  go_wp2_with fail
  refine (L _).mono ?_
  rintro e w1 ⟨rfl, b1⟩
  have hx0 : Rp ((w.alloc (Obj.cells #[.int .u64 (x : Int)] 124)).alloc (Obj.cells #[.int .u64 0] 124)) 124 w.heap.size x := (Rp.new w _ x).alloc _
  have hr0' : Rp ((w.alloc (Obj.cells #[.int .u64 (x : Int)] 124)).alloc (Obj.cells #[.int .u64 0] 124)) 124 (w.heap.size + 1) 0 := (Rp.new _ _ 0).at (by simp)
  have hx1 := hx0.below b1 hx0.lt
  have hr1 := hr0'.below b1 hr0'.lt
  have hw1 : Below w.heap.size w w1 := (((Below.refl _ w).alloc (Nat.le_refl _) _).alloc (by simp) _).trans (b1.mono (by simp; omega))
  have hl1 : w.heap.size + 2 ≤ w1.heap.size := by have := b1.size; simp at this; omega
  clear b1 hx0 hr0'
  have rR := (Rp.new w1 124 r).drew
  have rX := (hx1.alloc (Obj.cells #[.int .u64 (r : Int)] 124)).drew
  have rO := (hr1.alloc (Obj.cells #[.int .u64 (r : Int)] 124)).drew
  have hw2 := (hw1.alloc hw1.size (Obj.cells #[.int .u64 (r : Int)] 124)).drew
  have cR := rR.cell
  have cX := rX.cell
  go_wp2
  go_region_held3 (fun w' => w'.cell? ⟨w1.heap.size, 0, none⟩ = some (.int .u64 (r : Int)) ∧ w'.cell? ⟨w.heap.size, 0, none⟩ = some (.int .u64 (x : Int))) (first | exact ⟨cR, cX⟩ | exact ⟨qR, qX⟩ | go_keep) ((go_at_call 85; refine (M _).mono ?_; rintro e w3 ⟨rfl, b3⟩; have sR := rR.below b3 rR.lt; have sX := rX.below b3 rX.lt; have sO := rO.below b3 rO.lt; have qR := sR.cell; have qX := sX.cell))
  have hw3 := hw2.trans (b3.mono hw2.size)
  have qO := sO.cell
  have fO := sO.frz
  have fR := sR.frz
  have hne : w1.heap.size ≠ w.heap.size + 1 := by omega
  clear b3 hw2 rX rO rR cR cX hx1 hr1 hw1 L M sX qX
  go_wp2_with fail
  refine (N _).mono ?_
  rintro e w4 ⟨rfl, b4⟩
  replace sR := sR.below b4 sR.lt
  replace sO := sO.below b4 sO.lt
  replace hw3 := hw3.trans (b4.mono hw3.size)
  clear b4 qR qO fO fR N
  have qR := sR.cell
  have qO := sO.cell
  have fO := sO.frz
  have fR := sR.frz
  have tR := sR.set r'
  have tO : Rp (w4.setCell ⟨w1.heap.size, 0, none⟩ (.int .u64 (r' : Int))) _ _ _ := sO.other (Ne.symm hne) _
  have hw4 := hw3.setCell (p := ⟨w1.heap.size, 0, none⟩) (by simp; omega) (.int .u64 (r' : Int))
  have uR := tR.cell
  have uO := tO.cell
  have gO := tO.frz
  go_wp2
  have rF := tO.set r'
  refine bodyPost_ret (v := .tuple #[.agg #[.int .u64 r'], .bool true]) (results_ct (fn := Tryz.f106) (p := 2) (u := 3) (ty := 124) Tryz.results106 _ _ (w.heap.size + 1) _ _ rfl rF Tryz.underlying124 rfl (by kernel_rfl)) rfl ⟨rfl, ?_⟩
  exact hw4.setCell (p := ⟨w.heap.size + 1, 0, none⟩) (by simp) _
end Go.Proofs.YtdaobioomoajfaaGreat
namespace Go.Proofs.YtdaobioomoajfaaGreat
open Go.RowKit
theorem pow_both (x e m : Nat) (he : e < 18446744073709551616) (hm : m = 2305843009213693951) (h : x < m) : ∃ r : Nat, r < m ∧ r = x ^ e % m ∧
    (∀ w, Calls Tryz.prog 51 #[.int .u64 x, .int .u64 e, .int .u64 m] w fun e w' => e = .returned (.int .u64 r) ∧ w = w') ∧
    (∀ w, Calls Tryz.prog 107 #[.agg #[.int .u64 x], .int .u64 e] w fun e w' => e = .returned (.agg #[.int .u64 r]) ∧ Below w.heap.size w w') := by
  subst hm
  exact ⟨_, Nat.mod_lt _ (by decide), rfl, fun w => powS_any x e _ w (by omega) he (by decide) (by decide), fun w => powP_any x e w h he⟩
theorem sq_comp (x y r k : Nat) (hr : r = x ^ (2 ^ k) % 2305843009213693951) (hk : 2 ^ (k + 2) = 2305843009213693951 - 1 + 2) (hy : y * y % 2305843009213693951 = x) : r * r % 2305843009213693951 = x := by
  have e1 : r * r % 2305843009213693951 = x ^ (2 ^ k + 2 ^ k) % 2305843009213693951 := by rw [hr, ← Nat.mul_mod, ← Nat.pow_add]
  have e2 : (y * y) ^ (2 ^ k + 2 ^ k) = y ^ (2 ^ (k + 2)) := by
    rw [Nat.mul_pow, ← Nat.pow_add, Nat.pow_succ, Nat.pow_succ]
    congr 1
    omega
  rw [e1, ← hy, ← Nat.pow_mod, e2]
  exact M.rootP.two (k + 2) y hk
theorem ev_both (x : Nat) (h : x < 2305843009213693951) : ∃ (r : Nat) (b : Bool),
    (∀ w, Calls Tryz.prog 44 #[.int .u64 x] w fun e w' => e = .returned (.tuple #[.int .u64 r, .bool b]) ∧ w = w') ∧
    (∀ w, Calls Tryz.prog 106 #[.agg #[.int .u64 x]] w fun e w' => e = .returned (.tuple #[.agg #[.int .u64 r], .bool b]) ∧ Below w.heap.size w w') ∧
    r < 2305843009213693951 ∧ (b = false → r = 0 ∧ ∀ y, y * y % 2305843009213693951 ≠ x) ∧ (b = true → r % 2 = 0 ∧ r * r % 2305843009213693951 = x) := by
  obtain ⟨j, hj⟩ : ∃ j : Nat, j = 59 := ⟨_, rfl⟩
  obtain ⟨k, hk⟩ : ∃ k : Nat, k = 2 ^ j := ⟨_, rfl⟩
  have hk1 : (k : Int) = 576460752303423488 := by rw [hk, hj]; rfl
  have hj2 : 2 ^ (j + 2) = 2305843009213693951 - 1 + 2 := by rw [hj]
  obtain ⟨r, hr, hre, L, P⟩ := pow_both x k 2305843009213693951 (by omega) rfl h
  simp only [hk1] at L P
  rw [hk] at hre
  clear hk hk1 hj
  have M := fun w => l2times_any r r w hr hr
  have T := fun w => timP_any r r w hr hr
  have hz : r * r % 2305843009213693951 < 2305843009213693951 := Nat.mod_lt _ (by decide)
  by_cases hzx : r * r % 2305843009213693951 = x
  · rw [hzx] at M T
    by_cases ho : r % 2 = 1
    · have ho1 : (((r : Nat) : Int) % 2 == 1) = true := by simp; omega
      have hr1 : 1 ≤ r := by omega
      refine ⟨2305843009213693951 - r, true, fun w => ?_, fun w => ?_, by omega, by simp, fun _ => ⟨by omega, ?_⟩⟩
      · have := sqS_odd x r w (by omega) ho1 (by omega) (by omega) L M
        rwa [show (2305843009213693951 : Int) - (r : Int) = ((2305843009213693951 - r : Nat) : Int) by omega] at this
      · exact evenP_odd x r w ho1 (2305843009213693951 - r) (fun w => ngP_of r ((2305843009213693951 - r : Nat) : Int) w fun w => mnP_any 0 r _ w (by omega) (by omega) (by omega) (by omega) (by rw [if_pos (by omega)]; omega)) P T
      · rw [← hzx]
        obtain ⟨q, hq⟩ : ∃ q, q + r = 2305843009213693951 := ⟨2305843009213693951 - r, by omega⟩
        have e1 : 2305843009213693951 - r = q := by omega
        rw [e1]
        have e2 : q * q + 2305843009213693951 * r = r * r + 2305843009213693951 * q := by rw [← hq]; grobner
        have e3 : (q * q + 2305843009213693951 * r) % 2305843009213693951 = (r * r + 2305843009213693951 * q) % 2305843009213693951 := by rw [e2]
        rwa [Nat.add_mul_mod_self_left, Nat.add_mul_mod_self_left] at e3
    · have ho1 : (((r : Nat) : Int) % 2 == 1) = false := by simp; omega
      exact ⟨r, true, fun w => sqS_even x r w (by omega) ho1 (by omega) L M, fun w => evenP_even x r w ho1 P T, hr, by simp, fun _ => ⟨by omega, hzx⟩⟩
  · have hno : ∀ y, y * y % 2305843009213693951 ≠ x := fun y hy => hzx (sq_comp x y r j hre hj2 hy)
    clear hre
    generalize r * r % 2305843009213693951 = z at *
    have hzx1 : ((z : Int) == (x : Int)) = false := by simp; omega
    exact ⟨0, false, fun w => sqS_no x r z w (by omega) hzx1 L M, fun w => evenP_no x r z w hzx1 P T, by decide, fun _ => ⟨rfl, hno⟩, by simp⟩
end Go.Proofs.YtdaobioomoajfaaGreat
namespace Go.Proofs.YtdaobioomoajfaaGreat
open Go.RowKit M
section
variable (n x : Int)
theorem powI_big (z : Int) (w : World) (hn0 : 0 ≤ n) (hx : n.tmod 2305843009213693952 = x)
    (E : ∀ w, Calls Tryz.prog 84 #[.int .u64 x, .agg #[]] w fun e w' => e = .returned (.tuple #[.agg #[.int .u64 z], .bool false]) ∧ Below w.heap.size w w') :
    Calls Tryz.prog 105 #[.int .u64 n] w fun e w' => e = .returned (.tuple #[.agg #[.int .u64 0, .int .u64 0, .bool true], .bool false]) ∧ Below w.heap.size w w' := by
  have hr := K3.new w 118 0 0 false
  have hb := (Below.refl _ w).alloc (Nat.le_refl _) (Obj.cells #[.int .u64 0, .int .u64 0, .bool false] 118)
  go_enter Tryz.func105, Tryz.ntmps105
  go_wp2_with fail
  refine (E _).mono ?_
  rintro e w1 ⟨rfl, b1⟩
  replace hr := (hr.keep b1).alloc (Obj.cells #[.int .u64 z] 124)
  replace hb := keepB hb hb.size b1
  replace hb := hb.alloc hb.size (Obj.cells #[.int .u64 z] 124)
  clear b1 E
  go_wp2_with fail
  refine (zpP _).mono ?_
  rintro e w2 ⟨rfl, b2⟩
  replace hr := hr.keep b2
  replace hb := keepB hb hb.size b2
  have d0 := hr.c0
  have d1 := hr.c1
  have d2 := hr.c2
  have f0 := hr.frz 0
  have f1 := hr.frz 1
  have f2 := hr.frz 2
  go_wp2
  exact bodyPost_ret (v := .tuple #[.agg #[.int .u64 0, .int .u64 0, .bool true], .bool false]) (cp_ct (fn := Tryz.f105) (p := 2) (u := 3) Tryz.results105 _ rfl (hr.set _ _ _)) rfl ⟨rfl, set3_below hb (Nat.le_refl _)⟩
theorem powI_mark (z q : Int) (w : World) (hn0 : 0 ≤ n) (hx : n.tmod 2305843009213693952 = x) (hq : n.tdiv 4611686018427387904 = q) (hqw : IntKind.u64.wrap q = q) (hq1 : (q == 1) = false)
    (E : ∀ w, Calls Tryz.prog 84 #[.int .u64 x, .agg #[]] w fun e w' => e = .returned (.tuple #[.agg #[.int .u64 z], .bool true]) ∧ Below w.heap.size w w') :
    Calls Tryz.prog 105 #[.int .u64 n] w fun e w' => e = .returned (.tuple #[.agg #[.int .u64 0, .int .u64 0, .bool true], .bool false]) ∧ Below w.heap.size w w' := by
  have hr := K3.new w 118 0 0 false
  have hb := (Below.refl _ w).alloc (Nat.le_refl _) (Obj.cells #[.int .u64 0, .int .u64 0, .bool false] 118)
  go_enter Tryz.func105, Tryz.ntmps105
  go_wp2_with fail
  refine (E _).mono ?_
  rintro e w1 ⟨rfl, b1⟩
  replace hr := (hr.keep b1).alloc (Obj.cells #[.int .u64 z] 124)
  replace hb := keepB hb hb.size b1
  replace hb := hb.alloc hb.size (Obj.cells #[.int .u64 z] 124)
  clear b1 E
  go_wp2_with fail
  refine (zpP _).mono ?_
  rintro e w2 ⟨rfl, b2⟩
  replace hr := hr.keep b2
  replace hb := keepB hb hb.size b2
  have d0 := hr.c0
  have d1 := hr.c1
  have d2 := hr.c2
  have f0 := hr.frz 0
  have f1 := hr.frz 1
  have f2 := hr.frz 2
  go_wp2
  exact bodyPost_ret (v := .tuple #[.agg #[.int .u64 0, .int .u64 0, .bool true], .bool false]) (cp_ct (fn := Tryz.f105) (p := 2) (u := 3) Tryz.results105 _ rfl (hr.set _ _ _)) rfl ⟨rfl, set3_below hb (Nat.le_refl _)⟩
theorem powI_no (z r : Int) (w : World) (hn0 : 0 ≤ n) (hx : n.tmod 2305843009213693952 = x) (hq : n.tdiv 4611686018427387904 = 1)
    (E : ∀ w, Calls Tryz.prog 84 #[.int .u64 x, .agg #[]] w fun e w' => e = .returned (.tuple #[.agg #[.int .u64 x], .bool true]) ∧ Below w.heap.size w w')
    (Cs : ∀ w, Calls Tryz.prog 86 #[.agg #[.int .u64 x]] w fun e w' => e = .returned (.agg #[.int .u64 z]) ∧ Below w.heap.size w w')
    (Ev : ∀ w, Calls Tryz.prog 106 #[.agg #[.int .u64 z]] w fun e w' => e = .returned (.tuple #[.agg #[.int .u64 r], .bool false]) ∧ Below w.heap.size w w') :
    Calls Tryz.prog 105 #[.int .u64 n] w fun e w' => e = .returned (.tuple #[.agg #[.int .u64 0, .int .u64 0, .bool true], .bool false]) ∧ Below w.heap.size w w' := by
  have hr := K3.new w 118 0 0 false
  have hb := (Below.refl _ w).alloc (Nat.le_refl _) (Obj.cells #[.int .u64 0, .int .u64 0, .bool false] 118)
  go_enter Tryz.func105, Tryz.ntmps105
  go_wp2_with fail
  refine (E _).mono ?_
  rintro e w1 ⟨rfl, b1⟩
  replace hr := (hr.keep b1).alloc (Obj.cells #[.int .u64 x] 124)
  replace hb := keepB hb hb.size b1
  replace hb := hb.alloc hb.size (Obj.cells #[.int .u64 x] 124)
  clear b1 E
  go_wp2_with fail
  refine (Cs _).mono ?_
  rintro e w2 ⟨rfl, b1⟩
  replace hr := hr.keep b1
  replace hb := keepB hb hb.size b1
  clear b1 Cs
  go_wp2_with fail
  refine (Ev _).mono ?_
  rintro e w3 ⟨rfl, b1⟩
  replace hr := (hr.keep b1).alloc (Obj.cells #[.int .u64 r] 124)
  replace hb := keepB hb hb.size b1
  replace hb := hb.alloc hb.size (Obj.cells #[.int .u64 r] 124)
  clear b1 Ev
  go_wp2_with fail
  refine (zpP _).mono ?_
  rintro e w4 ⟨rfl, b2⟩
  replace hr := hr.keep b2
  replace hb := keepB hb hb.size b2
  have d0 := hr.c0
  have d1 := hr.c1
  have d2 := hr.c2
  have f0 := hr.frz 0
  have f1 := hr.frz 1
  have f2 := hr.frz 2
  go_wp2
  exact bodyPost_ret (v := .tuple #[.agg #[.int .u64 0, .int .u64 0, .bool true], .bool false]) (cp_ct (fn := Tryz.f105) (p := 2) (u := 3) Tryz.results105 _ rfl (hr.set _ _ _)) rfl ⟨rfl, set3_below hb (Nat.le_refl _)⟩
theorem powI_even (z r m : Int) (w : World) (hn0 : 0 ≤ n) (hx : n.tmod 2305843009213693952 = x) (hq : n.tdiv 4611686018427387904 = 1) (hm : bits .and .u64 n 2305843009213693952 = m) (hm0 : (m == 0) = true)
    (E : ∀ w, Calls Tryz.prog 84 #[.int .u64 x, .agg #[]] w fun e w' => e = .returned (.tuple #[.agg #[.int .u64 x], .bool true]) ∧ Below w.heap.size w w')
    (Cs : ∀ w, Calls Tryz.prog 86 #[.agg #[.int .u64 x]] w fun e w' => e = .returned (.agg #[.int .u64 z]) ∧ Below w.heap.size w w')
    (Ev : ∀ w, Calls Tryz.prog 106 #[.agg #[.int .u64 z]] w fun e w' => e = .returned (.tuple #[.agg #[.int .u64 r], .bool true]) ∧ Below w.heap.size w w') :
    Calls Tryz.prog 105 #[.int .u64 n] w fun e w' => e = .returned (.tuple #[.agg #[.int .u64 x, .int .u64 r, .bool false], .bool true]) ∧ Below w.heap.size w w' := by
  have hr := K3.new w 118 0 0 false
  have hb := (Below.refl _ w).alloc (Nat.le_refl _) (Obj.cells #[.int .u64 0, .int .u64 0, .bool false] 118)
  go_enter Tryz.func105, Tryz.ntmps105
  go_wp2_with fail
  refine (E _).mono ?_
  rintro e w1 ⟨rfl, b1⟩
  replace hr := (hr.keep b1).alloc (Obj.cells #[.int .u64 x] 124)
  replace hb := keepB hb hb.size b1
  replace hb := hb.alloc hb.size (Obj.cells #[.int .u64 x] 124)
  have n4 := R1.new w1 x
  clear b1 E
  go_wp2_with fail
  refine (Cs _).mono ?_
  rintro e w2 ⟨rfl, b1⟩
  replace hr := hr.keep b1
  replace n4 := n4.keep b1
  replace hb := keepB hb hb.size b1
  clear b1 Cs
  go_wp2_with fail
  refine (Ev _).mono ?_
  rintro e w3 ⟨rfl, b1⟩
  replace hr := (hr.keep b1).alloc (Obj.cells #[.int .u64 r] 124)
  replace n4 := (n4.keep b1).alloc (Obj.cells #[.int .u64 r] 124)
  replace hb := keepB hb hb.size b1
  replace hb := hb.alloc hb.size (Obj.cells #[.int .u64 r] 124)
  clear b1 Ev
  have d0 := hr.c0
  have d1 := hr.c1
  have d2 := hr.c2
  have f0 := hr.frz 0
  have f1 := hr.frz 1
  have f2 := hr.frz 2
  have c4 := n4.cell
  go_wp2
  exact bodyPost_ret (v := .tuple #[.agg #[.int .u64 x, .int .u64 r, .bool false], .bool true]) (cp_ct (fn := Tryz.f105) (p := 2) (u := 3) Tryz.results105 _ rfl (hr.set _ _ _)) rfl ⟨rfl, set3_below hb (Nat.le_refl _)⟩
theorem powI_odd (z r r2 m : Int) (w : World) (hn0 : 0 ≤ n) (hx : n.tmod 2305843009213693952 = x) (hq : n.tdiv 4611686018427387904 = 1) (hm : bits .and .u64 n 2305843009213693952 = m) (hm0 : (m == 0) = false)
    (E : ∀ w, Calls Tryz.prog 84 #[.int .u64 x, .agg #[]] w fun e w' => e = .returned (.tuple #[.agg #[.int .u64 x], .bool true]) ∧ Below w.heap.size w w')
    (Cs : ∀ w, Calls Tryz.prog 86 #[.agg #[.int .u64 x]] w fun e w' => e = .returned (.agg #[.int .u64 z]) ∧ Below w.heap.size w w')
    (Ev : ∀ w, Calls Tryz.prog 106 #[.agg #[.int .u64 z]] w fun e w' => e = .returned (.tuple #[.agg #[.int .u64 r], .bool true]) ∧ Below w.heap.size w w')
    (Ng : ∀ w, Calls Tryz.prog 93 #[.agg #[.int .u64 r]] w fun e w' => e = .returned (.agg #[.int .u64 r2]) ∧ Below w.heap.size w w') :
    Calls Tryz.prog 105 #[.int .u64 n] w fun e w' => e = .returned (.tuple #[.agg #[.int .u64 x, .int .u64 r2, .bool false], .bool true]) ∧ Below w.heap.size w w' := by
  have hr := K3.new w 118 0 0 false
  have hb := (Below.refl _ w).alloc (Nat.le_refl _) (Obj.cells #[.int .u64 0, .int .u64 0, .bool false] 118)
  go_enter Tryz.func105, Tryz.ntmps105
  go_wp2_with fail
  refine (E _).mono ?_
  rintro e w1 ⟨rfl, b1⟩
  replace hr := (hr.keep b1).alloc (Obj.cells #[.int .u64 x] 124)
  replace hb := keepB hb hb.size b1
  replace hb := hb.alloc hb.size (Obj.cells #[.int .u64 x] 124)
  have n4 := R1.new w1 x
  clear b1 E
  go_wp2_with fail
  refine (Cs _).mono ?_
  rintro e w2 ⟨rfl, b1⟩
  replace hr := hr.keep b1
  replace n4 := n4.keep b1
  replace hb := keepB hb hb.size b1
  clear b1 Cs
  go_wp2_with fail
  refine (Ev _).mono ?_
  rintro e w3 ⟨rfl, b1⟩
  have hr' := hr.lt
  have n4' := n4.lt
  replace hr := (hr.keep b1).alloc (Obj.cells #[.int .u64 r] 124)
  replace n4 := (n4.keep b1).alloc (Obj.cells #[.int .u64 r] 124)
  have n6 := R1.new w3 r
  have hne1 : w1.heap.size ≠ w3.heap.size := Nat.ne_of_lt (Nat.lt_of_lt_of_le n4' b1.size)
  have hlt : w.heap.size < w3.heap.size := Nat.lt_of_lt_of_le hr' b1.size
  replace hb := keepB hb hb.size b1
  replace hb := hb.alloc hb.size (Obj.cells #[.int .u64 r] 124)
  clear b1 Ev
  go_wp2_with fail
  refine (Ng _).mono ?_
  rintro e w4 ⟨rfl, b1⟩
  replace hr := hr.keep b1
  replace n4 := n4.keep b1
  replace n6 := n6.keep b1
  replace hb := keepB hb hb.size b1
  clear b1 Ng
  have c6 := n6.cell
  have f6 := n6.frz
  have m6 := n6.set r2
  have m4 : R1 (w4.setCell ⟨w3.heap.size, 0, none⟩ (.int .u64 r2)) w1.heap.size x := n4.other hne1 0 _
  have mr : K3 (w4.setCell ⟨w3.heap.size, 0, none⟩ (.int .u64 r2)) 118 w.heap.size 0 0 false := by
    unfold K3 at *
    rw [setCell_heap3 _ _ _ _ _ (by omega)]; exact hr
  replace hb := hb.setCell (p := ⟨w3.heap.size, 0, none⟩) (by simp; omega) (.int .u64 r2)
  have d0 := mr.c0
  have d1 := mr.c1
  have d2 := mr.c2
  have f0 := mr.frz 0
  have f1 := mr.frz 1
  have f2 := mr.frz 2
  have c4 := m4.cell
  have e6 := m6.cell
  go_wp2
  exact bodyPost_ret (v := .tuple #[.agg #[.int .u64 x, .int .u64 r2, .bool false], .bool true]) (cp_ct (fn := Tryz.f105) (p := 2) (u := 3) Tryz.results105 _ rfl (mr.set _ _ _)) rfl ⟨rfl, set3_below hb (Nat.le_refl _)⟩
end
theorem getI_len (s : ByteArray) (w : World) (h : ((s.size : Int) == 8) = false) :
    Calls Tryz.prog 104 #[.string s] w fun e w' => e = .returned (.tuple #[.agg #[.int .u64 0, .int .u64 0, .bool true], .bool false]) ∧ Below w.heap.size w w' := by
  have hfl := fldK
  have hr := K3.new w 25 0 0 false
  have hb := (Below.refl _ w).alloc (Nat.le_refl _) (Obj.cells #[.int .u64 0, .int .u64 0, .bool false] 25)
  go_enter Tryz.func104, Tryz.ntmps104
  go_wp2_with fail
  refine (zpP _).mono ?_
  rintro e w1 ⟨rfl, b1⟩
  replace hr := hr.keep b1
  replace hb := keepB hb hb.size b1
  have d0 := hr.c0
  have d1 := hr.c1
  have d2 := hr.c2
  have f0 := hr.frz 0
  have f1 := hr.frz 1
  have f2 := hr.frz 2
  go_wp2
  exact bodyPost_ret (v := .tuple #[.agg #[.int .u64 0, .int .u64 0, .bool true], .bool false]) (pt_ct (fn := Tryz.f104) (p := 2) (u := 3) Tryz.results104 _ rfl (R3.set hr _ _ _)) rfl ⟨rfl, set3_below hb (Nat.le_refl _)⟩
theorem getI_of (s : ByteArray) (n X Y : Int) (C ok : Bool) (w : World) (h : ((s.size : Int) == 8) = true)
    (L : ∀ w, Calls Tryz.prog 28 #[.string s] w fun e w' => e = .returned (.int .u64 n) ∧ w = w')
    (P : ∀ w, Calls Tryz.prog 105 #[.int .u64 n] w fun e w' => e = .returned (.tuple #[.agg #[.int .u64 X, .int .u64 Y, .bool C], .bool ok]) ∧ Below w.heap.size w w') :
    Calls Tryz.prog 104 #[.string s] w fun e w' => e = .returned (.tuple #[.agg #[.int .u64 X, .int .u64 Y, .bool C], .bool ok]) ∧ Below w.heap.size w w' := by
  have hr := K3.new w 25 0 0 false
  have hb := (Below.refl _ w).alloc (Nat.le_refl _) (Obj.cells #[.int .u64 0, .int .u64 0, .bool false] 25)
  go_enter Tryz.func104, Tryz.ntmps104
  go_wp2_with fail
  refine (L _).mono ?_
  rintro e w' ⟨rfl, rfl⟩
  go_wp2_with fail
  refine (P _).mono ?_
  rintro e w1 ⟨rfl, b1⟩
  replace hr := (hr.keep b1).alloc (Obj.cells #[.int .u64 X, .int .u64 Y, .bool C] 118)
  replace hb := keepB hb hb.size b1
  replace hb := hb.alloc hb.size (Obj.cells #[.int .u64 X, .int .u64 Y, .bool C] 118)
  have d0 := hr.c0
  have d1 := hr.c1
  have d2 := hr.c2
  have f0 := hr.frz 0
  have f1 := hr.frz 1
  have f2 := hr.frz 2
  go_wp2
  exact bodyPost_ret (v := .tuple #[.agg #[.int .u64 X, .int .u64 Y, .bool C], .bool ok]) (pt_ct (fn := Tryz.f104) (p := 2) (u := 3) Tryz.results104 _ rfl (R3.set hr _ _ _)) rfl ⟨rfl, set3_below hb (Nat.le_refl _)⟩
end Go.Proofs.YtdaobioomoajfaaGreat
