import Derived.Test.YtjmhmajfkdglnaaGreatDoorMrg29
import Derived.Test.YtjmhmajfkdglnaaGreatDoorMrg33
import Derived.Test.YtjmhmajfkdglnaaGreatDoorMrg18
import Derived.Test.YtjmhmajfkdglnaaGreatDoorMrg4
import Derived.Test.YtjmhmajfkdglnaaGreatDoorMrg14
import Derived.Test.YtjmhmajfkdglnaaGreatDoorMrg11
import Derived.Test.YtjmhmajfkdglnaaGreatDoorMrg1
import Derived.Test.YtjmhmajfkdglnaaGreatDoorMrg26
import Derived.Shelf.Strings.Builder1
import Derived.Test.YtjmhmajfkdglnaaGreatDoorMrg12
import Derived.Test.YtjmhmajfkdglnaaGreatDoorMrg10
set_option linter.unusedVariables false
set_option maxRecDepth 100000
set_option maxHeartbeats 16000000
namespace Go.Proofs.YtjmhmajfkdglnaaGreatDoor
open Go.RowKit M
theorem ctm_of (x y a b s a2 b2 s2 x4 y4 : Int) (k : Int) (c c4 : Bool) (w : World)
    (K1 : ∀ w, Calls Tryz.prog 109 #[.agg #[.int .u64 x, .int .u64 y, .bool c]] w fun e w' => e = .returned (.agg #[.int .u64 a, .int .u64 b, .int .u64 s]) ∧ Below w.heap.size w w')
    (K2 : ∀ w, Calls Tryz.prog 110 #[.agg #[.int .u64 a, .int .u64 b, .int .u64 s], .int .u64 k] w fun e w' => e = .returned (.agg #[.int .u64 a2, .int .u64 b2, .int .u64 s2]) ∧ Below w.heap.size w w')
    (K4 : ∀ w, Calls Tryz.prog 111 #[.agg #[.int .u64 a2, .int .u64 b2, .int .u64 s2]] w fun e w' => e = .returned (.agg #[.int .u64 x4, .int .u64 y4, .bool c4]) ∧ Below w.heap.size w w') :
    Calls Tryz.prog 68 #[.agg #[.int .u64 x, .int .u64 y, .bool c], .int .u64 k] w fun e w' => e = .returned (.agg #[.int .u64 x4, .int .u64 y4, .bool c4]) ∧ Below w.heap.size w w' := by
  obtain ⟨X, hX⟩ : ∃ X, X = (w.alloc (Obj.cells #[.int .u64 x, .int .u64 y, .bool c] 106)).alloc (Obj.cells #[.int .u64 0, .int .u64 0, .bool false] 106) := ⟨_, rfl⟩
  have hr : K3 X 106 (w.heap.size + 1) 0 0 false := by rw [hX]; exact (K3.new _ _ 0 0 false).at (by simp)
  have hb : Below w.heap.size w X := by rw [hX]; exact ((Below.refl _ w).alloc (Nat.le_refl _) _).alloc (by simp) _
  rw [hX] at hr hb
  clear hX
  go_enter Tryz.func68, Tryz.ntmps68
  go_wp2_with fail
  refine (K1 _).mono ?_
  rintro e w1 ⟨rfl, b1⟩
  go_wp2_with fail
  refine (K2 _).mono ?_
  rintro e w2 ⟨rfl, b2⟩
  go_wp2_with fail
  refine (K4 _).mono ?_
  rintro e w3 ⟨rfl, b3⟩
  replace hr := ((hr.keep b1).keep b2).keep b3
  replace hb := keepB (keepB (keepB hb hb.size b1) (Nat.le_trans hb.size b1.size) b2) (Nat.le_trans hb.size (Nat.le_trans b1.size b2.size)) b3
  clear b1 b2 b3
  have c0 := hr.c0
  have c1 := hr.c1
  have c2 := hr.c2
  have f0 := hr.frz 0
  have f1 := hr.frz 1
  have f2 := hr.frz 2
  go_wp2
  exact bodyPost_ret (v := .agg #[.int .u64 x4, .int .u64 y4, .bool c4]) (cp_res (fn := Tryz.f68) (p := 4) Tryz.results68 _ rfl (hr.set _ _ _)) rfl ⟨rfl, set3_below hb (by omega)⟩
theorem ctmV {p : Pt} (hp : on p) (k : Nat) (hk : k < 18446744073709551616) (w : World) :
    Calls Tryz.prog 68 #[ptW p, .int .u64 k] w fun e w' => e = .returned (ptW (nt k p)) ∧ Below w.heap.size w w' := by
  have K1 := triV p
  have hr := trB_rep (t := (pX p, pY p, pZ p)) hp (rep_self p) (bitsF k (Lib.bitLen k) (Lib.bitLen k))
  rw [valB_all k (by omega)] at hr
  have K2 := fun w => mulP (pX p) (pY p) (pZ p) k w hk _ rfl
  have K4 := pntV hr
  rw [ptW_eq] at K1 K4 ⊢
  rw [ptW_eq (nt k p)]
  exact ctm_of _ _ _ _ _ _ _ _ _ _ _ _ _ w K1 K2 K4
theorem wrdP_none (w : World) :
    Calls Tryz.prog 237 #[.agg #[.int .u64 0, .int .u64 0, .bool true]] w fun e w' => e = .returned (.int .u64 0) ∧ Below w.heap.size w w' := by
  have hp := K3.new w 106 0 0 true
  have hb := (Below.refl _ w).alloc (Nat.le_refl _) (Obj.cells #[.int .u64 0, .int .u64 0, .bool true] 106)
  have c0 := hp.drew.c0
  have c1 := hp.drew.c1
  have c2 := hp.drew.c2
  go_enter Tryz.func237, Tryz.ntmps237
  go_wp2
  go_region_held3 (fun w' => w'.cell? ⟨w.heap.size, 0, none⟩ = some (.int .u64 0) ∧ w'.cell? ⟨w.heap.size, 1, none⟩ = some (.int .u64 0) ∧ w'.cell? ⟨w.heap.size, 2, none⟩ = some (.bool true)) (first | exact ⟨c0, c1, c2⟩ | exact ⟨keepC c0 b1, keepC c1 b1, keepC c2 b1⟩ | go_keep) ((go_at_call 102; refine (zpP _).mono ?_; rintro e w1 ⟨rfl, b1⟩))
  replace hb := keepB hb.drew hb.size b1
  go_wp2
  go_ret
  exact ⟨rfl, hb⟩
theorem wrdP_some (x y a b c n : Int) (w : World) (h1 : IntKind.u64.wrap (x + 4611686018427387904) = a) (h2 : y.tmod 2 = b) (h3 : IntKind.u64.wrap (2305843009213693952 * b) = c) (h4 : IntKind.u64.wrap (a + c) = n) :
    Calls Tryz.prog 237 #[.agg #[.int .u64 x, .int .u64 y, .bool false]] w fun e w' => e = .returned (.int .u64 n) ∧ Below w.heap.size w w' := by
  have hp := K3.new w 106 x y false
  have hb := (Below.refl _ w).alloc (Nat.le_refl _) (Obj.cells #[.int .u64 x, .int .u64 y, .bool false] 106)
  have c0 := hp.drew.c0
  have c1 := hp.drew.c1
  have c2 := hp.drew.c2
  go_enter Tryz.func237, Tryz.ntmps237
  go_wp2
  go_region_held3 (fun w' => w'.cell? ⟨w.heap.size, 0, none⟩ = some (.int .u64 x) ∧ w'.cell? ⟨w.heap.size, 1, none⟩ = some (.int .u64 y) ∧ w'.cell? ⟨w.heap.size, 2, none⟩ = some (.bool false)) (first | exact ⟨c0, c1, c2⟩ | exact ⟨keepC c0 b1, keepC c1 b1, keepC c2 b1⟩ | go_keep) ((go_at_call 102; refine (zpP _).mono ?_; rintro e w1 ⟨rfl, b1⟩))
  replace hb := keepB hb.drew hb.size b1
  replace hp := (hp.drew).keep b1
  clear c0 c1 c2
  have c0 := hp.c0
  have c1 := hp.c1
  go_wp2
  go_ret
  exact ⟨rfl, hb⟩
theorem wrdV : ∀ (p : Pt) (w : World), Calls Tryz.prog 237 #[ptW p] w fun e w' => e = .returned (.int .u64 (putN p : Nat)) ∧ Below w.heap.size w w'
  | none, w => wrdP_none w
  | some (x, y), w => by
    have hx := val_lt x
    have hy : (fv y).tmod 2 = ((y.val % 2 : Nat) : Int) := by
      unfold fv
      rw [Int.tmod_eq_emod_of_nonneg (by omega)]; omega
    have hz : y.val % 2 < 2 := Nat.mod_lt _ (by decide)
    refine wrdP_some (fv x) (fv y) (fv x + 4611686018427387904) _ (2305843009213693952 * ((y.val % 2 : Nat) : Int)) _ w ?_ hy ?_ ?_
    · unfold fv; rw [IntKind.wrap_u64]; omega
    · rw [IntKind.wrap_u64]; omega
    · rw [putN_some]; unfold fv; rw [IntKind.wrap_u64]
      generalize x.val = X at *
      generalize y.val % 2 = Z at *
      omega
theorem wrtX (n : Nat) (w : World) (h : n ≤ 65535) :
    Calls Tryz.prog 247 #[.int .i64 n] w fun e w' => e = .returned (.string (numB n)) ∧ Below w.heap.size w w' := by
  have L := fun w => beI_any (n : Int) 2 w (by omega) (by omega) (by omega) (by omega)
  rw [beTo2 _ h] at L
  have e1 : IntKind.u64.wrap (n : Int) = (n : Int) := by rw [IntKind.wrap_u64]; omega
  go_enter Tryz.func247, Tryz.ntmps247
  go_wp2_with fail
  refine (L _).mono ?_
  rintro e w1 ⟨rfl, b1⟩
  go_wp2
  go_ret
  exact ⟨rfl, b1⟩
theorem wrtC_of (x y n : Int) (c : Bool) (s z : ByteArray) (w : World)
    (L1 : ∀ w, Calls Tryz.prog 237 #[.agg #[.int .u64 x, .int .u64 y, .bool c]] w fun e w' => e = .returned (.int .u64 n) ∧ Below w.heap.size w w')
    (L2 : ∀ w, Calls Tryz.prog 239 #[.int .u64 n] w fun e w' => e = .returned (.string s) ∧ Below w.heap.size w w')
    (L3 : ∀ w, Calls Tryz.prog 240 #[.string s] w fun e w' => e = .returned (.string z) ∧ Below w.heap.size w w') :
    Calls Tryz.prog 238 #[.agg #[.int .u64 x, .int .u64 y, .bool c]] w fun e w' => e = .returned (.string z) ∧ Below w.heap.size w w' := by
  have hb := (Below.refl _ w).alloc (Nat.le_refl _) (Obj.cells #[.int .u64 x, .int .u64 y, .bool c] 106)
  go_enter Tryz.func238, Tryz.ntmps238
  go_wp2_with fail
  refine (L1 _).mono ?_
  rintro e w1 ⟨rfl, b1⟩
  replace hb := hb.trans (b1.mono hb.size)
  go_wp2_with fail
  refine (L2 _).mono ?_
  rintro e w2 ⟨rfl, b2⟩
  replace hb := hb.trans (b2.mono hb.size)
  go_wp2_with fail
  refine (L3 _).mono ?_
  rintro e w3 ⟨rfl, b3⟩
  replace hb := hb.trans (b3.mono hb.size)
  go_wp2
  go_ret
  exact ⟨rfl, hb⟩
theorem wrtC (p : Pt) (w : World) :
    Calls Tryz.prog 238 #[.agg #[.int .u64 (px p), .int .u64 (py p), .bool (pb p)]] w fun e w' => e = .returned (.string (sizB (ptB p))) ∧ Below w.heap.size w w' :=
  wrtC_of _ _ _ _ _ _ w (fun w => by rw [← ptW_eq]; exact wrdV p w) (fun w => putI_any (putN p) w (putN_lt p)) (fun w => wrtZ (ptB p) w (by rw [ptB_size]; omega))
theorem mthX (n : Int) (w : World) : (method 449 266 (.int .i64 n) "loop.example/s02095/impl.written").run Tryz.prog w = .ok (247, .int .i64 n) w := by kernel_rfl
theorem mthC (x y : Int) (c : Bool) (w : World) : (method 449 106 (.agg #[.int .u64 x, .int .u64 y, .bool c]) "loop.example/s02095/impl.written").run Tryz.prog w = .ok (238, .agg #[.int .u64 x, .int .u64 y, .bool c]) w := by kernel_rfl
theorem ceX (args : Array Value) (w : World) : (callFunc 247 args).run Tryz.prog w = .ok (.enter 247 args) w := by kernel_rfl
theorem ceC (args : Array Value) (w : World) : (callFunc 238 args).run Tryz.prog w = .ok (.enter 238 args) w := by kernel_rfl
theorem writX (n : Nat) (h : n ≤ 65535) : Writ (.iface 266 (.int .i64 n)) (numB n) := ⟨_, _, _, rfl, mthX n, ceX, fun w => wrtX n w h⟩
theorem writC (p : Pt) : Writ (.iface 106 (.agg #[.int .u64 (px p), .int .u64 (py p), .bool (pb p)])) (sizB (ptB p)) := ⟨_, _, _, rfl, mthC _ _ _, ceC, fun w => wrtC p w⟩
theorem rn_res {W : World} {b : Nat} {y : Int} {fn : Func} {p : Tmp} (h : fn.results = #[.cell p 117]) (tmps : Array Value) (hp : tmps.getD p undef = .pointer (some ⟨b, 0, none⟩)) (hc : RN W b y) :
    (results fn tmps).run Tryz.prog W = .ok (.agg #[.int .u64 y]) W :=
  results_mid h tmps W b 0 [.int .u64 y] _ hp hc.range Tryz.underlying117 rfl (by kernel_rfl)
theorem scaI_of (c s t : ByteArray) (z : Int) (w : World)
    (T : ∀ w, Calls Tryz.prog 122 #[.string c, .string ⟨#[72, 97, 115, 104, 84, 111, 83, 99, 97, 108, 97, 114, 45]⟩] w fun e w' => e = .returned (.string t) ∧ Below w.heap.size w w')
    (H : ∀ w', Below w.heap.size w w' → Calls Tryz.prog 179 #[.string s, .string t] w' fun e w'' => e = .returned (.tuple #[.agg #[.int .u64 z], .bool true]) ∧ Below w'.heap.size w' w'') :
    Calls Tryz.prog 140 #[.string c, .string s] w fun e w' => e = .returned (.agg #[.int .u64 z]) ∧ Below w.heap.size w w' := by
  have hr : RN (w.alloc (Obj.cells #[.int .u64 0] 117)) w.heap.size 0 := heap_alloc_new w _
  have hb := (Below.refl _ w).alloc (Nat.le_refl _) (Obj.cells #[.int .u64 0] 117)
  go_enter Tryz.func140, Tryz.ntmps140
  go_wp2_with fail
  refine (T _).mono ?_
  rintro e w1 ⟨rfl, b1⟩
  replace hr := hr.keep b1
  replace hb := hb.trans (b1.mono hb.size)
  go_wp2_with fail
  refine (H _ hb).mono ?_
  rintro e w2 ⟨rfl, b2⟩
  replace hr := (hr.keep b2).keep ((Below.refl _ w2).alloc (Nat.le_refl _) (Obj.cells #[.int .u64 z] 117))
  replace hb := hb.trans (b2.mono hb.size)
  replace hb := hb.alloc hb.size (Obj.cells #[.int .u64 z] 117)
  have d0 := hr.cell
  have f0 := hr.frz
  clear T H b1 b2
  go_wp2
  exact bodyPost_ret (v := .agg #[.int .u64 z]) (rn_res (fn := Tryz.f140) (p := 4) Tryz.results140 _ rfl (hr.set z)) rfl ⟨rfl, hb.setCell (p := ⟨w.heap.size, 0, none⟩) (Nat.le_refl _) _⟩
theorem scaI_any (s : ByteArray) (k : Nat) (w : World) (hT : TabK w) (hk : k < 3) (hs : s.size ≤ 65535) :
    Calls Tryz.prog 140 #[.string (ctxB k), .string s] w fun e w' => e = .returned (.agg #[.int .u64 (scaN s k : Nat)]) ∧ Below w.heap.size w w' := by
  have hgw : 6 < w.heap.size := World.block_lt_of_cell? w _ (hT 0 (by omega))
  have hz := ctxB_size k hk
  have e : scaT k = ⟨#[72, 97, 115, 104, 84, 111, 83, 99, 97, 108, 97, 114, 45]⟩ ++ ctxB k := tagB_ctx _ k
  have hz2 : (scaT k).size = 25 := by rw [e, ByteArray.size_append, hz]; rfl
  refine scaI_of (ctxB k) s (scaT k) _ w (fun w => ?_) (fun w' hb => ?_)
  · rw [e]
    exact tagI_any (ctxB k) _ w (by omega) (by decide)
  · exact h2sN_yes s (scaT k) w' (keepT hT hgw hb) ⟨by omega, by omega, hs⟩
end Go.Proofs.YtjmhmajfkdglnaaGreatDoor
