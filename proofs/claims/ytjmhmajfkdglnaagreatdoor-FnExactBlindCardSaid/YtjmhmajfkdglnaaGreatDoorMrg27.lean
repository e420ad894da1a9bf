import Derived.Test.YtjmhmajfkdglnaaGreatDoorMrg26
import Derived.Test.YtjmhmajfkdglnaaGreatDoorMrg20
import Derived.Test.YtjmhmajfkdglnaaGreatDoorMrg8
import Derived.Test.YtjmhmajfkdglnaaGreatDoorMrg21
import Derived.Test.YtjmhmajfkdglnaaGreatDoorMrg1
import Derived.Shelf.Strings.Builder1
namespace Go.Proofs.YtjmhmajfkdglnaaGreatDoor
open Go.RowKit M
set_option linter.unusedVariables false

set_option maxRecDepth 100000 in
set_option maxHeartbeats 2000000 in
theorem ctm_of (x y a b s a2 b2 s2 x4 y4 : Int) (k : Int) (c c4 : Bool) (w : World)
    (K1 : ∀ w, Calls Tryz.prog 109 #[.agg #[.int .u64 x, .int .u64 y, .bool c]] w fun e w' => e = .returned (.agg #[.int .u64 a, .int .u64 b, .int .u64 s]) ∧ Below w.heap.size w w')
    (K2 : ∀ w, Calls Tryz.prog 110 #[.agg #[.int .u64 a, .int .u64 b, .int .u64 s], .int .u64 k] w fun e w' => e = .returned (.agg #[.int .u64 a2, .int .u64 b2, .int .u64 s2]) ∧ Below w.heap.size w w')
    (K4 : ∀ w, Calls Tryz.prog 111 #[.agg #[.int .u64 a2, .int .u64 b2, .int .u64 s2]] w fun e w' => e = .returned (.agg #[.int .u64 x4, .int .u64 y4, .bool c4]) ∧ Below w.heap.size w w') :
    Calls Tryz.prog 68 #[.agg #[.int .u64 x, .int .u64 y, .bool c], .int .u64 k] w fun e w' => e = .returned (.agg #[.int .u64 x4, .int .u64 y4, .bool c4]) ∧ Below w.heap.size w w' := by
  obtain ⟨X, hX⟩ : ∃ X, X = (w.alloc (Obj.cells #[.int .u64 x, .int .u64 y, .bool c] 106)).alloc (Obj.cells #[.int .u64 0, .int .u64 0, .bool false] 106) := ⟨_, rfl⟩
  have hr : K3 X 106 (w.heap.size + 1) 0 0 false := by rw [hX]; exact (K3.new _ _ 0 0 false).at (by simp)
  have hb : Below w.heap.size w X := by rw [hX]; exact ((Below.refl _ w).alloc (Nat.le_refl _) _).alloc (by simp) _
  rw [hX] at hr hb
  clear hX
  go_enter Tryz.func68, Tryz.ntmps68
  go_wp2_with fail
  refine (K1 _).mono ?_
  rintro e w1 ⟨rfl, b1⟩
  go_wp2_with fail
  refine (K2 _).mono ?_
  rintro e w2 ⟨rfl, b2⟩
  go_wp2_with fail
  refine (K4 _).mono ?_
  rintro e w3 ⟨rfl, b3⟩
  replace hr := ((hr.keep b1).keep b2).keep b3
  replace hb := keepB (keepB (keepB hb hb.size b1) (Nat.le_trans hb.size b1.size) b2) (Nat.le_trans hb.size (Nat.le_trans b1.size b2.size)) b3
  clear b1 b2 b3
  have c0 := hr.c0
  have c1 := hr.c1
  have c2 := hr.c2
  have f0 := hr.frz 0
  have f1 := hr.frz 1
  have f2 := hr.frz 2
  go_wp2
  exact bodyPost_ret (v := .agg #[.int .u64 x4, .int .u64 y4, .bool c4]) (cp_res (fn := Tryz.f68) (p := 4) Tryz.results68 _ rfl (hr.set _ _ _)) rfl ⟨rfl, set3_below hb (by omega)⟩
theorem ctmV {p : Pt} (hp : on p) (k : Nat) (hk : k < 18446744073709551616) (w : World) :
    Calls Tryz.prog 68 #[ptW p, .int .u64 k] w fun e w' => e = .returned (ptW (nt k p)) ∧ Below w.heap.size w w' := by
  have K1 := triV p
  have hr := trB_rep (t := (pX p, pY p, pZ p)) hp (rep_self p) (bitsF k (Lib.bitLen k) (Lib.bitLen k))
  rw [valB_all k (by omega)] at hr
  have K2 := fun w => mulP (pX p) (pY p) (pZ p) k w hk _ rfl
  have K4 := pntV hr
  rw [ptW_eq] at K1 K4 ⊢
  rw [ptW_eq (nt k p)]
  exact ctm_of _ _ _ _ _ _ _ _ _ _ _ _ _ w K1 K2 K4

end Go.Proofs.YtjmhmajfkdglnaaGreatDoor

namespace Go.Proofs.YtjmhmajfkdglnaaGreatDoor
open Go.RowKit M
set_option linter.unusedVariables false

set_option maxRecDepth 100000 in
set_option maxHeartbeats 2000000 in
theorem wrdP_none (w : World) :
    Calls Tryz.prog 237 #[.agg #[.int .u64 0, .int .u64 0, .bool true]] w fun e w' => e = .returned (.int .u64 0) ∧ Below w.heap.size w w' := by
  have hp := K3.new w 106 0 0 true
  have hb := (Below.refl _ w).alloc (Nat.le_refl _) (Obj.cells #[.int .u64 0, .int .u64 0, .bool true] 106)
  have c0 := hp.drew.c0
  have c1 := hp.drew.c1
  have c2 := hp.drew.c2
  go_enter Tryz.func237, Tryz.ntmps237
  go_wp2
  go_region_held3 (fun w' => w'.cell? ⟨w.heap.size, 0, none⟩ = some (.int .u64 0) ∧ w'.cell? ⟨w.heap.size, 1, none⟩ = some (.int .u64 0) ∧ w'.cell? ⟨w.heap.size, 2, none⟩ = some (.bool true)) (first | exact ⟨c0, c1, c2⟩ | exact ⟨keepC c0 b1, keepC c1 b1, keepC c2 b1⟩ | go_keep) ((go_at_call 102; refine (zpP _).mono ?_; rintro e w1 ⟨rfl, b1⟩))
  replace hb := keepB hb.drew hb.size b1
  go_wp2
  go_ret
  exact ⟨rfl, hb⟩
set_option maxRecDepth 100000 in
set_option maxHeartbeats 2000000 in
theorem wrdP_some (x y a b c n : Int) (w : World) (h1 : IntKind.u64.wrap (x + 4611686018427387904) = a) (h2 : y.tmod 2 = b) (h3 : IntKind.u64.wrap (2305843009213693952 * b) = c) (h4 : IntKind.u64.wrap (a + c) = n) :
    Calls Tryz.prog 237 #[.agg #[.int .u64 x, .int .u64 y, .bool false]] w fun e w' => e = .returned (.int .u64 n) ∧ Below w.heap.size w w' := by
  have hp := K3.new w 106 x y false
  have hb := (Below.refl _ w).alloc (Nat.le_refl _) (Obj.cells #[.int .u64 x, .int .u64 y, .bool false] 106)
  have c0 := hp.drew.c0
  have c1 := hp.drew.c1
  have c2 := hp.drew.c2
  go_enter Tryz.func237, Tryz.ntmps237
  go_wp2
  go_region_held3 (fun w' => w'.cell? ⟨w.heap.size, 0, none⟩ = some (.int .u64 x) ∧ w'.cell? ⟨w.heap.size, 1, none⟩ = some (.int .u64 y) ∧ w'.cell? ⟨w.heap.size, 2, none⟩ = some (.bool false)) (first | exact ⟨c0, c1, c2⟩ | exact ⟨keepC c0 b1, keepC c1 b1, keepC c2 b1⟩ | go_keep) ((go_at_call 102; refine (zpP _).mono ?_; rintro e w1 ⟨rfl, b1⟩))
  replace hb := keepB hb.drew hb.size b1
  replace hp := (hp.drew).keep b1
  clear c0 c1 c2
  have c0 := hp.c0
  have c1 := hp.c1
  go_wp2
  go_ret
  exact ⟨rfl, hb⟩
theorem wrdV : ∀ (p : Pt) (w : World), Calls Tryz.prog 237 #[ptW p] w fun e w' => e = .returned (.int .u64 (putN p : Nat)) ∧ Below w.heap.size w w'
  | none, w => wrdP_none w
  | some (x, y), w => by
    have hx := val_lt x
    have hy : (fv y).tmod 2 = ((y.val % 2 : Nat) : Int) := by
      unfold fv
      rw [Int.tmod_eq_emod_of_nonneg (by omega)]; omega
    have hz : y.val % 2 < 2 := Nat.mod_lt _ (by decide)
    refine wrdP_some (fv x) (fv y) (fv x + 4611686018427387904) _ (2305843009213693952 * ((y.val % 2 : Nat) : Int)) _ w ?_ hy ?_ ?_
    · unfold fv; rw [IntKind.wrap_u64]; omega
    · rw [IntKind.wrap_u64]; omega
    · rw [putN_some]; unfold fv; rw [IntKind.wrap_u64]
      generalize x.val = X at *
      generalize y.val % 2 = Z at *
      omega
end Go.Proofs.YtjmhmajfkdglnaaGreatDoor

/-
  The program's parts of a transcript.
-/
namespace Go.Proofs.YtjmhmajfkdglnaaGreatDoor
open Go.RowKit M
set_option linter.unusedVariables false

theorem beTo2 (n : Nat) (h : n ≤ 65535) : strOfNums (beTo (n : Int) 2) = numB n := by
  unfold numB
  have e : beTo (n : Int) 2 = [((n / 256 % 256 : Nat) : Int), ((n % 256 : Nat) : Int)] := by
    simp only [beTo]
    simp
  rw [e]
set_option maxRecDepth 100000 in
theorem wrtZ (s : ByteArray) (w : World) (h : s.size ≤ 65535) :
    Calls Tryz.prog 240 #[.string s] w fun e w' => e = .returned (.string (sizB s)) ∧ Below w.heap.size w w' := by
  have L := fun w => beI_any (s.size : Int) 2 w (by omega) (by omega) (by omega) (by omega)
  rw [beTo2 _ h] at L
  have e1 : IntKind.u64.wrap (s.size : Int) = (s.size : Int) := by rw [IntKind.wrap_u64]; omega
  have hs : sizB s = numB s.size ++ s := rfl
  have hz := numB_size s.size
  rw [hs]
  generalize numB s.size = T at *
  clear hs
  go_enter Tryz.func240, Tryz.ntmps240
  go_wp2_with fail
  refine (L _).mono ?_
  rintro e w1 ⟨rfl, b1⟩
  go_wp2
  go_ret
  exact ⟨rfl, b1⟩
set_option maxRecDepth 100000 in
theorem wrtP (s : ByteArray) (w : World) :
    Calls Tryz.prog 245 #[.string s] w fun e w' => e = .returned (.string s) ∧ Below w.heap.size w w' := by
  go_enter Tryz.func245, Tryz.ntmps245
  go_wp2
  go_ret
  exact ⟨rfl, Below.refl _ _⟩
set_option maxRecDepth 100000 in
theorem wrtX (n : Nat) (w : World) (h : n ≤ 65535) :
    Calls Tryz.prog 247 #[.int .i64 n] w fun e w' => e = .returned (.string (numB n)) ∧ Below w.heap.size w w' := by
  have L := fun w => beI_any (n : Int) 2 w (by omega) (by omega) (by omega) (by omega)
  rw [beTo2 _ h] at L
  have e1 : IntKind.u64.wrap (n : Int) = (n : Int) := by rw [IntKind.wrap_u64]; omega
  go_enter Tryz.func247, Tryz.ntmps247
  go_wp2_with fail
  refine (L _).mono ?_
  rintro e w1 ⟨rfl, b1⟩
  go_wp2
  go_ret
  exact ⟨rfl, b1⟩
set_option maxRecDepth 100000 in
theorem wrtC_of (x y n : Int) (c : Bool) (s z : ByteArray) (w : World)
    (L1 : ∀ w, Calls Tryz.prog 237 #[.agg #[.int .u64 x, .int .u64 y, .bool c]] w fun e w' => e = .returned (.int .u64 n) ∧ Below w.heap.size w w')
    (L2 : ∀ w, Calls Tryz.prog 239 #[.int .u64 n] w fun e w' => e = .returned (.string s) ∧ Below w.heap.size w w')
    (L3 : ∀ w, Calls Tryz.prog 240 #[.string s] w fun e w' => e = .returned (.string z) ∧ Below w.heap.size w w') :
    Calls Tryz.prog 238 #[.agg #[.int .u64 x, .int .u64 y, .bool c]] w fun e w' => e = .returned (.string z) ∧ Below w.heap.size w w' := by
  have hb := (Below.refl _ w).alloc (Nat.le_refl _) (Obj.cells #[.int .u64 x, .int .u64 y, .bool c] 106)
  go_enter Tryz.func238, Tryz.ntmps238
  go_wp2_with fail
  refine (L1 _).mono ?_
  rintro e w1 ⟨rfl, b1⟩
  replace hb := hb.trans (b1.mono hb.size)
  go_wp2_with fail
  refine (L2 _).mono ?_
  rintro e w2 ⟨rfl, b2⟩
  replace hb := hb.trans (b2.mono hb.size)
  go_wp2_with fail
  refine (L3 _).mono ?_
  rintro e w3 ⟨rfl, b3⟩
  replace hb := hb.trans (b3.mono hb.size)
  go_wp2
  go_ret
  exact ⟨rfl, hb⟩
theorem wrtC (p : Pt) (w : World) :
    Calls Tryz.prog 238 #[.agg #[.int .u64 (px p), .int .u64 (py p), .bool (pb p)]] w fun e w' => e = .returned (.string (sizB (ptB p))) ∧ Below w.heap.size w w' :=
  wrtC_of _ _ _ _ _ _ w (fun w => by rw [← ptW_eq]; exact wrdV p w) (fun w => putI_any (putN p) w (putN_lt p)) (fun w => wrtZ (ptB p) w (by rw [ptB_size]; omega))

/-- an interface value that writes itself as s -/
def Writ (v : Value) (s : ByteArray) : Prop := ∃ (T : TypeId) (x : Value) (F : FuncId), v = .iface T x ∧ (∀ w, (method 449 T x "loop.example/s02095/impl.written").run Tryz.prog w = .ok (F, x) w) ∧
  (∀ (args : Array Value) (w : World), (callFunc F args).run Tryz.prog w = .ok (.enter F args) w) ∧ ∀ w, Calls Tryz.prog F #[x] w fun e w' => e = .returned (.string s) ∧ Below w.heap.size w w'
theorem mthZ (s : ByteArray) (w : World) : (method 449 208 (.string s) "loop.example/s02095/impl.written").run Tryz.prog w = .ok (240, .string s) w := by kernel_rfl
theorem mthP (s : ByteArray) (w : World) : (method 449 210 (.string s) "loop.example/s02095/impl.written").run Tryz.prog w = .ok (245, .string s) w := by kernel_rfl
theorem mthX (n : Int) (w : World) : (method 449 266 (.int .i64 n) "loop.example/s02095/impl.written").run Tryz.prog w = .ok (247, .int .i64 n) w := by kernel_rfl
theorem mthC (x y : Int) (c : Bool) (w : World) : (method 449 106 (.agg #[.int .u64 x, .int .u64 y, .bool c]) "loop.example/s02095/impl.written").run Tryz.prog w = .ok (238, .agg #[.int .u64 x, .int .u64 y, .bool c]) w := by kernel_rfl
theorem ceZ (args : Array Value) (w : World) : (callFunc 240 args).run Tryz.prog w = .ok (.enter 240 args) w := by kernel_rfl
theorem ceP (args : Array Value) (w : World) : (callFunc 245 args).run Tryz.prog w = .ok (.enter 245 args) w := by kernel_rfl
theorem ceX (args : Array Value) (w : World) : (callFunc 247 args).run Tryz.prog w = .ok (.enter 247 args) w := by kernel_rfl
theorem ceC (args : Array Value) (w : World) : (callFunc 238 args).run Tryz.prog w = .ok (.enter 238 args) w := by kernel_rfl
theorem writZ (s : ByteArray) (h : s.size ≤ 65535) : Writ (.iface 208 (.string s)) (sizB s) := ⟨_, _, _, rfl, mthZ s, ceZ, fun w => wrtZ s w h⟩
theorem writP (s : ByteArray) : Writ (.iface 210 (.string s)) s := ⟨_, _, _, rfl, mthP s, ceP, fun w => wrtP s w⟩
theorem writX (n : Nat) (h : n ≤ 65535) : Writ (.iface 266 (.int .i64 n)) (numB n) := ⟨_, _, _, rfl, mthX n, ceX, fun w => wrtX n w h⟩
theorem writC (p : Pt) : Writ (.iface 106 (.agg #[.int .u64 (px p), .int .u64 (py p), .bool (pb p)])) (sizB (ptB p)) := ⟨_, _, _, rfl, mthC _ _ _, ceC, fun w => wrtC p w⟩
end Go.Proofs.YtjmhmajfkdglnaaGreatDoor
