import Derived.Test.YtdaobioomoajfaaGreatMrg11
import Derived.Test.YtdaobioomoajfaaGreatMrg0
import Derived.Deep.RegionHeld3
import Derived.Test.YtdaobioomoajfaaGreatMrg8
import Derived.Test.YtdaobioomoajfaaGreatMrg4
import Derived.Test.YtdaobioomoajfaaGreatMrg3
import Derived.Test.YtdaobioomoajfaaGreatMrg7
import Derived.Test.YtdaobioomoajfaaGreatMrg5
set_option linter.unusedVariables false
set_option maxRecDepth 100000
set_option maxHeartbeats 16000000
namespace Go.Proofs.YtdaobioomoajfaaGreat
open Go.RowKit
theorem keepC {w1 w2 : World} {p : Addr} {v : Value} (h : w1.cell? p = some v) (b : Below w1.heap.size w1 w2) : w2.cell? p = some v := by
  by_cases hl : p.block < w1.heap.size
  · rw [← h]; unfold World.cell?; rw [b.block _ hl]
  · exfalso
    have : w1.heap[p.block]? = none := Array.getElem?_eq_none (by omega)
    simp [World.cell?, this] at h
theorem keepS {w1 : World} {p : Addr} {v u : Value} {b i : Nat} (h : w1.cell? p = some v) (hne : p.block ≠ b) : (w1.setCell ⟨b, i, none⟩ u).cell? p = some v := by
  rw [← h]; unfold World.cell?; simp [World.setCell, Array.getElem?_modify, Ne.symm hne]
theorem keepB {n : Nat} {w0 w1 w2 : World} (h : Below n w0 w1) (hn : n ≤ w1.heap.size) (b : Below w1.heap.size w1 w2) : Below n w0 w2 := h.trans (b.mono hn)
def R1 (W : World) (b : Nat) (y : Int) : Prop := W.heap[b]? = some (.cells #[.int .u64 y] 124)
section
variable {W W' : World} {b : Nat} {y : Int}
theorem R1.cell (h : R1 W b y) : W.cell? ⟨b, 0, none⟩ = some (.int .u64 y) := by unfold R1 at h; simp [World.cell?, h]
theorem R1.frz (h : R1 W b y) : W.frozen? ⟨b, 0, none⟩ = false := by unfold R1 at h; simp [World.frozen?, h]
theorem R1.lt (h : R1 W b y) : b < W.heap.size := (Array.getElem?_eq_some_iff.1 h).1
theorem R1.below {N : Nat} (h : R1 W b y) (hb : Below N W W') (hl : b < N) : R1 W' b y := (hb.block b hl).trans h
theorem R1.keep (h : R1 W b y) (hb : Below W.heap.size W W') : R1 W' b y := h.below hb h.lt
theorem R1.new (w : World) (y : Int) : R1 (w.alloc (.cells #[.int .u64 y] 124)) w.heap.size y := heap_alloc_new w _
theorem R1.alloc (h : R1 W b y) (o : Obj) : R1 (W.alloc o) b y := (Below.heap_alloc W o b h.lt).trans h
theorem R1.drew (h : R1 W b y) : R1 W.drew b y := h
theorem R1.range (h : R1 W b y) : W.rangeAt b 0 [.int .u64 y] := fun j v hj => by
  match j, hj with
  | 0, hj => cases hj; exact h.cell
theorem R1.at {b' : Nat} (h : R1 W b y) (e : b = b') : R1 W b' y := e ▸ h
theorem R1.set (h : R1 W b y) (y' : Int) : R1 (W.setCell ⟨b, 0, none⟩ (.int .u64 y')) b y' := by
  unfold R1 at *
  simp [World.setCell, Array.getElem?_modify, h]
theorem R1.other (h : R1 W b y) {b' : Nat} (hne : b ≠ b') (i : Nat) (v : Value) : R1 (W.setCell ⟨b', i, none⟩ v) b y := by
  unfold R1 at *
  rw [← h]
  simp [World.setCell, Array.getElem?_modify, Ne.symm hne]
theorem num_res {fn : Func} {p : Tmp} (h : fn.results = #[.cell p 124]) (tmps : Array Value) (hp : tmps.getD p undef = .pointer (some ⟨b, 0, none⟩)) (hc : R1 W b y) :
    (results fn tmps).run Tryz.prog W = .ok (.agg #[.int .u64 y]) W :=
  results_mid h tmps W b 0 [.int .u64 y] _ hp hc.range Tryz.underlying124 rfl (by kernel_rfl)
end
theorem mnP_lt (a b d c : Int) (w : World) (h : a < b) (hd : IntKind.u64.wrap (a - b) = d) (hc : IntKind.u64.wrap (d + 2305843009213693951) = c) :
    Calls Tryz.prog 89 #[.agg #[.int .u64 a], .agg #[.int .u64 b]] w fun e w' => e = .returned (.agg #[.int .u64 c]) ∧ Below w.heap.size w w' := by
  have hme := methP
  have hf := foldP
  obtain ⟨X, hX⟩ : ∃ X, X = ((w.alloc (Obj.cells #[.int .u64 a] 124)).alloc (Obj.cells #[.int .u64 b] 124)).alloc (Obj.cells #[.int .u64 0] 124) := ⟨_, rfl⟩
  have hX0 : X.heap[w.heap.size]? = some (.cells #[.int .u64 a] 124) := by
    rw [hX]
    exact (Below.heap_alloc _ _ _ (by simp; omega)).trans ((Below.heap_alloc _ _ _ (by simp)).trans (heap_alloc_new w _))
  have hp1 := partP hX0
  have hX1 : (X.alloc (Obj.cells #[] 122)).heap[w.heap.size]? = some (.cells #[.int .u64 a] 124) := (Below.heap_alloc _ _ _ (Array.getElem?_eq_some_iff.1 hX0).1).trans hX0
  have hp2 := partP hX1
  rw [hX] at hp1 hp2
  clear hX hX0 hX1
  go_enter Tryz.func89, Tryz.ntmps89
  go_wp2_with fail
  refine (valP _).mono ?_
  rintro e w' ⟨rfl, rfl⟩
  go_wp2
  refine bodyPost_ret (v := .agg #[.int .u64 c]) (by simp [results, Tryz.results89, go_sem]) rfl ⟨rfl, ?_⟩
  exact ((((Below.refl _ _).alloc (Nat.le_refl _) _).alloc (by simp) _).alloc (by simp; omega) _).alloc (by simp; omega) _
theorem mnP_ge (a b d : Int) (w : World) (h : b ≤ a) (hd : IntKind.u64.wrap (a - b) = d) :
    Calls Tryz.prog 89 #[.agg #[.int .u64 a], .agg #[.int .u64 b]] w fun e w' => e = .returned (.agg #[.int .u64 d]) ∧ Below w.heap.size w w' := by
  have hme := methP
  have hf := foldP
  have hlt : ¬ a < b := by omega
  clear h
  obtain ⟨X, hX⟩ : ∃ X, X = ((w.alloc (Obj.cells #[.int .u64 a] 124)).alloc (Obj.cells #[.int .u64 b] 124)).alloc (Obj.cells #[.int .u64 0] 124) := ⟨_, rfl⟩
  have hX0 : X.heap[w.heap.size]? = some (.cells #[.int .u64 a] 124) := by
    rw [hX]
    exact (Below.heap_alloc _ _ _ (by simp; omega)).trans ((Below.heap_alloc _ _ _ (by simp)).trans (heap_alloc_new w _))
  have hp1 := partP hX0
  rw [hX] at hp1
  clear hX hX0
  go_enter Tryz.func89, Tryz.ntmps89
  go_wp2
  refine bodyPost_ret (v := .agg #[.int .u64 d]) (by simp [results, Tryz.results89, go_sem]) rfl ⟨rfl, ?_⟩
  exact (((Below.refl _ _).alloc (Nat.le_refl _) _).alloc (by simp) _).alloc (by simp; omega) _
theorem mnP_any (a b c : Int) (w : World) (ha0 : 0 ≤ a) (ha : a < 2305843009213693951) (hb0 : 0 ≤ b) (hb : b < 2305843009213693951) (hc : c = if a < b then a - b + 2305843009213693951 else a - b) :
    Calls Tryz.prog 89 #[.agg #[.int .u64 a], .agg #[.int .u64 b]] w fun e w' => e = .returned (.agg #[.int .u64 c]) ∧ Below w.heap.size w w' := by
  by_cases h : a < b
  · rw [if_pos h] at hc
    exact mnP_lt a b (a - b + 18446744073709551616) c w h (by rw [IntKind.wrap_u64]; omega) (by rw [IntKind.wrap_u64]; omega)
  · rw [if_neg h] at hc
    exact mnP_ge a b c w (by omega) (by rw [IntKind.wrap_u64]; omega)
theorem ngP_of (a c : Int) (w : World)
    (M : ∀ w, Calls Tryz.prog 89 #[.agg #[.int .u64 0], .agg #[.int .u64 a]] w fun e w' => e = .returned (.agg #[.int .u64 c]) ∧ Below w.heap.size w w') :
    Calls Tryz.prog 93 #[.agg #[.int .u64 a]] w fun e w' => e = .returned (.agg #[.int .u64 c]) ∧ Below w.heap.size w w' := by
  have hf := foldP
  obtain ⟨X, hX⟩ : ∃ X, X = (w.alloc (Obj.cells #[.int .u64 a] 124)).alloc (Obj.cells #[.int .u64 0] 124) := ⟨_, rfl⟩
  have hX0 : X.heap[w.heap.size]? = some (.cells #[.int .u64 a] 124) := by
    rw [hX]
    exact (Below.heap_alloc _ _ _ (by simp)).trans (heap_alloc_new w _)
  have hp1 := partP hX0
  have hr : R1 X (w.heap.size + 1) 0 := by rw [hX]; exact (R1.new _ 0).at (by simp)
  have hbX : Below w.heap.size w X := by rw [hX]; exact ((Below.refl _ w).alloc (Nat.le_refl _) _).alloc (by simp) _
  rw [hX] at hp1 hr hbX
  clear hX hX0
  go_enter Tryz.func93, Tryz.ntmps93
  go_wp2_with fail
  refine (M _).mono ?_
  rintro e w' ⟨rfl, hb⟩
  have hr1 := hr.keep hb
  have cc := hr1.cell
  have ff := hr1.frz
  have hb2 := keepB hbX (by simp; omega) hb
  clear hb hbX hr hp1
  go_wp2
  exact bodyPost_ret (v := .agg #[.int .u64 c]) (num_res (fn := Tryz.f93) (p := 2) Tryz.results93 _ rfl (hr1.set c)) rfl ⟨rfl, hb2.setCell (p := ⟨w.heap.size + 1, 0, none⟩) (by simp) _⟩
theorem plP_of (a b d c : Int) (w : World)
    (N : ∀ w, Calls Tryz.prog 93 #[.agg #[.int .u64 b]] w fun e w' => e = .returned (.agg #[.int .u64 d]) ∧ Below w.heap.size w w')
    (M : ∀ w, Calls Tryz.prog 89 #[.agg #[.int .u64 a], .agg #[.int .u64 d]] w fun e w' => e = .returned (.agg #[.int .u64 c]) ∧ Below w.heap.size w w') :
    Calls Tryz.prog 91 #[.agg #[.int .u64 a], .agg #[.int .u64 b]] w fun e w' => e = .returned (.agg #[.int .u64 c]) ∧ Below w.heap.size w w' := by
  obtain ⟨X, hX⟩ : ∃ X, X = (((w.alloc (Obj.cells #[.int .u64 a] 124)).alloc (Obj.cells #[.int .u64 b] 124)).alloc (Obj.cells #[.int .u64 0] 124)).drew := ⟨_, rfl⟩
  have hr : R1 X (w.heap.size + 1 + 1) 0 := by rw [hX]; exact ((R1.new _ 0).drew).at (by simp)
  have hbX : Below w.heap.size w X := by rw [hX]; exact ((((Below.refl _ w).alloc (Nat.le_refl _) _).alloc (by simp) _).alloc (by simp; omega) _).drew
  have hl : w.heap.size ≤ X.heap.size := hbX.size
  rw [hX] at hr hbX hl
  clear hX
  go_enter Tryz.func91, Tryz.ntmps91
  go_wp2
  go_region_held3 (fun w' => w'.cell? ⟨w.heap.size, 0, none⟩ = some (.int .u64 a) ∧ w'.cell? ⟨w.heap.size + 1, 0, none⟩ = some (.int .u64 b)) (first | exact ⟨keepC (keepC (by simp [go_sem]) b1) b2, keepC (keepC (by simp [go_sem]) b1) b2⟩ | exact ⟨keepC (by simp [go_sem]) b1, keepC (by simp [go_sem]) b1⟩ | exact ⟨keepS (keepC (keepC (by simp [go_sem]) b1) b2) (by simp; omega), keepS (keepC (keepC (by simp [go_sem]) b1) b2) (by simp)⟩ | go_keep) (first
    | (go_at_call 93; refine (N _).mono ?_; rintro e w1 ⟨rfl, b1⟩)
    | (go_at_call 89; refine (M _).mono ?_; rintro e w2 ⟨rfl, b2⟩; have hr2 := (hr.keep b1).keep b2; have cc := hr2.cell; have ff := hr2.frz))
  go_wp2
  have hb2 := keepB (keepB hbX hl b1) (Nat.le_trans hl b1.size) b2
  exact bodyPost_ret (v := .agg #[.int .u64 c]) (num_res (fn := Tryz.f91) (p := 4) Tryz.results91 _ rfl (hr2.set c)) rfl ⟨rfl, hb2.setCell (p := ⟨w.heap.size + 1 + 1, 0, none⟩) (by simp; omega) _⟩
end Go.Proofs.YtdaobioomoajfaaGreat
namespace Go.Proofs.YtdaobioomoajfaaGreat
open Go.RowKit
theorem exP_less (x : Int) (w : World) (h1 : x < 2305843009213693951) :
    Calls Tryz.prog 84 #[.int .u64 x, .agg #[]] w fun e w' => e = .returned (.tuple #[.agg #[.int .u64 x], .bool true]) ∧ Below w.heap.size w w' := by
  have hm := methP
  have hbd := foldP
  go_enter Tryz.func84, Tryz.ntmps84
  go_wp2_with fail
  refine (valP _).mono ?_
  rintro e w' ⟨rfl, rfl⟩
  go_wp2
  refine bodyPost_ret (v := .tuple #[.agg #[.int .u64 x], .bool true]) (by simp [results, Tryz.results84, go_sem]) rfl ⟨rfl, ?_⟩
  exact (((Below.refl _ w).alloc (Nat.le_refl _) _).alloc (by simp) _).alloc (by simp; omega) _
theorem exP_more (x : Int) (w : World) (h1 : 2305843009213693951 ≤ x) :
    Calls Tryz.prog 84 #[.int .u64 x, .agg #[]] w fun e w' => e = .returned (.tuple #[.agg #[.int .u64 0], .bool false]) ∧ Below w.heap.size w w' := by
  have hm := methP
  go_enter Tryz.func84, Tryz.ntmps84
  go_wp2_with fail
  refine (valP _).mono ?_
  rintro e w' ⟨rfl, rfl⟩
  go_wp2
  refine bodyPost_ret (v := .tuple #[.agg #[.int .u64 0], .bool false]) (by simp [results, Tryz.results84, go_sem]) rfl ⟨rfl, ?_⟩
  exact (((Below.refl _ w).alloc (Nat.le_refl _) _).alloc (by simp) _).alloc (by simp; omega) _
end Go.Proofs.YtdaobioomoajfaaGreat
namespace Go.Proofs.YtdaobioomoajfaaGreat
theorem toNat_byte (n : Nat) (k : Nat) : ((n : Int) / (k : Int) % 256).toNat = n / k % 256 := by
  rw [← Int.natCast_ediv]
  omega
theorem dig (m q : Nat) (h : q = m / 256) : q * 256 + m % 256 = m := by omega
theorem numL_be8 (n : Nat) (h : n < 18446744073709551616) : numL (be8 (n : Int)) = n := by
  have e0 := toNat_byte n 72057594037927936
  have e1 := toNat_byte n 281474976710656
  have e2 := toNat_byte n 1099511627776
  have e3 := toNat_byte n 4294967296
  have e4 := toNat_byte n 16777216
  have e5 := toNat_byte n 65536
  have e6 := toNat_byte n 256
  have e7 : ((n : Int) % 256).toNat = n % 256 := by omega
  have f0 : n / 72057594037927936 % 256 = n / 72057594037927936 := by omega
  have f1 := dig (n / 281474976710656) (n / 72057594037927936) (by omega)
  have f2 := dig (n / 1099511627776) (n / 281474976710656) (by omega)
  have f3 := dig (n / 4294967296) (n / 1099511627776) (by omega)
  have f4 := dig (n / 16777216) (n / 4294967296) (by omega)
  have f5 := dig (n / 65536) (n / 16777216) (by omega)
  have f6 := dig (n / 256) (n / 65536) (by omega)
  have f7 := dig n (n / 256) rfl
  have e : numL (be8 (n : Int)) = (((((((0 * 256 + n / 72057594037927936 % 256) * 256 + n / 281474976710656 % 256) * 256 + n / 1099511627776 % 256) * 256 + n / 4294967296 % 256) * 256 + n / 16777216 % 256) * 256 + n / 65536 % 256) * 256 + n / 256 % 256) * 256 + n % 256 := by
    rw [← e0, ← e1, ← e2, ← e3, ← e4, ← e5, ← e6, ← e7]; rfl
  rw [e, f0, Nat.zero_mul, Nat.zero_add, f1, f2, f3, f4, f5, f6, f7]
theorem be8_numL (a b c d e f g h : Int) (ha : 0 ≤ a ∧ a < 256) (hb : 0 ≤ b ∧ b < 256) (hc : 0 ≤ c ∧ c < 256) (hd : 0 ≤ d ∧ d < 256) (he : 0 ≤ e ∧ e < 256) (hf : 0 ≤ f ∧ f < 256) (hg : 0 ≤ g ∧ g < 256) (hh : 0 ≤ h ∧ h < 256) :
    be8 ((numL [a, b, c, d, e, f, g, h] : Nat) : Int) = [a, b, c, d, e, f, g, h] := by
  have e1 : ((numL [a, b, c, d, e, f, g, h] : Nat) : Int) = ((((((a * 256 + b) * 256 + c) * 256 + d) * 256 + e) * 256 + f) * 256 + g) * 256 + h := by
    simp only [numL, List.foldl_cons, List.foldl_nil]
    omega
  rw [e1]
  simp only [be8, List.cons.injEq, and_true]
  refine ⟨?_, ?_, ?_, ?_, ?_, ?_, ?_, ?_⟩ <;> omega
theorem byt_inj {s t : ByteArray} (h : byt s = byt t) : s = t := by
  apply ByteArray.ext
  apply Array.ext'
  have h2 : s.data.toList.map (fun b => ((b.toNat : Nat) : Int)) = t.data.toList.map (fun b => ((b.toNat : Nat) : Int)) := by simpa [byt] using h
  exact (List.map_inj_right (fun a b hab => UInt8.toNat_inj.1 (Int.ofNat_inj.1 hab))).1 h2
theorem str8 (s : ByteArray) (hs : s.size = 8) (n : Nat) (hn : n < 18446744073709551616) : strOfNums (be8 (n : Int)) = s ↔ n = numL (byt s) := by
  constructor
  · intro h
    rw [← h, byt_str _ (be8_lt _), numL_be8 n hn]
  · intro h
    apply byt_inj
    rw [byt_str _ (be8_lt _), h]
    have hl := byt_length s
    have hb := byt_lt s
    rw [hs] at hl
    generalize byt s = l at *
    match l, hl with
    | [a, b, c, d, e, f, g, k], _ =>
      exact be8_numL a b c d e f g k (hb a (by simp)) (hb b (by simp)) (hb c (by simp)) (hb d (by simp)) (hb e (by simp)) (hb f (by simp)) (hb g (by simp)) (hb k (by simp))
end Go.Proofs.YtdaobioomoajfaaGreat
namespace Go.Proofs.YtdaobioomoajfaaGreat
open Go.RowKit M
theorem getS_len (s : ByteArray) (w : World) (h : ((s.size : Int) == 8) = false) :
    Calls Tryz.prog 37 #[.string s] w fun e w' => e = .returned (.tuple #[.agg #[.int .u64 0, .int .u64 0, .bool true], .bool false]) ∧ Below w.heap.size w w' := by
  go_enter Tryz.func37, Tryz.ntmps37
  go_wp2_with fail
  refine (zeroS _).mono ?_
  rintro e w' ⟨rfl, rfl⟩
  go_wp2
  refine bodyPost_ret (v := .tuple #[.agg #[.int .u64 0, .int .u64 0, .bool true], .bool false]) (by simp [results, Tryz.results37, go_sem]) rfl ⟨rfl, ?_⟩
  exact ((Below.refl _ w).alloc (Nat.le_refl _) _).alloc (by simp) _
theorem getS_big (s : ByteArray) (n x : Int) (w : World) (h : ((s.size : Int) == 8) = true) (hx : n.tmod 2305843009213693952 = x) (hn0 : 0 ≤ n) (hb : 2305843009213693951 ≤ x)
    (L : ∀ w, Calls Tryz.prog 38 #[.string s] w fun e w' => e = .returned (.int .u64 n) ∧ w = w') :
    Calls Tryz.prog 37 #[.string s] w fun e w' => e = .returned (.tuple #[.agg #[.int .u64 0, .int .u64 0, .bool true], .bool false]) ∧ Below w.heap.size w w' := by
  go_enter Tryz.func37, Tryz.ntmps37
  go_wp2_with fail
  refine (L _).mono ?_
  rintro e w' ⟨rfl, rfl⟩
  go_wp2_with fail
  refine (zeroS _).mono ?_
  rintro e w' ⟨rfl, rfl⟩
  go_wp2
  refine bodyPost_ret (v := .tuple #[.agg #[.int .u64 0, .int .u64 0, .bool true], .bool false]) (by simp [results, Tryz.results37, go_sem]) rfl ⟨rfl, ?_⟩
  exact ((Below.refl _ w).alloc (Nat.le_refl _) _).alloc (by simp) _
theorem getS_no (s : ByteArray) (n x z r : Int) (w : World) (h : ((s.size : Int) == 8) = true) (hx : n.tmod 2305843009213693952 = x) (hn0 : 0 ≤ n) (hb : x < 2305843009213693951)
    (L : ∀ w, Calls Tryz.prog 38 #[.string s] w fun e w' => e = .returned (.int .u64 n) ∧ w = w')
    (R : ∀ w, Calls Tryz.prog 45 #[.int .u64 x] w fun e w' => e = .returned (.int .u64 z) ∧ w = w')
    (Sq : ∀ w, Calls Tryz.prog 44 #[.int .u64 z] w fun e w' => e = .returned (.tuple #[.int .u64 r, .bool false]) ∧ w = w') :
    Calls Tryz.prog 37 #[.string s] w fun e w' => e = .returned (.tuple #[.agg #[.int .u64 0, .int .u64 0, .bool true], .bool false]) ∧ Below w.heap.size w w' := by
  go_enter Tryz.func37, Tryz.ntmps37
  go_wp2_with fail
  refine (L _).mono ?_
  rintro e w' ⟨rfl, rfl⟩
  go_wp2_with fail
  refine (R _).mono ?_
  rintro e w' ⟨rfl, rfl⟩
  go_wp2_with fail
  refine (Sq _).mono ?_
  rintro e w' ⟨rfl, rfl⟩
  go_wp2_with fail
  refine (zeroS _).mono ?_
  rintro e w' ⟨rfl, rfl⟩
  go_wp2
  refine bodyPost_ret (v := .tuple #[.agg #[.int .u64 0, .int .u64 0, .bool true], .bool false]) (by simp [results, Tryz.results37, go_sem]) rfl ⟨rfl, ?_⟩
  exact (((Below.refl _ w).alloc (Nat.le_refl _) _).alloc (by simp) _).alloc (by simp; omega) _
theorem getS_even (s : ByteArray) (n x z r : Int) (w : World) (h : ((s.size : Int) == 8) = true) (hx : n.tmod 2305843009213693952 = x) (hn0 : 0 ≤ n) (hb : x < 2305843009213693951)
    (L : ∀ w, Calls Tryz.prog 38 #[.string s] w fun e w' => e = .returned (.int .u64 n) ∧ w = w')
    (R : ∀ w, Calls Tryz.prog 45 #[.int .u64 x] w fun e w' => e = .returned (.int .u64 z) ∧ w = w')
    (Sq : ∀ w, Calls Tryz.prog 44 #[.int .u64 z] w fun e w' => e = .returned (.tuple #[.int .u64 r, .bool true]) ∧ w = w')
    (P1 : ∀ w, Calls Tryz.prog 34 #[.agg #[.int .u64 x, .int .u64 r, .bool false]] w fun e w' => e = .returned (.string s) ∧ Below w.heap.size w w') :
    Calls Tryz.prog 37 #[.string s] w fun e w' => e = .returned (.tuple #[.agg #[.int .u64 x, .int .u64 r, .bool false], .bool true]) ∧ Below w.heap.size w w' := by
  have hr : R3 ((w.alloc (Obj.cells #[.int .u64 0, .int .u64 0, .bool false] 25)).alloc (Obj.cells #[.int .u64 x, .int .u64 r, .bool false] 25)) w.heap.size 0 0 false := (R3.new w 0 0 false).alloc _
  have hp : R3 ((w.alloc (Obj.cells #[.int .u64 0, .int .u64 0, .bool false] 25)).alloc (Obj.cells #[.int .u64 x, .int .u64 r, .bool false] 25)) (w.heap.size + 1) x r false := (R3.new _ x r false).at (by simp)
  have hbl : Below w.heap.size w ((w.alloc (Obj.cells #[.int .u64 0, .int .u64 0, .bool false] 25)).alloc (Obj.cells #[.int .u64 x, .int .u64 r, .bool false] 25)) := ((Below.refl _ w).alloc (Nat.le_refl _) _).alloc (by simp) _
  go_enter Tryz.func37, Tryz.ntmps37
  go_wp2_with fail
  refine (L _).mono ?_
  rintro e w' ⟨rfl, rfl⟩
  go_wp2_with fail
  refine (R _).mono ?_
  rintro e w' ⟨rfl, rfl⟩
  go_wp2_with fail
  refine (Sq _).mono ?_
  rintro e w' ⟨rfl, rfl⟩
  go_wp2_with fail
  refine (P1 _).mono ?_
  rintro e w1 ⟨rfl, b1⟩
  replace hr := hr.keep b1
  replace hp := hp.keep b1
  replace hbl := kpB hbl hbl.size b1
  clear b1 L R Sq
  have c0 := hp.c0
  have c1 := hp.c1
  have c2 := hp.c2
  go_wp2_with fail
  refine (P1 _).mono ?_
  rintro e w2 ⟨rfl, b1⟩
  replace hr := hr.keep b1
  replace hp := hp.keep b1
  replace hbl := kpB hbl hbl.size b1
  clear b1 c0 c1 c2
  have c0 := hp.c0
  have c1 := hp.c1
  have c2 := hp.c2
  have d0 := hr.c0
  have d1 := hr.c1
  have d2 := hr.c2
  have f0 := hr.frz 0
  have f1 := hr.frz 1
  have f2 := hr.frz 2
  go_wp2
  exact bodyPost_ret (v := .tuple #[.agg #[.int .u64 x, .int .u64 r, .bool false], .bool true]) (pt_ct (fn := Tryz.f37) (p := 2) (u := 3) Tryz.results37 _ rfl (hr.set _ _ _)) rfl ⟨rfl, set3_below hbl (by omega)⟩
theorem getS_odd (s s1 s2 : ByteArray) (n x z r X2 Y2 : Int) (C2 good : Bool) (w : World) (h : ((s.size : Int) == 8) = true) (hx : n.tmod 2305843009213693952 = x) (hn0 : 0 ≤ n) (hb : x < 2305843009213693951)
    (hs1 : (s1.toList == s.toList) = false) (hs2 : (s2.toList == s.toList) = good)
    (L : ∀ w, Calls Tryz.prog 38 #[.string s] w fun e w' => e = .returned (.int .u64 n) ∧ w = w')
    (R : ∀ w, Calls Tryz.prog 45 #[.int .u64 x] w fun e w' => e = .returned (.int .u64 z) ∧ w = w')
    (Sq : ∀ w, Calls Tryz.prog 44 #[.int .u64 z] w fun e w' => e = .returned (.tuple #[.int .u64 r, .bool true]) ∧ w = w')
    (P1 : ∀ w, Calls Tryz.prog 34 #[.agg #[.int .u64 x, .int .u64 r, .bool false]] w fun e w' => e = .returned (.string s1) ∧ Below w.heap.size w w')
    (Ng : ∀ w, Calls Tryz.prog 46 #[.agg #[.int .u64 x, .int .u64 r, .bool false]] w fun e w' => e = .returned (.agg #[.int .u64 X2, .int .u64 Y2, .bool C2]) ∧ Below w.heap.size w w')
    (P2 : ∀ w, Calls Tryz.prog 34 #[.agg #[.int .u64 X2, .int .u64 Y2, .bool C2]] w fun e w' => e = .returned (.string s2) ∧ Below w.heap.size w w') :
    Calls Tryz.prog 37 #[.string s] w fun e w' => e = .returned (if good then .tuple #[.agg #[.int .u64 X2, .int .u64 Y2, .bool C2], .bool true] else .tuple #[.agg #[.int .u64 0, .int .u64 0, .bool true], .bool false]) ∧ Below w.heap.size w w' := by
  have hr : R3 ((w.alloc (Obj.cells #[.int .u64 0, .int .u64 0, .bool false] 25)).alloc (Obj.cells #[.int .u64 x, .int .u64 r, .bool false] 25)) w.heap.size 0 0 false := (R3.new w 0 0 false).alloc _
  have hp : R3 ((w.alloc (Obj.cells #[.int .u64 0, .int .u64 0, .bool false] 25)).alloc (Obj.cells #[.int .u64 x, .int .u64 r, .bool false] 25)) (w.heap.size + 1) x r false := (R3.new _ x r false).at (by simp)
  have hbl : Below w.heap.size w ((w.alloc (Obj.cells #[.int .u64 0, .int .u64 0, .bool false] 25)).alloc (Obj.cells #[.int .u64 x, .int .u64 r, .bool false] 25)) := ((Below.refl _ w).alloc (Nat.le_refl _) _).alloc (by simp) _
  go_enter Tryz.func37, Tryz.ntmps37
  go_wp2_with fail
  refine (L _).mono ?_
  rintro e w' ⟨rfl, rfl⟩
  go_wp2_with fail
  refine (R _).mono ?_
  rintro e w' ⟨rfl, rfl⟩
  go_wp2_with fail
  refine (Sq _).mono ?_
  rintro e w' ⟨rfl, rfl⟩
  go_wp2_with fail
  refine (P1 _).mono ?_
  rintro e w1 ⟨rfl, b1⟩
  replace hr := hr.keep b1
  replace hp := hp.keep b1
  replace hbl := kpB hbl hbl.size b1
  clear b1 L R Sq P1
  have c0 := hp.c0
  have c1 := hp.c1
  have c2 := hp.c2
  go_wp2_with fail
  refine (Ng _).mono ?_
  rintro e w2 ⟨rfl, b1⟩
  replace hr := hr.keep b1
  replace hp := hp.keep b1
  replace hbl := kpB hbl hbl.size b1
  clear b1 c0 c1 c2 Ng
  have c0 := hp.c0
  have c1 := hp.c1
  have c2 := hp.c2
  have f0 := hp.frz 0
  have f1 := hp.frz 1
  have f2 := hp.frz 2
  replace hr := hr.other (b' := w.heap.size + 1) (by omega) X2 Y2 C2
  have hq := hp.set X2 Y2 C2
  replace hbl := set3_below (b := w.heap.size + 1) (x := X2) (y := Y2) (c := C2) hbl (by omega)
  unfold set3 at hr hq hbl
  have k0 := hq.c0
  have k1 := hq.c1
  have k2 := hq.c2
  go_wp2_with fail
  refine (P2 _).mono ?_
  rintro e w3 ⟨rfl, b1⟩
  replace hr := hr.keep b1
  replace hq := hq.keep b1
  replace hbl := kpB hbl hbl.size b1
  clear b1 c0 c1 c2 f0 f1 f2 k0 k1 k2 P2 hp
  cases good
  · go_wp2_with fail
    refine (zeroS _).mono ?_
    rintro e w' ⟨rfl, rfl⟩
    replace hr := hr.alloc (Obj.cells #[.int .u64 0, .int .u64 0, .bool true] 25)
    replace hbl := hbl.alloc hbl.size (Obj.cells #[.int .u64 0, .int .u64 0, .bool true] 25)
    have d0 := hr.c0
    have d1 := hr.c1
    have d2 := hr.c2
    have f0 := hr.frz 0
    have f1 := hr.frz 1
    have f2 := hr.frz 2
    go_wp2
    exact bodyPost_ret (v := .tuple #[.agg #[.int .u64 0, .int .u64 0, .bool true], .bool false]) (pt_ct (fn := Tryz.f37) (p := 2) (u := 3) Tryz.results37 _ rfl (hr.set _ _ _)) rfl ⟨rfl, set3_below hbl (by omega)⟩
  · have c0 := hq.c0
    have c1 := hq.c1
    have c2 := hq.c2
    have d0 := hr.c0
    have d1 := hr.c1
    have d2 := hr.c2
    have f0 := hr.frz 0
    have f1 := hr.frz 1
    have f2 := hr.frz 2
    go_wp2
    exact bodyPost_ret (v := .tuple #[.agg #[.int .u64 X2, .int .u64 Y2, .bool C2], .bool true]) (pt_ct (fn := Tryz.f37) (p := 2) (u := 3) Tryz.results37 _ rfl (hr.set _ _ _)) rfl ⟨rfl, set3_below hbl (by omega)⟩
end Go.Proofs.YtdaobioomoajfaaGreat
