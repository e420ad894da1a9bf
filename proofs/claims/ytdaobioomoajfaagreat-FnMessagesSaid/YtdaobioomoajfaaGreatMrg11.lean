import Derived.RangeFuncNested
import Derived.RangeFuncBound
import Derived.RangeFuncCalls
import Derived.RangeFuncLeaves
import Derived.Shelf.Abstract
import Derived.Shelf.RegionOpen
import Derived.WalkKit
import Derived.OwnWalkIn
import Derived.TacticsInMore
import Derived.LoopNIn
import Derived.LoopIn
import Derived.Test.YtdaobioomoajfaaGreatMrg7
import Derived.Test.YtdaobioomoajfaaGreatMrg0
import Derived.RangeFuncFrom
import Derived.Deep.RegionHeld3
set_option linter.unusedVariables false
set_option maxRecDepth 100000
set_option maxHeartbeats 16000000
namespace Go.Proofs.YtdaobioomoajfaaGreat
open Go.RowKit Go.Shelf
attribute [local go_sem] Oper.semAt_some
def bitsF (e L : Nat) : Nat → List Bool
  | 0 => []
  | j + 1 => bitsF e L j ++ [decide (e / 2 ^ (L - (j + 1)) % 2 = 1)]
theorem bitsF_length (e L : Nat) : ∀ j, (bitsF e L j).length = j
  | 0 => rfl
  | j + 1 => by simp [bitsF, bitsF_length e L j]
theorem and1 (z : Nat) (h : z < 18446744073709551616) : bits .and .u64 (z : Int) 1 = ((z % 2 : Nat) : Int) := by
  have := bits_and_u64_nat z 1 h (by decide)
  rwa [show z &&& 1 = z % 2 from Nat.and_two_pow_sub_one_eq_mod z 1] at this
theorem bit_eq (e i : Nat) (he : e < 18446744073709551616) : (bits .and .u64 ((e : Int) / 2 ^ i) 1 == 1) = decide (e / 2 ^ i % 2 = 1) := by
  have e1 : (e : Int) / 2 ^ i = ((e / 2 ^ i : Nat) : Int) := by simp
  rw [e1, and1 _ (Nat.lt_of_le_of_lt (Nat.div_le_self _ _) he)]
  generalize e / 2 ^ i % 2 = z
  by_cases h : z = 1
  · subst h; rfl
  · simp [h]; omega
theorem bit_stops (n : Nat) (hn : 1 ≤ n) (e Be : Nat) (he : e < 18446744073709551616) (w : World) (hc : w.cell? ⟨Be, 0, none⟩ = some (.int .u64 e)) (hB : Be < w.heap.size) :
    SeqStopsK Fence.wide n Tryz.prog 109 #[.pointer (some ⟨Be, 0, none⟩)] (fun b : Bool => #[.bool b]) (fun W W' => W.cell? ⟨Be, 0, none⟩ = some (.int .u64 e) → W'.cell? ⟨Be, 0, none⟩ = some (.int .u64 e))
      (fun xs => xs = bitsF e (Lib.bitLen e) (Lib.bitLen e)) (fun _ => True) 64 w := fun l J Jx W hW _ _ hY h0 => by
  have hcW : W.cell? ⟨Be, 0, none⟩ = some (.int .u64 e) := (hW.cell (p := ⟨Be, 0, none⟩) hB).trans hc
  have hL := len_nat e he
  have hl := len_le e (by omega)
  have hbe := bit_eq e
  generalize Lib.bitLen e = L at *
  refine callsIn_of_wp Tryz.func109 rfl trivial ?_ rfl
  simp only [Tryz.ntmps109, List.size_toArray, List.length_cons, List.length_nil, Nat.reduceAdd, Nat.reduceSub, Array.replicate_succ, Array.replicate_zero, List.push_toArray, List.append_toArray, List.nil_append, List.cons_append]
  gi_wp2_with (refine ⟨trivial, ?_⟩; gi_at_call 94; refine (callsIn_wide.2 (hL _)).mono ?_; rintro e w' ⟨rfl, rfl⟩)
  clear hL
  gi_loopw [3] (fun i wr => ∃ (k : Nat) (x : Int), x = (k : Int) - 1 ∧ k ≤ L ∧ i = .int .i64 x ∧ wr.cell? ⟨Be, 0, none⟩ = some (.int .u64 e) ∧ J (bitsF e L (L - k)) wr) (fun i _ => (intOf i + 1).toNat)
  case atStart => exact ⟨L, (L : Int) - 1, rfl, Nat.le_refl _, rfl, hcW, by rw [Nat.sub_self]; exact h0⟩
  case round =>
    obtain ⟨k, x, hx, hk, rfl, hcr, hJ⟩ := hrel
    rcases k with _ | j
    · have hneg : ¬ ((0 : Int) ≤ x) := by omega
      clear hx
      gi_wp2
      go_end0
      exact ⟨⟨_, rfl⟩, .inl hJ⟩
    · obtain rfl : x = (j : Int) := by omega
      clear hx
      have hbj := hbe j he
      have hst : bitsF e L (L - j) = bitsF e L (L - (j + 1)) ++ [decide (e / 2 ^ j % 2 = 1)] := by
        have e1 : L - j = L - (j + 1) + 1 := by omega
        rw [e1, bitsF, show L - (L - (j + 1) + 1) = j by omega]
      generalize decide (e / 2 ^ j % 2 = 1) = bb at *
      obtain ⟨fn, tmps, assign, body, hy, hR⟩ := hY _ bb wr hJ (by rw [bitsF_length]; omega)
      rw [← hst] at hR
      clear hY hbe hst
      gi_wp2
      refine hR.mono ?_
      rintro e' W3 (⟨rfl, hJ3, hk3⟩ | ⟨rfl, hJx3⟩)
      · have hc3 := hk3 hcr
        gi_wp2
        go_roundw
        case rel => exact ⟨j, (j : Int) - 1, rfl, by omega, rfl, hc3, hJ3⟩
        case measure => simp [intOf]
      · gi_wp2
        refine bodyPost_ret (results_none rfl _ _ _) rfl ?_
        exact ⟨⟨_, rfl⟩, .inr ⟨_, trivial, hJx3⟩⟩
theorem bits_of (e : Nat) (w : World) :
    Calls Tryz.prog 108 #[.int .u64 e] w fun r w' => r = .returned (.func (.func 109) #[] #[.pointer (some ⟨w.heap.size, 0, none⟩)]) ∧ w' = w.alloc (.cells #[.int .u64 e] 23) := by
  go_enter Tryz.func108, Tryz.ntmps108
  go_wp2
  go_ret
  exact ⟨rfl, rfl⟩
end Go.Proofs.YtdaobioomoajfaaGreat
namespace Go.Proofs.YtdaobioomoajfaaGreat
open Go.RowKit Go.Shelf
attribute [local go_sem] Oper.semAt_some
def valB (l : List Bool) : Nat := l.foldl (fun v b => 2 * v + b.toNat) 0
theorem valB_snoc (l : List Bool) (b : Bool) : valB (l ++ [b]) = 2 * valB l + b.toNat := by simp [valB]
theorem valB_bits (e L : Nat) : ∀ j, j ≤ L → e / 2 ^ L = 0 → valB (bitsF e L j) = e / 2 ^ (L - j)
  | 0, _, h => by simp [bitsF, valB, h]
  | j + 1, hj, h => by
    rw [bitsF, valB_snoc, valB_bits e L j (by omega) h]
    have e1 : L - j = L - (j + 1) + 1 := by omega
    rw [e1]
    generalize L - (j + 1) = i
    have : e / 2 ^ (i + 1) = e / 2 ^ i / 2 := by rw [Nat.pow_succ, Nat.div_div_eq_div_mul]
    rw [this]
    generalize e / 2 ^ i = z
    by_cases hz : z % 2 = 1
    · simp [hz]; omega
    · simp [hz]; omega
theorem valB_all (e : Nat) (he : e < 2 ^ 64) : valB (bitsF e (Lib.bitLen e) (Lib.bitLen e)) = e := by
  have h : e < 2 ^ Lib.bitLen e := len_up 64 e he
  rw [valB_bits e _ _ (Nat.le_refl _) (Nat.div_eq_of_lt h), Nat.sub_self, Nat.pow_zero, Nat.div_one]
theorem cell_new1 (w : World) (v : Value) (t : TypeId) {b : Nat} (e : w.heap.size = b) : (w.alloc (.cells #[v] t)).cell? ⟨b, 0, none⟩ = some v := by subst e; rw [World.cell?, World.alloc_heap_new w _]; rfl
theorem setCell_heap (W : World) (b i : Nat) (v : Value) (k : Nat) (h : k ≠ b) : (W.setCell ⟨b, i, none⟩ v).heap[k]? = W.heap[k]? := by
  simp [World.setCell, Array.getElem?_modify, Ne.symm h]
theorem keeps_below {W W' : World} (h : Below W.heap.size W W') : KeepsOthers W W' := ⟨h.size, fun k o hk _ => (h.block k (Array.getElem?_eq_some_iff.1 hk).1).trans hk⟩
theorem pow_step0 (a m c d v : Nat) (hc : c = a ^ v % m) (hd : d = c * c % m) : d = a ^ (2 * v) % m := by
  rw [hd, hc, Nat.two_mul, Nat.pow_add, ← Nat.mul_mod]
theorem pow_step1 (a m c d d2 v : Nat) (hc : c = a ^ v % m) (hd : d = c * c % m) (hd2 : d2 = d * a % m) : d2 = a ^ (2 * v + 1) % m := by
  rw [hd2, pow_step0 a m c d v hc hd, Nat.mod_mul_mod, Nat.pow_succ]
end Go.Proofs.YtdaobioomoajfaaGreat
namespace Go.Proofs.YtdaobioomoajfaaGreat
open Go.RowKit
theorem methP (w : World) : (method 250 122 (.agg #[]) "loop.example/s02095/impl.value").run Tryz.prog w = .ok (118, .agg #[]) w := by kernel_rfl
theorem valP (w : World) :
    Calls Tryz.prog 118 #[.agg #[]] w fun e w' => e = .returned (.int .u64 2305843009213693951) ∧ w' = w.alloc (.cells #[] 122) := by
  go_enter Tryz.func118, Tryz.ntmps118
  go_wp2
  go_ret
  exact ⟨rfl, rfl⟩
theorem foldP : Array.foldl (fun (cs : Array Value) (x : Value × Nat) => cs.setIfInBounds x.snd x.fst) #[Value.int IntKind.u64 0] (#[] : Array Value).zipIdx 0 0 = #[Value.int .u64 0] := rfl
theorem redP_one (w : World) :
    Calls Tryz.prog 90 #[.int .u64 1, .agg #[]] w fun e w' => e = .returned (.agg #[.int .u64 1]) ∧ w' = (((w.alloc (.cells #[] 122)).alloc (.cells #[.int .u64 1] 124)).alloc (.cells #[] 122)).drew := by
  have hm := methP
  have hf := foldP
  have V := valP
  go_enter Tryz.func90, Tryz.ntmps90
  go_wp2
  go_region_held3 (fun _ => True) (trivial) ((go_simp; go_at_call 118; refine (V _).mono ?_; rintro e w' ⟨rfl, rfl⟩))
  go_wp2
  refine bodyPost_ret (v := .agg #[.int .u64 1]) (by simp [results, Tryz.results90, go_sem]) rfl ⟨rfl, rfl⟩
theorem cellsP : Tryz.prog.cellsOf 124 = 1 := by kernel_rfl
theorem byteP : byteOfCell Tryz.prog Tryz.prog.depth 124 0 = some 0 := by kernel_rfl
theorem partP {W : World} {b : Nat} {cs : Array Value} (hW : W.heap[b]? = some (.cells cs 124)) : (partAt ⟨b, 0, none⟩ 0 0).run Tryz.prog W = .ok ⟨b, 0, none⟩ W := by
  have h : (byteOf ⟨b, 0, none⟩).run Tryz.prog W = .ok 0 W := by
    have hs : W.shape? b = some (124, cs.size) := by simp [World.shape?, hW]
    simp [byteOf, noView, viewAt, shape, program, Sem.run, hs, cellsP, byteP, go_sem]
  simp [partAt, h, go_sem]
theorem timP_any (a b : Nat) (w : World) (ha : a < 2305843009213693951) (hb : b < 2305843009213693951) :
    Calls Tryz.prog 85 #[.agg #[.int .u64 a], .agg #[.int .u64 b]] w fun e w' => e = .returned (.agg #[.int .u64 (a * b % 2305843009213693951 : Nat)]) ∧ Below w.heap.size w w' := by
  have hme := methP
  have hf := foldP
  have M := mul64_any a b (by omega) (by omega)
  have D := fun w => div_any (a * b / 18446744073709551616) (a * b % 18446744073709551616) 2305843009213693951 w (by
    rw [Nat.div_lt_iff_lt_mul (by decide)]
    have : a * b ≤ 2305843009213693950 * 2305843009213693950 := Nat.mul_le_mul (by omega) (by omega)
    omega) (by decide) (Nat.mod_lt _ (by decide))
  have e : a * b / 18446744073709551616 * 18446744073709551616 + a * b % 18446744073709551616 = a * b := by omega
  rw [e] at D
  clear e
  generalize a * b / 18446744073709551616 = hi at *
  generalize a * b % 18446744073709551616 = lo at *
  obtain ⟨c, hc⟩ : ∃ c, c = a * b % 2305843009213693951 := ⟨_, rfl⟩
  rw [← hc] at D ⊢
  clear hc ha hb
  obtain ⟨X, hX⟩ : ∃ X, X = ((w.alloc (Obj.cells #[.int .u64 (a : Int)] 124)).alloc (Obj.cells #[.int .u64 (b : Int)] 124)).alloc (Obj.cells #[.int .u64 0] 124) := ⟨_, rfl⟩
  have hX0 : X.heap[w.heap.size]? = some (.cells #[.int .u64 (a : Int)] 124) := by
    rw [hX]
    exact (Below.heap_alloc _ _ _ (by simp; omega)).trans ((Below.heap_alloc _ _ _ (by simp)).trans (heap_alloc_new w _))
  have hp1 := partP hX0
  have hX1 : (X.alloc (Obj.cells #[] 122)).heap[w.heap.size]? = some (.cells #[.int .u64 (a : Int)] 124) := (Below.heap_alloc _ _ _ (Array.getElem?_eq_some_iff.1 hX0).1).trans hX0
  have hp2 := partP hX1
  have hp3 := partP (W := (X.alloc (Obj.cells #[] 122)).drew) hX1
  rw [hX] at hp1 hp2 hp3
  clear hX hX0 hX1
  go_enter Tryz.func85, Tryz.ntmps85
  go_wp2_with fail
  refine (M _).mono ?_
  rintro e w' ⟨rfl, rfl⟩
  go_wp2_with fail
  refine (valP _).mono ?_
  rintro e w' ⟨rfl, rfl⟩
  go_wp2_with fail
  refine (D _).mono ?_
  rintro e w' ⟨⟨z, rfl⟩, rfl | rfl⟩
  · go_wp2
    refine bodyPost_ret (v := .agg #[.int .u64 c]) (by simp [results, Tryz.results85, go_sem]) rfl ⟨rfl, ?_⟩
    exact ((((Below.refl _ _).alloc (Nat.le_refl _) _).alloc (by simp) _).alloc (by simp; omega) _).alloc (by simp; omega) _
  · go_wp2
    refine bodyPost_ret (v := .agg #[.int .u64 c]) (by simp [results, Tryz.results85, go_sem]) rfl ⟨rfl, ?_⟩
    exact (((((Below.refl _ _).alloc (Nat.le_refl _) _).alloc (by simp) _).alloc (by simp; omega) _).alloc (by simp; omega) _).drew
end Go.Proofs.YtdaobioomoajfaaGreat
namespace Go.Proofs.YtdaobioomoajfaaGreat
open Go.RowKit Go.Shelf
attribute [local go_sem] Oper.semAt_some
def Rp (W : World) (t : TypeId) (b y : Nat) : Prop := W.heap[b]? = some (.cells #[.int .u64 y] t)
theorem Rp.cell {W : World} {t : TypeId} {b y : Nat} (h : Rp W t b y) : W.cell? ⟨b, 0, none⟩ = some (.int .u64 y) := by unfold Rp at h; simp [World.cell?, h]
theorem Rp.frz {W : World} {t : TypeId} {b y : Nat} (h : Rp W t b y) : W.frozen? ⟨b, 0, none⟩ = false := by unfold Rp at h; simp [World.frozen?, h]
theorem Rp.lt {W : World} {t : TypeId} {b y : Nat} (h : Rp W t b y) : b < W.heap.size := (Array.getElem?_eq_some_iff.1 h).1
theorem Rp.own {β : Type} (B : Nat) (t : TypeId) (b : Nat) (g : β → Nat) : OwnFrom B (fun s W => Rp W t b (g s)) := fun s W W' row hs hg hr => by
  refine (hg.block b hs.lt (fun e => ?_)).trans hs
  obtain ⟨-, o, ho, hc⟩ := hr b e.symm
  rw [show W.heap[b]? = _ from hs] at ho
  cases ho; cases hc
theorem Rp.below {W W' : World} {t : TypeId} {b y N : Nat} (h : Rp W t b y) (hb : Below N W W') (hl : b < N) : Rp W' t b y := (hb.block b hl).trans h
theorem Rp.new (w : World) (t : TypeId) (y : Nat) : Rp (w.alloc (.cells #[.int .u64 y] t)) t w.heap.size y := World.alloc_heap_new w _
theorem Rp.alloc {W : World} {t : TypeId} {b y : Nat} (h : Rp W t b y) (o : Obj) : Rp (W.alloc o) t b y := (Below.heap_alloc W o b h.lt).trans h
theorem Rp.drew {W : World} {t : TypeId} {b y : Nat} (h : Rp W t b y) : Rp W.drew t b y := h
theorem Rp.range {W : World} {t : TypeId} {b y : Nat} (h : Rp W t b y) : W.rangeAt b 0 [.int .u64 y] := fun j v hj => by
  match j, hj with
  | 0, hj => cases hj; exact h.cell
theorem Rp.at {W : World} {t : TypeId} {b b' y : Nat} (h : Rp W t b y) (e : b = b') : Rp W t b' y := e ▸ h
theorem Rp.set {W : World} {t : TypeId} {b y : Nat} (h : Rp W t b y) (y' : Nat) : Rp (W.setCell ⟨b, 0, none⟩ (.int .u64 y')) t b y' := by
  unfold Rp at *
  simp [World.setCell, Array.getElem?_modify, h]
theorem Rp.other {W : World} {t : TypeId} {b y : Nat} (h : Rp W t b y) {b' : Nat} (hne : b ≠ b') (v : Value) : Rp (W.setCell ⟨b', 0, none⟩ v) t b y := by
  unfold Rp at *
  rw [setCell_heap _ _ _ _ _ hne]; exact h
theorem set_cell (W : World) (b : Nat) (v : Value) {k : Nat} (hne : k ≠ b) : (W.setCell ⟨b, 0, none⟩ v).cell? ⟨k, 0, none⟩ = W.cell? ⟨k, 0, none⟩ :=
  World.cell?_of_block (setCell_heap _ _ _ _ _ hne)
theorem powP_any (a e : Nat) (w : World) (ha : a < 2305843009213693951) (he : e < 18446744073709551616) :
    Calls Tryz.prog 107 #[.agg #[.int .u64 a], .int .u64 e] w fun r w' => r = .returned (.agg #[.int .u64 (a ^ e % 2305843009213693951 : Nat)]) ∧ Below w.heap.size w w' := by
  obtain ⟨res, hres⟩ : ∃ res, Hid (res = a ^ e % 2305843009213693951) := ⟨_, rfl⟩
  rw [← hres.out]
  have R := redP_one
  have B := bits_of e
  have rA0 : Rp ((w.alloc (.cells #[.int .u64 (a : Int)] 124)).alloc (.cells #[.int .u64 0] 124)) 124 w.heap.size a := (Rp.new w _ a).alloc _
  have hp1 := partP rA0
  refine (callsIn_wide (n := 5)).1 ?_
  refine callsIn_of_wp_marks Tryz.func107 rfl trivial ?_ rfl
  simp only [Tryz.ntmps107, List.size_toArray, List.length_cons, List.length_nil, Nat.reduceAdd, Nat.reduceSub, Array.replicate_succ, Array.replicate_zero, List.push_toArray, List.append_toArray, List.nil_append, List.cons_append]
  gi_wp2_with (first
    | (refine ⟨trivial, ?_⟩; gi_at_call 90; refine (callsIn_wide.2 (R _)).mono ?_; rintro e w' ⟨rfl, rfl⟩)
    | (refine ⟨trivial, ?_⟩; gi_at_call 108; refine (callsIn_wide.2 (B _)).mono ?_; rintro e w' ⟨rfl, rfl⟩))
  clear R B hp1 rA0
  obtain ⟨W0, hW0⟩ : ∃ W0, (((((((w.alloc (Obj.cells #[Value.int IntKind.u64 (a : Int)] 124)).alloc (Obj.cells #[Value.int IntKind.u64 0] 124)).alloc
                        (Obj.cells #[] 122)).alloc
                    (Obj.cells #[Value.int IntKind.u64 1] 124)).alloc
                (Obj.cells #[] 122)).alloc
            (Obj.cells #[Value.int IntKind.u64 1] 124)).alloc
        (Obj.cells #[Value.int IntKind.u64 (e : Int)] 23)).drew = W0 := ⟨_, rfl⟩
  rw [hW0]
  have hsz : W0.heap.size = w.heap.size + 7 := by rw [← hW0]; simp
  have hA : Rp W0 124 w.heap.size a := by rw [← hW0]; exact (((((((Rp.new w _ a).alloc _).alloc _).alloc _).alloc _).alloc _).alloc _).drew
  have hR : Rp W0 124 (w.heap.size + 1) 0 := by rw [← hW0]; exact (((((((Rp.new _ _ 0).alloc _).alloc _).alloc _).alloc _).alloc _).drew).at (by simp)
  have hO : Rp W0 124 (w.heap.size + 1 + 1 + 1 + 1 + 1) 1 := by rw [← hW0]; exact (((Rp.new _ _ 1).alloc _).drew).at (by simp)
  have hE : W0.cell? ⟨w.heap.size + 1 + 1 + 1 + 1 + 1 + 1, 0, none⟩ = some (.int .u64 e) := by
    rw [← hW0]
    exact (cell_new1 _ _ _ (by simp))
  have hB : Below w.heap.size w W0 := by
    rw [← hW0]
    exact ((((((((Below.refl _ w).alloc (Nat.le_refl _) _).alloc (by simp) _).alloc (by simp; omega) _).alloc (by simp; omega) _).alloc (by simp; omega) _).alloc (by simp; omega) _).alloc (by simp; omega) _).drew
  clear hW0
  refine wpIn_rangeFunc_ownF (F := Fence.wide) (n := 5) rfl (by omega) (gf := 109) (lb := #[.pointer (some ⟨w.heap.size + 1 + 1 + 1 + 1 + 1 + 1, 0, none⟩)]) rfl trivial (enters_of Tryz.func109 (by kernel_rfl) rfl)
    (bit_stops (5 - 1) (by omega) e (w.heap.size + 1 + 1 + 1 + 1 + 1 + 1) he W0 hE (by omega)) (fun h k x => k (h x)) ?hKb (Below.refl _ _) (fun _ => rfl)
    (fun pre W => (Rp W 124 (w.heap.size + 1 + 1 + 1 + 1 + 1) (a ^ valB pre % 2305843009213693951) ∧ Rp W 124 w.heap.size a ∧ Rp W 124 (w.heap.size + 1) 0) ∧ Below w.heap.size w W)
    (fun _ _ _ => False)
    (OwnFrom.and (OwnFrom.and (Rp.own _ _ _ _) (OwnFrom.and (Rp.own _ _ _ (fun _ => a)) (Rp.own _ _ _ (fun _ => 0)))) (ownFrom_below (Nat.le_refl _) (by omega)))
    (fun _ _ _ _ _ hs _ _ => hs)
    ⟨⟨by simpa [valB] using hO, hA, hR⟩, hB⟩
    (fun x => { tmps := #[Value.agg #[Value.int IntKind.u64 (a : Int)], Value.int IntKind.u64 (e : Int),
          Value.pointer (some { block := w.heap.size, off := 0 }), undef,
          Value.pointer (some { block := w.heap.size + 1, off := 0 }),
          Value.pointer (some { block := w.heap.size + 1 + 1 + 1 + 1 + 1, off := 0 }), .bool x,
          Value.pointer (some { block := w.heap.size, off := 0 }), Value.agg #[],
          Value.agg #[Value.int IntKind.u64 1], Value.int IntKind.u64 (e : Int),
          Value.func (Fn.func 109) #[] #[Value.pointer (some { block := w.heap.size + 1 + 1 + 1 + 1 + 1 + 1, off := 0 })], .bool x,
          undef, undef, undef, undef, undef, undef, undef, undef], defers := [] }) ?assign ?body ?done ?stop
  case hKb =>
    intro W l o o' hl ho hc _ hcell
    have hne : w.heap.size + 1 + 1 + 1 + 1 + 1 + 1 ≠ l := by omega
    refine (World.cell?_of_block ?_).trans hcell
    exact (grownBy_putObj' W l o').block _ (World.block_lt_of_cell? W _ hcell) (fun e => hne (Option.some.inj e))
  case assign =>
    intro l x W K hK
    gi_wp2
    exact hK
  case body =>
    rintro l pre x W ⟨⟨rO, rA, rR⟩, rB⟩ _
    obtain ⟨c, hc⟩ : ∃ c, Hid (c = a ^ valB pre % 2305843009213693951) := ⟨_, rfl⟩
    rw [← hc.out] at rO
    have hcm : c < 2305843009213693951 := by rw [hc.out]; exact Nat.mod_lt _ (by omega)
    have T1 := fun w => timP_any c c w hcm hcm
    have hdm : c * c % 2305843009213693951 < 2305843009213693951 := Nat.mod_lt _ (by omega)
    have T2 := fun w => timP_any (c * c % 2305843009213693951) a w hdm ha
    obtain ⟨d, hd⟩ : ∃ d, Hid (d = c * c % 2305843009213693951) := ⟨_, rfl⟩
    rw [← hd.out] at T1 T2
    obtain ⟨d2, hd2⟩ : ∃ d2, Hid (d2 = d * a % 2305843009213693951) := ⟨_, rfl⟩
    rw [← hd2.out] at T2
    have o0 := rO.cell
    clear hdm hcm ha he
    cases x
    · gi_wp2_with fail
      refine ⟨trivial, ?_⟩
      gi_at_call 85
      refine (CallsIn.inRound l (callsIn_wide.2 (T1 _))).mono ?_
      rintro e' W1 ⟨rfl, b1⟩
      have rO1 := rO.below b1 rO.lt
      have f0 := rO1.frz
      have p0 := rO1.cell
      gi_wp2
      have ev : valB (pre ++ [false]) = 2 * valB pre := by rw [valB_snoc]; rfl
      refine ⟨(keeps_below b1).trans (KeepsOthers.setCell _ _ _), fun hk => ?_, ⟨⟨?_, ?_, ?_⟩, ?_⟩⟩
      · exact (set_cell W1 (w.heap.size + 1 + 1 + 1 + 1 + 1) _ (by omega)).trans ((b1.cell (p := ⟨w.heap.size + 1 + 1 + 1 + 1 + 1 + 1, 0, none⟩) (World.block_lt_of_cell? W _ hk)).trans hk)
      · rw [ev, ← pow_step0 a 2305843009213693951 c d _ hc.out hd.out]; exact rO1.set d
      · exact (rA.below b1 rA.lt).other (by omega) _
      · exact (rR.below b1 rR.lt).other (by omega) _
      · exact (rB.trans (b1.mono rB.size)).setCell (p := ⟨w.heap.size + 1 + 1 + 1 + 1 + 1, 0, none⟩) (by simp; omega) _
    · gi_wp2_with fail
      refine ⟨trivial, ?_⟩
      gi_at_call 85
      refine (CallsIn.inRound l (callsIn_wide.2 (T1 _))).mono ?_
      rintro e' W1 ⟨rfl, b1⟩
      have rO1 := rO.below b1 rO.lt
      have f0 := rO1.frz
      have p0 := rO1.cell
      have rO2 := rO1.set d
      have rA2 : Rp (W1.setCell ⟨w.heap.size + 1 + 1 + 1 + 1 + 1, 0, none⟩ (.int .u64 d)) _ _ _ := (rA.below b1 rA.lt).other (by omega) _
      have rR2 : Rp (W1.setCell ⟨w.heap.size + 1 + 1 + 1 + 1 + 1, 0, none⟩ (.int .u64 d)) _ _ _ := (rR.below b1 rR.lt).other (by omega) _
      have rB2 := (rB.trans (b1.mono rB.size)).setCell (p := ⟨w.heap.size + 1 + 1 + 1 + 1 + 1, 0, none⟩) (by simp; omega) (.int .u64 d)
      have k2 := (keeps_below b1).trans (KeepsOthers.setCell W1 ⟨w.heap.size + 1 + 1 + 1 + 1 + 1, 0, none⟩ (.int .u64 d))
      have c2 : W.cell? ⟨w.heap.size + 1 + 1 + 1 + 1 + 1 + 1, 0, none⟩ = some (.int .u64 e) → (W1.setCell ⟨w.heap.size + 1 + 1 + 1 + 1 + 1, 0, none⟩ (.int .u64 d)).cell? ⟨w.heap.size + 1 + 1 + 1 + 1 + 1 + 1, 0, none⟩ = some (.int .u64 e) := fun hk =>
        (set_cell W1 (w.heap.size + 1 + 1 + 1 + 1 + 1) _ (by omega)).trans ((b1.cell (p := ⟨w.heap.size + 1 + 1 + 1 + 1 + 1 + 1, 0, none⟩) (World.block_lt_of_cell? W _ hk)).trans hk)
      have q1 := rO2.cell
      have q3 := rA2.cell
      gi_wp2_with fail
      refine ⟨trivial, ?_⟩
      gi_at_call 85
      refine (CallsIn.inRound l (callsIn_wide.2 (T2 (W1.setCell ⟨w.heap.size + 1 + 1 + 1 + 1 + 1, 0, none⟩ (.int .u64 d))))).mono ?_
      rintro e' W3 ⟨rfl, b3⟩
      clear q1 q3 f0 p0 o0
      generalize W1.setCell ⟨w.heap.size + 1 + 1 + 1 + 1 + 1, 0, none⟩ (.int .u64 d) = W2 at *
      have rO3 := rO2.below b3 rO2.lt
      have f0 := rO3.frz
      have p0 := rO3.cell
      gi_wp2
      have ev : valB (pre ++ [true]) = 2 * valB pre + 1 := by rw [valB_snoc]; rfl
      refine ⟨k2.trans ((keeps_below b3).trans (KeepsOthers.setCell _ _ _)), fun hk => ?_, ⟨⟨?_, ?_, ?_⟩, ?_⟩⟩
      · exact (set_cell W3 (w.heap.size + 1 + 1 + 1 + 1 + 1) _ (by omega)).trans ((b3.cell (p := ⟨w.heap.size + 1 + 1 + 1 + 1 + 1 + 1, 0, none⟩) (World.block_lt_of_cell? W2 _ (c2 hk))).trans (c2 hk))
      · rw [ev, ← pow_step1 a 2305843009213693951 c d d2 _ hc.out hd.out hd2.out]; exact rO3.set d2
      · exact (rA2.below b3 rA2.lt).other (by omega) _
      · exact (rR2.below b3 rR2.lt).other (by omega) _
      · exact (rB2.trans (b3.mono rB2.size)).setCell (p := ⟨w.heap.size + 1 + 1 + 1 + 1 + 1, 0, none⟩) (by simp; omega) _
  case done =>
    rintro D xs W hD rfl ⟨⟨rO, rA, rR⟩, rB⟩ hK
    rw [valB_all e (by omega), ← hres.out] at rO
    have o0 := rO.cell
    have r0 := rR.cell
    have f0 := rR.frz
    gi_wp2
    refine ⟨by simp, .inl ⟨_, _, rfl, run_takeDeferred ((KeepsOthers.setCell W ⟨w.heap.size + 1, 0, none⟩ (.int .u64 res)).same D _ hK rfl), ?_⟩⟩
    have rF := rR.set res
    refine ⟨.agg #[.int .u64 res], ?_, rfl, ?_⟩
    · have hne : D ≠ w.heap.size + 1 := by omega
      have rG : Rp ((W.setCell ⟨w.heap.size + 1, 0, none⟩ (.int .u64 res)).putObj D (Obj.deferred none)) 124 (w.heap.size + 1) res :=
        ((grownBy_putObj' _ D (Obj.deferred none)).block _ rF.lt (fun e => hne (Option.some.inj e).symm)).trans rF
      exact results_mid (fn := Tryz.f107) (p := 4) (ty := 124) Tryz.results107 _ _ (w.heap.size + 1) 0 [.int .u64 res] _ rfl rG.range Tryz.underlying124 rfl (by kernel_rfl)
    · have hB3 := rB.setCell (p := ⟨w.heap.size + 1, 0, none⟩) (by simp) (.int .u64 res)
      exact hB3.grown (grownBy_putObj' _ D (Obj.deferred none)) hB3.size (fun k e => by cases e; omega)
  case stop =>
    rintro D c pre W _ _ h _
    exact h.elim
end Go.Proofs.YtdaobioomoajfaaGreat
