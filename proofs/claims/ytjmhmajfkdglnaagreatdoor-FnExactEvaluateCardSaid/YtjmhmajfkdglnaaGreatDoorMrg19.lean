import Derived.Test.YtjmhmajfkdglnaaGreatDoorMrg18
import Derived.Test.YtjmhmajfkdglnaaGreatDoorMrg0
import Derived.Deep.RegionHeld3
import Derived.RangeFuncNested
import Derived.RangeFuncBound
import Derived.RangeFuncCalls
import Derived.RangeFuncLeaves
import Derived.Shelf.Abstract
import Derived.Shelf.RegionOpen
import Derived.WalkKit
import Derived.OwnWalkIn
import Derived.TacticsInMore
import Derived.LoopNIn
import Derived.LoopIn
import Derived.Test.YtjmhmajfkdglnaaGreatDoorMrg11
import Derived.RangeFuncFrom
set_option linter.unusedVariables false
set_option maxRecDepth 100000
set_option maxHeartbeats 16000000
namespace Go.Proofs.YtjmhmajfkdglnaaGreatDoor
open Go.RowKit
theorem keepC {w1 w2 : World} {p : Addr} {v : Value} (h : w1.cell? p = some v) (b : Below w1.heap.size w1 w2) : w2.cell? p = some v := by
  by_cases hl : p.block < w1.heap.size
  · rw [← h]; unfold World.cell?; rw [b.block _ hl]
  · exfalso
    have : w1.heap[p.block]? = none := Array.getElem?_eq_none (by omega)
    simp [World.cell?, this] at h
theorem keepS {w1 : World} {p : Addr} {v u : Value} {b i : Nat} (h : w1.cell? p = some v) (hne : p.block ≠ b) : (w1.setCell ⟨b, i, none⟩ u).cell? p = some v := by
  rw [← h]; unfold World.cell?; simp [World.setCell, Array.getElem?_modify, Ne.symm hne]
theorem keepB {n : Nat} {w0 w1 w2 : World} (h : Below n w0 w1) (hn : n ≤ w1.heap.size) (b : Below w1.heap.size w1 w2) : Below n w0 w2 := h.trans (b.mono hn)
def R1 (W : World) (b : Nat) (y : Int) : Prop := W.heap[b]? = some (.cells #[.int .u64 y] 179)
section
variable {W W' : World} {b : Nat} {y : Int}
theorem R1.cell (h : R1 W b y) : W.cell? ⟨b, 0, none⟩ = some (.int .u64 y) := by unfold R1 at h; simp [World.cell?, h]
theorem R1.frz (h : R1 W b y) : W.frozen? ⟨b, 0, none⟩ = false := by unfold R1 at h; simp [World.frozen?, h]
theorem R1.lt (h : R1 W b y) : b < W.heap.size := (Array.getElem?_eq_some_iff.1 h).1
theorem R1.below {N : Nat} (h : R1 W b y) (hb : Below N W W') (hl : b < N) : R1 W' b y := (hb.block b hl).trans h
theorem R1.keep (h : R1 W b y) (hb : Below W.heap.size W W') : R1 W' b y := h.below hb h.lt
theorem R1.new (w : World) (y : Int) : R1 (w.alloc (.cells #[.int .u64 y] 179)) w.heap.size y := heap_alloc_new w _
theorem R1.alloc (h : R1 W b y) (o : Obj) : R1 (W.alloc o) b y := (Below.heap_alloc W o b h.lt).trans h
theorem R1.drew (h : R1 W b y) : R1 W.drew b y := h
theorem R1.range (h : R1 W b y) : W.rangeAt b 0 [.int .u64 y] := fun j v hj => by
  match j, hj with
  | 0, hj => cases hj; exact h.cell
theorem R1.at {b' : Nat} (h : R1 W b y) (e : b = b') : R1 W b' y := e ▸ h
theorem R1.set (h : R1 W b y) (y' : Int) : R1 (W.setCell ⟨b, 0, none⟩ (.int .u64 y')) b y' := by
  unfold R1 at *
  simp [World.setCell, Array.getElem?_modify, h]
theorem R1.other (h : R1 W b y) {b' : Nat} (hne : b ≠ b') (i : Nat) (v : Value) : R1 (W.setCell ⟨b', i, none⟩ v) b y := by
  unfold R1 at *
  rw [← h]
  simp [World.setCell, Array.getElem?_modify, Ne.symm hne]
theorem num_res {fn : Func} {p : Tmp} (h : fn.results = #[.cell p 179]) (tmps : Array Value) (hp : tmps.getD p undef = .pointer (some ⟨b, 0, none⟩)) (hc : R1 W b y) :
    (results fn tmps).run Tryz.prog W = .ok (.agg #[.int .u64 y]) W :=
  results_mid h tmps W b 0 [.int .u64 y] _ hp hc.range Tryz.underlying179 rfl (by kernel_rfl)
end
theorem mnP_lt (a b d c : Int) (w : World) (h : a < b) (hd : IntKind.u64.wrap (a - b) = d) (hc : IntKind.u64.wrap (d + 2305843009213693951) = c) :
    Calls Tryz.prog 134 #[.agg #[.int .u64 a], .agg #[.int .u64 b]] w fun e w' => e = .returned (.agg #[.int .u64 c]) ∧ Below w.heap.size w w' := by
  have hme := methP
  have hf := foldP
  obtain ⟨X, hX⟩ : ∃ X, X = ((w.alloc (Obj.cells #[.int .u64 a] 179)).alloc (Obj.cells #[.int .u64 b] 179)).alloc (Obj.cells #[.int .u64 0] 179) := ⟨_, rfl⟩
  have hX0 : X.heap[w.heap.size]? = some (.cells #[.int .u64 a] 179) := by
    rw [hX]
    exact (Below.heap_alloc _ _ _ (by simp; omega)).trans ((Below.heap_alloc _ _ _ (by simp)).trans (heap_alloc_new w _))
  have hp1 := partP hX0
  have hX1 : (X.alloc (Obj.cells #[] 177)).heap[w.heap.size]? = some (.cells #[.int .u64 a] 179) := (Below.heap_alloc _ _ _ (Array.getElem?_eq_some_iff.1 hX0).1).trans hX0
  have hp2 := partP hX1
  rw [hX] at hp1 hp2
  clear hX hX0 hX1
  go_enter Tryz.func134, Tryz.ntmps134
  go_wp2_with fail
  refine (valP _).mono ?_
  rintro e w' ⟨rfl, rfl⟩
  go_wp2
  refine bodyPost_ret (v := .agg #[.int .u64 c]) (by simp [results, Tryz.results134, go_sem]) rfl ⟨rfl, ?_⟩
  exact ((((Below.refl _ _).alloc (Nat.le_refl _) _).alloc (by simp) _).alloc (by simp; omega) _).alloc (by simp; omega) _
theorem mnP_ge (a b d : Int) (w : World) (h : b ≤ a) (hd : IntKind.u64.wrap (a - b) = d) :
    Calls Tryz.prog 134 #[.agg #[.int .u64 a], .agg #[.int .u64 b]] w fun e w' => e = .returned (.agg #[.int .u64 d]) ∧ Below w.heap.size w w' := by
  have hme := methP
  have hf := foldP
  have hlt : ¬ a < b := by omega
  clear h
  obtain ⟨X, hX⟩ : ∃ X, X = ((w.alloc (Obj.cells #[.int .u64 a] 179)).alloc (Obj.cells #[.int .u64 b] 179)).alloc (Obj.cells #[.int .u64 0] 179) := ⟨_, rfl⟩
  have hX0 : X.heap[w.heap.size]? = some (.cells #[.int .u64 a] 179) := by
    rw [hX]
    exact (Below.heap_alloc _ _ _ (by simp; omega)).trans ((Below.heap_alloc _ _ _ (by simp)).trans (heap_alloc_new w _))
  have hp1 := partP hX0
  rw [hX] at hp1
  clear hX hX0
  go_enter Tryz.func134, Tryz.ntmps134
  go_wp2
  refine bodyPost_ret (v := .agg #[.int .u64 d]) (by simp [results, Tryz.results134, go_sem]) rfl ⟨rfl, ?_⟩
  exact (((Below.refl _ _).alloc (Nat.le_refl _) _).alloc (by simp) _).alloc (by simp; omega) _
theorem mnP_any (a b c : Int) (w : World) (ha0 : 0 ≤ a) (ha : a < 2305843009213693951) (hb0 : 0 ≤ b) (hb : b < 2305843009213693951) (hc : c = if a < b then a - b + 2305843009213693951 else a - b) :
    Calls Tryz.prog 134 #[.agg #[.int .u64 a], .agg #[.int .u64 b]] w fun e w' => e = .returned (.agg #[.int .u64 c]) ∧ Below w.heap.size w w' := by
  by_cases h : a < b
  · rw [if_pos h] at hc
    exact mnP_lt a b (a - b + 18446744073709551616) c w h (by rw [IntKind.wrap_u64]; omega) (by rw [IntKind.wrap_u64]; omega)
  · rw [if_neg h] at hc
    exact mnP_ge a b c w (by omega) (by rw [IntKind.wrap_u64]; omega)
theorem ngP_of (a c : Int) (w : World)
    (M : ∀ w, Calls Tryz.prog 134 #[.agg #[.int .u64 0], .agg #[.int .u64 a]] w fun e w' => e = .returned (.agg #[.int .u64 c]) ∧ Below w.heap.size w w') :
    Calls Tryz.prog 177 #[.agg #[.int .u64 a]] w fun e w' => e = .returned (.agg #[.int .u64 c]) ∧ Below w.heap.size w w' := by
  have hf := foldP
  obtain ⟨X, hX⟩ : ∃ X, X = (w.alloc (Obj.cells #[.int .u64 a] 179)).alloc (Obj.cells #[.int .u64 0] 179) := ⟨_, rfl⟩
  have hX0 : X.heap[w.heap.size]? = some (.cells #[.int .u64 a] 179) := by
    rw [hX]
    exact (Below.heap_alloc _ _ _ (by simp)).trans (heap_alloc_new w _)
  have hp1 := partP hX0
  have hr : R1 X (w.heap.size + 1) 0 := by rw [hX]; exact (R1.new _ 0).at (by simp)
  have hbX : Below w.heap.size w X := by rw [hX]; exact ((Below.refl _ w).alloc (Nat.le_refl _) _).alloc (by simp) _
  rw [hX] at hp1 hr hbX
  clear hX hX0
  go_enter Tryz.func177, Tryz.ntmps177
  go_wp2_with fail
  refine (M _).mono ?_
  rintro e w' ⟨rfl, hb⟩
  have hr1 := hr.keep hb
  have cc := hr1.cell
  have ff := hr1.frz
  have hb2 := keepB hbX (by simp; omega) hb
  clear hb hbX hr hp1
  go_wp2
  exact bodyPost_ret (v := .agg #[.int .u64 c]) (num_res (fn := Tryz.f177) (p := 2) Tryz.results177 _ rfl (hr1.set c)) rfl ⟨rfl, hb2.setCell (p := ⟨w.heap.size + 1, 0, none⟩) (by simp) _⟩
theorem plP_of (a b d c : Int) (w : World)
    (N : ∀ w, Calls Tryz.prog 177 #[.agg #[.int .u64 b]] w fun e w' => e = .returned (.agg #[.int .u64 d]) ∧ Below w.heap.size w w')
    (M : ∀ w, Calls Tryz.prog 134 #[.agg #[.int .u64 a], .agg #[.int .u64 d]] w fun e w' => e = .returned (.agg #[.int .u64 c]) ∧ Below w.heap.size w w') :
    Calls Tryz.prog 136 #[.agg #[.int .u64 a], .agg #[.int .u64 b]] w fun e w' => e = .returned (.agg #[.int .u64 c]) ∧ Below w.heap.size w w' := by
  obtain ⟨X, hX⟩ : ∃ X, X = (((w.alloc (Obj.cells #[.int .u64 a] 179)).alloc (Obj.cells #[.int .u64 b] 179)).alloc (Obj.cells #[.int .u64 0] 179)).drew := ⟨_, rfl⟩
  have hr : R1 X (w.heap.size + 1 + 1) 0 := by rw [hX]; exact ((R1.new _ 0).drew).at (by simp)
  have hbX : Below w.heap.size w X := by rw [hX]; exact ((((Below.refl _ w).alloc (Nat.le_refl _) _).alloc (by simp) _).alloc (by simp; omega) _).drew
  have hl : w.heap.size ≤ X.heap.size := hbX.size
  rw [hX] at hr hbX hl
  clear hX
  go_enter Tryz.func136, Tryz.ntmps136
  go_wp2
  go_region_held3 (fun w' => w'.cell? ⟨w.heap.size, 0, none⟩ = some (.int .u64 a) ∧ w'.cell? ⟨w.heap.size + 1, 0, none⟩ = some (.int .u64 b)) (first | exact ⟨keepC (keepC (by simp [go_sem]) b1) b2, keepC (keepC (by simp [go_sem]) b1) b2⟩ | exact ⟨keepC (by simp [go_sem]) b1, keepC (by simp [go_sem]) b1⟩ | exact ⟨keepS (keepC (keepC (by simp [go_sem]) b1) b2) (by simp; omega), keepS (keepC (keepC (by simp [go_sem]) b1) b2) (by simp)⟩ | go_keep) (first
    | (go_at_call 177; refine (N _).mono ?_; rintro e w1 ⟨rfl, b1⟩)
    | (go_at_call 134; refine (M _).mono ?_; rintro e w2 ⟨rfl, b2⟩; have hr2 := (hr.keep b1).keep b2; have cc := hr2.cell; have ff := hr2.frz))
  go_wp2
  have hb2 := keepB (keepB hbX hl b1) (Nat.le_trans hl b1.size) b2
  exact bodyPost_ret (v := .agg #[.int .u64 c]) (num_res (fn := Tryz.f136) (p := 4) Tryz.results136 _ rfl (hr2.set c)) rfl ⟨rfl, hb2.setCell (p := ⟨w.heap.size + 1 + 1, 0, none⟩) (by simp; omega) _⟩
end Go.Proofs.YtjmhmajfkdglnaaGreatDoor
namespace Go.Proofs.YtjmhmajfkdglnaaGreatDoor
open Go.RowKit Go.Shelf
attribute [local go_sem] Oper.semAt_some
def bitsF (e L : Nat) : Nat → List Bool
  | 0 => []
  | j + 1 => bitsF e L j ++ [decide (e / 2 ^ (L - (j + 1)) % 2 = 1)]
theorem bitsF_length (e L : Nat) : ∀ j, (bitsF e L j).length = j
  | 0 => rfl
  | j + 1 => by simp [bitsF, bitsF_length e L j]
theorem and1 (z : Nat) (h : z < 18446744073709551616) : bits .and .u64 (z : Int) 1 = ((z % 2 : Nat) : Int) := by
  have := bits_and_u64_nat z 1 h (by decide)
  rwa [show z &&& 1 = z % 2 from Nat.and_two_pow_sub_one_eq_mod z 1] at this
theorem bit_eq (e i : Nat) (he : e < 18446744073709551616) : (bits .and .u64 ((e : Int) / 2 ^ i) 1 == 1) = decide (e / 2 ^ i % 2 = 1) := by
  have e1 : (e : Int) / 2 ^ i = ((e / 2 ^ i : Nat) : Int) := by simp
  rw [e1, and1 _ (Nat.lt_of_le_of_lt (Nat.div_le_self _ _) he)]
  generalize e / 2 ^ i % 2 = z
  by_cases h : z = 1
  · subst h; rfl
  · simp [h]; omega
theorem bit_stops (n : Nat) (hn : 1 ≤ n) (e Be : Nat) (he : e < 18446744073709551616) (w : World) (hc : w.cell? ⟨Be, 0, none⟩ = some (.int .u64 e)) (hB : Be < w.heap.size) :
    SeqStopsK Fence.wide n Tryz.prog 180 #[.pointer (some ⟨Be, 0, none⟩)] (fun b : Bool => #[.bool b]) (fun W W' => W.cell? ⟨Be, 0, none⟩ = some (.int .u64 e) → W'.cell? ⟨Be, 0, none⟩ = some (.int .u64 e))
      (fun xs => xs = bitsF e (Lib.bitLen e) (Lib.bitLen e)) (fun _ => True) 64 w := fun l J Jx W hW _ _ hY h0 => by
  have hcW : W.cell? ⟨Be, 0, none⟩ = some (.int .u64 e) := (hW.cell (p := ⟨Be, 0, none⟩) hB).trans hc
  have hL := len_nat e he
  have hl := len_le e (by omega)
  have hbe := bit_eq e
  generalize Lib.bitLen e = L at *
  refine callsIn_of_wp Tryz.func180 rfl trivial ?_ rfl
  simp only [Tryz.ntmps180, List.size_toArray, List.length_cons, List.length_nil, Nat.reduceAdd, Nat.reduceSub, Array.replicate_succ, Array.replicate_zero, List.push_toArray, List.append_toArray, List.nil_append, List.cons_append]
  gi_wp2_with (refine ⟨trivial, ?_⟩; gi_at_call 181; refine (callsIn_wide.2 (hL _)).mono ?_; rintro e w' ⟨rfl, rfl⟩)
  clear hL
  gi_loopw [3] (fun i wr => ∃ (k : Nat) (x : Int), x = (k : Int) - 1 ∧ k ≤ L ∧ i = .int .i64 x ∧ wr.cell? ⟨Be, 0, none⟩ = some (.int .u64 e) ∧ J (bitsF e L (L - k)) wr) (fun i _ => (intOf i + 1).toNat)
  case atStart => exact ⟨L, (L : Int) - 1, rfl, Nat.le_refl _, rfl, hcW, by rw [Nat.sub_self]; exact h0⟩
  case round =>
    obtain ⟨k, x, hx, hk, rfl, hcr, hJ⟩ := hrel
    rcases k with _ | j
    · have hneg : ¬ ((0 : Int) ≤ x) := by omega
      clear hx
      gi_wp2
      go_end0
      exact ⟨⟨_, rfl⟩, .inl hJ⟩
    · obtain rfl : x = (j : Int) := by omega
      clear hx
      have hbj := hbe j he
      have hst : bitsF e L (L - j) = bitsF e L (L - (j + 1)) ++ [decide (e / 2 ^ j % 2 = 1)] := by
        have e1 : L - j = L - (j + 1) + 1 := by omega
        rw [e1, bitsF, show L - (L - (j + 1) + 1) = j by omega]
      generalize decide (e / 2 ^ j % 2 = 1) = bb at *
      obtain ⟨fn, tmps, assign, body, hy, hR⟩ := hY _ bb wr hJ (by rw [bitsF_length]; omega)
      rw [← hst] at hR
      clear hY hbe hst
      gi_wp2
      refine hR.mono ?_
      rintro e' W3 (⟨rfl, hJ3, hk3⟩ | ⟨rfl, hJx3⟩)
      · have hc3 := hk3 hcr
        gi_wp2
        go_roundw
        case rel => exact ⟨j, (j : Int) - 1, rfl, by omega, rfl, hc3, hJ3⟩
        case measure => simp [intOf]
      · gi_wp2
        refine bodyPost_ret (results_none rfl _ _ _) rfl ?_
        exact ⟨⟨_, rfl⟩, .inr ⟨_, trivial, hJx3⟩⟩
theorem bits_of (e : Nat) (w : World) :
    Calls Tryz.prog 141 #[.int .u64 e] w fun r w' => r = .returned (.func (.func 180) #[] #[.pointer (some ⟨w.heap.size, 0, none⟩)]) ∧ w' = w.alloc (.cells #[.int .u64 e] 22) := by
  go_enter Tryz.func141, Tryz.ntmps141
  go_wp2
  go_ret
  exact ⟨rfl, rfl⟩
end Go.Proofs.YtjmhmajfkdglnaaGreatDoor
namespace Go.Proofs.YtjmhmajfkdglnaaGreatDoor
open Go.RowKit Go.Shelf
attribute [local go_sem] Oper.semAt_some
def valB (l : List Bool) : Nat := l.foldl (fun v b => 2 * v + b.toNat) 0
theorem valB_snoc (l : List Bool) (b : Bool) : valB (l ++ [b]) = 2 * valB l + b.toNat := by simp [valB]
theorem valB_bits (e L : Nat) : ∀ j, j ≤ L → e / 2 ^ L = 0 → valB (bitsF e L j) = e / 2 ^ (L - j)
  | 0, _, h => by simp [bitsF, valB, h]
  | j + 1, hj, h => by
    rw [bitsF, valB_snoc, valB_bits e L j (by omega) h]
    have e1 : L - j = L - (j + 1) + 1 := by omega
    rw [e1]
    generalize L - (j + 1) = i
    have : e / 2 ^ (i + 1) = e / 2 ^ i / 2 := by rw [Nat.pow_succ, Nat.div_div_eq_div_mul]
    rw [this]
    generalize e / 2 ^ i = z
    by_cases hz : z % 2 = 1
    · simp [hz]; omega
    · simp [hz]; omega
theorem valB_all (e : Nat) (he : e < 2 ^ 64) : valB (bitsF e (Lib.bitLen e) (Lib.bitLen e)) = e := by
  have h : e < 2 ^ Lib.bitLen e := len_up 64 e he
  rw [valB_bits e _ _ (Nat.le_refl _) (Nat.div_eq_of_lt h), Nat.sub_self, Nat.pow_zero, Nat.div_one]
theorem cell_new1 (w : World) (v : Value) (t : TypeId) {b : Nat} (e : w.heap.size = b) : (w.alloc (.cells #[v] t)).cell? ⟨b, 0, none⟩ = some v := by subst e; rw [World.cell?, World.alloc_heap_new w _]; rfl
theorem setCell_heap (W : World) (b i : Nat) (v : Value) (k : Nat) (h : k ≠ b) : (W.setCell ⟨b, i, none⟩ v).heap[k]? = W.heap[k]? := by
  simp [World.setCell, Array.getElem?_modify, Ne.symm h]
theorem keeps_below {W W' : World} (h : Below W.heap.size W W') : KeepsOthers W W' := ⟨h.size, fun k o hk _ => (h.block k (Array.getElem?_eq_some_iff.1 hk).1).trans hk⟩
theorem pow_step0 (a m c d v : Nat) (hc : c = a ^ v % m) (hd : d = c * c % m) : d = a ^ (2 * v) % m := by
  rw [hd, hc, Nat.two_mul, Nat.pow_add, ← Nat.mul_mod]
theorem pow_step1 (a m c d d2 v : Nat) (hc : c = a ^ v % m) (hd : d = c * c % m) (hd2 : d2 = d * a % m) : d2 = a ^ (2 * v + 1) % m := by
  rw [hd2, pow_step0 a m c d v hc hd, Nat.mod_mul_mod, Nat.pow_succ]
end Go.Proofs.YtjmhmajfkdglnaaGreatDoor
namespace Go.Proofs.YtjmhmajfkdglnaaGreatDoor
open Go.RowKit Go.Shelf
attribute [local go_sem] Oper.semAt_some
def Rp (W : World) (t : TypeId) (b y : Nat) : Prop := W.heap[b]? = some (.cells #[.int .u64 y] t)
theorem Rp.cell {W : World} {t : TypeId} {b y : Nat} (h : Rp W t b y) : W.cell? ⟨b, 0, none⟩ = some (.int .u64 y) := by unfold Rp at h; simp [World.cell?, h]
theorem Rp.frz {W : World} {t : TypeId} {b y : Nat} (h : Rp W t b y) : W.frozen? ⟨b, 0, none⟩ = false := by unfold Rp at h; simp [World.frozen?, h]
theorem Rp.lt {W : World} {t : TypeId} {b y : Nat} (h : Rp W t b y) : b < W.heap.size := (Array.getElem?_eq_some_iff.1 h).1
theorem Rp.own {β : Type} (B : Nat) (t : TypeId) (b : Nat) (g : β → Nat) : OwnFrom B (fun s W => Rp W t b (g s)) := fun s W W' row hs hg hr => by
  refine (hg.block b hs.lt (fun e => ?_)).trans hs
  obtain ⟨-, o, ho, hc⟩ := hr b e.symm
  rw [show W.heap[b]? = _ from hs] at ho
  cases ho; cases hc
theorem Rp.below {W W' : World} {t : TypeId} {b y N : Nat} (h : Rp W t b y) (hb : Below N W W') (hl : b < N) : Rp W' t b y := (hb.block b hl).trans h
theorem Rp.new (w : World) (t : TypeId) (y : Nat) : Rp (w.alloc (.cells #[.int .u64 y] t)) t w.heap.size y := World.alloc_heap_new w _
theorem Rp.alloc {W : World} {t : TypeId} {b y : Nat} (h : Rp W t b y) (o : Obj) : Rp (W.alloc o) t b y := (Below.heap_alloc W o b h.lt).trans h
theorem Rp.drew {W : World} {t : TypeId} {b y : Nat} (h : Rp W t b y) : Rp W.drew t b y := h
theorem Rp.range {W : World} {t : TypeId} {b y : Nat} (h : Rp W t b y) : W.rangeAt b 0 [.int .u64 y] := fun j v hj => by
  match j, hj with
  | 0, hj => cases hj; exact h.cell
theorem Rp.at {W : World} {t : TypeId} {b b' y : Nat} (h : Rp W t b y) (e : b = b') : Rp W t b' y := e ▸ h
theorem Rp.set {W : World} {t : TypeId} {b y : Nat} (h : Rp W t b y) (y' : Nat) : Rp (W.setCell ⟨b, 0, none⟩ (.int .u64 y')) t b y' := by
  unfold Rp at *
  simp [World.setCell, Array.getElem?_modify, h]
theorem Rp.other {W : World} {t : TypeId} {b y : Nat} (h : Rp W t b y) {b' : Nat} (hne : b ≠ b') (v : Value) : Rp (W.setCell ⟨b', 0, none⟩ v) t b y := by
  unfold Rp at *
  rw [setCell_heap _ _ _ _ _ hne]; exact h
theorem set_cell (W : World) (b : Nat) (v : Value) {k : Nat} (hne : k ≠ b) : (W.setCell ⟨b, 0, none⟩ v).cell? ⟨k, 0, none⟩ = W.cell? ⟨k, 0, none⟩ :=
  World.cell?_of_block (setCell_heap _ _ _ _ _ hne)
theorem powP_any (a e : Nat) (w : World) (ha : a < 2305843009213693951) (he : e < 18446744073709551616) :
    Calls Tryz.prog 182 #[.agg #[.int .u64 a], .int .u64 e] w fun r w' => r = .returned (.agg #[.int .u64 (a ^ e % 2305843009213693951 : Nat)]) ∧ Below w.heap.size w w' := by
  obtain ⟨res, hres⟩ : ∃ res, Hid (res = a ^ e % 2305843009213693951) := ⟨_, rfl⟩
  rw [← hres.out]
  have R := redP_one
  have B := bits_of e
  have rA0 : Rp ((w.alloc (.cells #[.int .u64 (a : Int)] 179)).alloc (.cells #[.int .u64 0] 179)) 179 w.heap.size a := (Rp.new w _ a).alloc _
  have hp1 := partP rA0
  refine (callsIn_wide (n := 5)).1 ?_
  refine callsIn_of_wp_marks Tryz.func182 rfl trivial ?_ rfl
  simp only [Tryz.ntmps182, List.size_toArray, List.length_cons, List.length_nil, Nat.reduceAdd, Nat.reduceSub, Array.replicate_succ, Array.replicate_zero, List.push_toArray, List.append_toArray, List.nil_append, List.cons_append]
  gi_wp2_with (first
    | (refine ⟨trivial, ?_⟩; gi_at_call 135; refine (callsIn_wide.2 (R _)).mono ?_; rintro e w' ⟨rfl, rfl⟩)
    | (refine ⟨trivial, ?_⟩; gi_at_call 141; refine (callsIn_wide.2 (B _)).mono ?_; rintro e w' ⟨rfl, rfl⟩))
  clear R B hp1 rA0
  obtain ⟨W0, hW0⟩ : ∃ W0, (((((((w.alloc (Obj.cells #[Value.int IntKind.u64 (a : Int)] 179)).alloc (Obj.cells #[Value.int IntKind.u64 0] 179)).alloc
                        (Obj.cells #[] 177)).alloc
                    (Obj.cells #[Value.int IntKind.u64 1] 179)).alloc
                (Obj.cells #[] 177)).alloc
            (Obj.cells #[Value.int IntKind.u64 1] 179)).alloc
        (Obj.cells #[Value.int IntKind.u64 (e : Int)] 22)).drew = W0 := ⟨_, rfl⟩
  rw [hW0]
  have hsz : W0.heap.size = w.heap.size + 7 := by rw [← hW0]; simp
  have hA : Rp W0 179 w.heap.size a := by rw [← hW0]; exact (((((((Rp.new w _ a).alloc _).alloc _).alloc _).alloc _).alloc _).alloc _).drew
  have hR : Rp W0 179 (w.heap.size + 1) 0 := by rw [← hW0]; exact (((((((Rp.new _ _ 0).alloc _).alloc _).alloc _).alloc _).alloc _).drew).at (by simp)
  have hO : Rp W0 179 (w.heap.size + 1 + 1 + 1 + 1 + 1) 1 := by rw [← hW0]; exact (((Rp.new _ _ 1).alloc _).drew).at (by simp)
  have hE : W0.cell? ⟨w.heap.size + 1 + 1 + 1 + 1 + 1 + 1, 0, none⟩ = some (.int .u64 e) := by
    rw [← hW0]
    exact (cell_new1 _ _ _ (by simp))
  have hB : Below w.heap.size w W0 := by
    rw [← hW0]
    exact ((((((((Below.refl _ w).alloc (Nat.le_refl _) _).alloc (by simp) _).alloc (by simp; omega) _).alloc (by simp; omega) _).alloc (by simp; omega) _).alloc (by simp; omega) _).alloc (by simp; omega) _).drew
  clear hW0
  refine wpIn_rangeFunc_ownF (F := Fence.wide) (n := 5) rfl (by omega) (gf := 180) (lb := #[.pointer (some ⟨w.heap.size + 1 + 1 + 1 + 1 + 1 + 1, 0, none⟩)]) rfl trivial (enters_of Tryz.func180 (by kernel_rfl) rfl)
    (bit_stops (5 - 1) (by omega) e (w.heap.size + 1 + 1 + 1 + 1 + 1 + 1) he W0 hE (by omega)) (fun h k x => k (h x)) ?hKb (Below.refl _ _) (fun _ => rfl)
    (fun pre W => (Rp W 179 (w.heap.size + 1 + 1 + 1 + 1 + 1) (a ^ valB pre % 2305843009213693951) ∧ Rp W 179 w.heap.size a ∧ Rp W 179 (w.heap.size + 1) 0) ∧ Below w.heap.size w W)
    (fun _ _ _ => False)
    (OwnFrom.and (OwnFrom.and (Rp.own _ _ _ _) (OwnFrom.and (Rp.own _ _ _ (fun _ => a)) (Rp.own _ _ _ (fun _ => 0)))) (ownFrom_below (Nat.le_refl _) (by omega)))
    (fun _ _ _ _ _ hs _ _ => hs)
    ⟨⟨by simpa [valB] using hO, hA, hR⟩, hB⟩
    (fun x => { tmps := #[Value.agg #[Value.int IntKind.u64 (a : Int)], Value.int IntKind.u64 (e : Int),
          Value.pointer (some { block := w.heap.size, off := 0 }), undef,
          Value.pointer (some { block := w.heap.size + 1, off := 0 }),
          Value.pointer (some { block := w.heap.size + 1 + 1 + 1 + 1 + 1, off := 0 }), .bool x,
          Value.pointer (some { block := w.heap.size, off := 0 }), Value.agg #[],
          Value.agg #[Value.int IntKind.u64 1], Value.int IntKind.u64 (e : Int),
          Value.func (Fn.func 180) #[] #[Value.pointer (some { block := w.heap.size + 1 + 1 + 1 + 1 + 1 + 1, off := 0 })], .bool x,
          undef, undef, undef, undef, undef, undef, undef, undef], defers := [] }) ?assign ?body ?done ?stop
  case hKb =>
    intro W l o o' hl ho hc _ hcell
    have hne : w.heap.size + 1 + 1 + 1 + 1 + 1 + 1 ≠ l := by omega
    refine (World.cell?_of_block ?_).trans hcell
    exact (grownBy_putObj' W l o').block _ (World.block_lt_of_cell? W _ hcell) (fun e => hne (Option.some.inj e))
  case assign =>
    intro l x W K hK
    gi_wp2
    exact hK
  case body =>
    rintro l pre x W ⟨⟨rO, rA, rR⟩, rB⟩ _
    obtain ⟨c, hc⟩ : ∃ c, Hid (c = a ^ valB pre % 2305843009213693951) := ⟨_, rfl⟩
    rw [← hc.out] at rO
    have hcm : c < 2305843009213693951 := by rw [hc.out]; exact Nat.mod_lt _ (by omega)
    have T1 := fun w => timP_any c c w hcm hcm
    have hdm : c * c % 2305843009213693951 < 2305843009213693951 := Nat.mod_lt _ (by omega)
    have T2 := fun w => timP_any (c * c % 2305843009213693951) a w hdm ha
    obtain ⟨d, hd⟩ : ∃ d, Hid (d = c * c % 2305843009213693951) := ⟨_, rfl⟩
    rw [← hd.out] at T1 T2
    obtain ⟨d2, hd2⟩ : ∃ d2, Hid (d2 = d * a % 2305843009213693951) := ⟨_, rfl⟩
    rw [← hd2.out] at T2
    have o0 := rO.cell
    clear hdm hcm ha he
    cases x
    · gi_wp2_with fail
      refine ⟨trivial, ?_⟩
      gi_at_call 104
      refine (CallsIn.inRound l (callsIn_wide.2 (T1 _))).mono ?_
      rintro e' W1 ⟨rfl, b1⟩
      have rO1 := rO.below b1 rO.lt
      have f0 := rO1.frz
      have p0 := rO1.cell
      gi_wp2
      have ev : valB (pre ++ [false]) = 2 * valB pre := by rw [valB_snoc]; rfl
      refine ⟨(keeps_below b1).trans (KeepsOthers.setCell _ _ _), fun hk => ?_, ⟨⟨?_, ?_, ?_⟩, ?_⟩⟩
      · exact (set_cell W1 (w.heap.size + 1 + 1 + 1 + 1 + 1) _ (by omega)).trans ((b1.cell (p := ⟨w.heap.size + 1 + 1 + 1 + 1 + 1 + 1, 0, none⟩) (World.block_lt_of_cell? W _ hk)).trans hk)
      · rw [ev, ← pow_step0 a 2305843009213693951 c d _ hc.out hd.out]; exact rO1.set d
      · exact (rA.below b1 rA.lt).other (by omega) _
      · exact (rR.below b1 rR.lt).other (by omega) _
      · exact (rB.trans (b1.mono rB.size)).setCell (p := ⟨w.heap.size + 1 + 1 + 1 + 1 + 1, 0, none⟩) (by simp; omega) _
    · gi_wp2_with fail
      refine ⟨trivial, ?_⟩
      gi_at_call 104
      refine (CallsIn.inRound l (callsIn_wide.2 (T1 _))).mono ?_
      rintro e' W1 ⟨rfl, b1⟩
      have rO1 := rO.below b1 rO.lt
      have f0 := rO1.frz
      have p0 := rO1.cell
      have rO2 := rO1.set d
      have rA2 : Rp (W1.setCell ⟨w.heap.size + 1 + 1 + 1 + 1 + 1, 0, none⟩ (.int .u64 d)) _ _ _ := (rA.below b1 rA.lt).other (by omega) _
      have rR2 : Rp (W1.setCell ⟨w.heap.size + 1 + 1 + 1 + 1 + 1, 0, none⟩ (.int .u64 d)) _ _ _ := (rR.below b1 rR.lt).other (by omega) _
      have rB2 := (rB.trans (b1.mono rB.size)).setCell (p := ⟨w.heap.size + 1 + 1 + 1 + 1 + 1, 0, none⟩) (by simp; omega) (.int .u64 d)
      have k2 := (keeps_below b1).trans (KeepsOthers.setCell W1 ⟨w.heap.size + 1 + 1 + 1 + 1 + 1, 0, none⟩ (.int .u64 d))
      have c2 : W.cell? ⟨w.heap.size + 1 + 1 + 1 + 1 + 1 + 1, 0, none⟩ = some (.int .u64 e) → (W1.setCell ⟨w.heap.size + 1 + 1 + 1 + 1 + 1, 0, none⟩ (.int .u64 d)).cell? ⟨w.heap.size + 1 + 1 + 1 + 1 + 1 + 1, 0, none⟩ = some (.int .u64 e) := fun hk =>
        (set_cell W1 (w.heap.size + 1 + 1 + 1 + 1 + 1) _ (by omega)).trans ((b1.cell (p := ⟨w.heap.size + 1 + 1 + 1 + 1 + 1 + 1, 0, none⟩) (World.block_lt_of_cell? W _ hk)).trans hk)
      have q1 := rO2.cell
      have q3 := rA2.cell
      gi_wp2_with fail
      refine ⟨trivial, ?_⟩
      gi_at_call 104
      refine (CallsIn.inRound l (callsIn_wide.2 (T2 (W1.setCell ⟨w.heap.size + 1 + 1 + 1 + 1 + 1, 0, none⟩ (.int .u64 d))))).mono ?_
      rintro e' W3 ⟨rfl, b3⟩
      clear q1 q3 f0 p0 o0
      generalize W1.setCell ⟨w.heap.size + 1 + 1 + 1 + 1 + 1, 0, none⟩ (.int .u64 d) = W2 at *
      have rO3 := rO2.below b3 rO2.lt
      have f0 := rO3.frz
      have p0 := rO3.cell
      gi_wp2
      have ev : valB (pre ++ [true]) = 2 * valB pre + 1 := by rw [valB_snoc]; rfl
      refine ⟨k2.trans ((keeps_below b3).trans (KeepsOthers.setCell _ _ _)), fun hk => ?_, ⟨⟨?_, ?_, ?_⟩, ?_⟩⟩
      · exact (set_cell W3 (w.heap.size + 1 + 1 + 1 + 1 + 1) _ (by omega)).trans ((b3.cell (p := ⟨w.heap.size + 1 + 1 + 1 + 1 + 1 + 1, 0, none⟩) (World.block_lt_of_cell? W2 _ (c2 hk))).trans (c2 hk))
      · rw [ev, ← pow_step1 a 2305843009213693951 c d d2 _ hc.out hd.out hd2.out]; exact rO3.set d2
      · exact (rA2.below b3 rA2.lt).other (by omega) _
      · exact (rR2.below b3 rR2.lt).other (by omega) _
      · exact (rB2.trans (b3.mono rB2.size)).setCell (p := ⟨w.heap.size + 1 + 1 + 1 + 1 + 1, 0, none⟩) (by simp; omega) _
  case done =>
    rintro D xs W hD rfl ⟨⟨rO, rA, rR⟩, rB⟩ hK
    rw [valB_all e (by omega), ← hres.out] at rO
    have o0 := rO.cell
    have r0 := rR.cell
    have f0 := rR.frz
    gi_wp2
    refine ⟨by simp, .inl ⟨_, _, rfl, run_takeDeferred ((KeepsOthers.setCell W ⟨w.heap.size + 1, 0, none⟩ (.int .u64 res)).same D _ hK rfl), ?_⟩⟩
    have rF := rR.set res
    refine ⟨.agg #[.int .u64 res], ?_, rfl, ?_⟩
    · have hne : D ≠ w.heap.size + 1 := by omega
      have rG : Rp ((W.setCell ⟨w.heap.size + 1, 0, none⟩ (.int .u64 res)).putObj D (Obj.deferred none)) 179 (w.heap.size + 1) res :=
        ((grownBy_putObj' _ D (Obj.deferred none)).block _ rF.lt (fun e => hne (Option.some.inj e).symm)).trans rF
      exact results_mid (fn := Tryz.f182) (p := 4) (ty := 179) Tryz.results182 _ _ (w.heap.size + 1) 0 [.int .u64 res] _ rfl rG.range Tryz.underlying179 rfl (by kernel_rfl)
    · have hB3 := rB.setCell (p := ⟨w.heap.size + 1, 0, none⟩) (by simp) (.int .u64 res)
      exact hB3.grown (grownBy_putObj' _ D (Obj.deferred none)) hB3.size (fun k e => by cases e; omega)
  case stop =>
    rintro D c pre W _ _ h _
    exact h.elim
end Go.Proofs.YtjmhmajfkdglnaaGreatDoor
