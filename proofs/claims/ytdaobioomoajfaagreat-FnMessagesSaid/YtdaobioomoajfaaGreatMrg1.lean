import Derived.Test.YtdaobioomoajfaaGreatChecked
import Derived.WalkKit
import Derived.ProofKit
import Derived.WalkSpells
import Derived.WalkLawsBesides
import Derived.Outline
import Derived.Laws.Bits64b
import Derived.Test.YtdaobioomoajfaaGreatMrg0
import Derived.Laws.BytesArg
import Derived.Test.YtdaobioomoajfaaGreatProg
import Derived.Deep.MidRow
set_option linter.unusedVariables false
set_option maxRecDepth 100000
set_option maxHeartbeats 16000000
namespace Go.Proofs.YtdaobioomoajfaaGreat
open Go.RowKit
def Cod (W : World) (v : Value) : Prop := (∃ p c, v = .slice p 0 c) ∨ ∃ b o n c : Nat, 0 < n ∧ n ≤ 1048576 ∧ v = .slice (some ⟨b, o, none⟩) n c ∧ ∀ i, i < n → ∃ x : Nat, x < 256 ∧ W.cell? ⟨b, o + i, none⟩ = some (.int .u8 x)
theorem Cod.below {W W' : World} {v : Value} (h : Cod W v) (hb : Below W.heap.size W W') : Cod W' v := by
  rcases h with h | ⟨b, o, n, c, h0, h1, rfl, hc⟩
  · exact .inl h
  · refine .inr ⟨b, o, n, c, h0, h1, rfl, fun i hi => ?_⟩
    obtain ⟨x, hx, hcell⟩ := hc i hi
    exact ⟨x, hx, (hb.cell (p := ⟨b, o + i, none⟩) (World.block_lt_of_cell? W _ hcell)).trans hcell⟩
end Go.Proofs.YtdaobioomoajfaaGreat
namespace Go.Proofs.YtdaobioomoajfaaGreat
open Go.RowKit
theorem xor_i64 (a b : Nat) (ha : a < 9223372036854775808) (hb : b < 9223372036854775808) : bits .xor .i64 (a : Int) (b : Int) = ((a ^^^ b : Nat) : Int) := by
  have hx : a ^^^ b < 2 ^ 63 := Nat.xor_lt_two_pow (by omega) (by omega)
  have h1 : (BitVec.ofInt 64 (a : Int)).toNat = a := by
    rw [BitVec.ofInt_natCast, BitVec.toNat_ofNat]; exact Nat.mod_eq_of_lt (by omega)
  have h2 : (BitVec.ofInt 64 (b : Int)).toNat = b := by
    rw [BitVec.ofInt_natCast, BitVec.toNat_ofNat]; exact Nat.mod_eq_of_lt (by omega)
  show IntKind.i64.wrap ((BitVec.ofInt 64 (a : Int) ^^^ BitVec.ofInt 64 (b : Int)).toNat : Int) = _
  rw [BitVec.toNat_xor, h1, h2]
  generalize a ^^^ b = z at *
  simp [IntKind.wrap, IntKind.bits, IntKind.signed]
  omega
theorem ret_ii {a b c d : Int} (h : a = c) (h2 : b = d) : Ending.returned (.tuple #[.int .i64 a, .int .i64 b]) = .returned (.tuple #[.int .i64 c, .int .i64 d]) := by rw [h, h2]
theorem take_none_any (q : Option Addr) (c : Nat) (p n : Nat) (w : World) (hp : p ≤ 1000000) (hn : 1 ≤ n) :
    Calls Tryz.prog 23 #[.slice q 0 c, .int .i64 p, .int .i64 n] w fun e w' => e = .returned (.tuple #[.int .i64 0, .int .i64 ((p : Int) + 1)]) ∧ w = w' := by
  have h1 : ¬ ((n : Int) < 1) := by omega
  go_enter Tryz.func23, Tryz.ntmps23
  go_wp2
  go_ret2
  exact ⟨rfl, rfl⟩
theorem take_near (b o l c : Nat) (p n x : Nat) (w : World) (hl : l ≤ 1048576) (hn : 1 ≤ n) (hn2 : n ≤ 256) (hpl : p < l) (hx : x < 256) (hc : w.cell? ⟨b, o + p, none⟩ = some (.int .u8 x)) :
    Calls Tryz.prog 23 #[.slice (some ⟨b, o, none⟩) l c, .int .i64 p, .int .i64 n] w fun e w' => e = .returned (.tuple #[.int .i64 (x % n : Nat), .int .i64 ((p : Int) + 1)]) ∧ w = w' := by
  have h1 : ¬ ((n : Int) < 1) := by omega
  have h2 : ((l : Int) == 0) = false := by simp; omega
  have h3 : (p : Int) < (l : Int) := by omega
  have h4 : (n : Int) ≤ 256 := by omega
  have h5 : ¬ (n = 0) := by omega
  go_enter Tryz.func23, Tryz.ntmps23
  go_wp2
  go_ret2
  exact ⟨ret_ii (by simp) rfl, rfl⟩
theorem take_far (b o l c : Nat) (p n i j k x y : Nat) (w : World) (hl0 : 0 < l) (hl : l ≤ 1048576) (hn : 1 ≤ n) (hn2 : n ≤ 256) (hpl : ¬ p < l) (hp : p ≤ 1000000) (hx : x < 256) (hy : y < 256)
    (hi : i = p % l) (hj : j = (p * 7 + 3) % l) (hk : k = p / l) (hc : w.cell? ⟨b, o + i, none⟩ = some (.int .u8 x)) (hd : w.cell? ⟨b, o + j, none⟩ = some (.int .u8 y)) :
    Calls Tryz.prog 23 #[.slice (some ⟨b, o, none⟩) l c, .int .i64 p, .int .i64 n] w fun e w' => (∃ z : Nat, z < n ∧ e = .returned (.tuple #[.int .i64 z, .int .i64 ((p : Int) + 1)])) ∧ w = w' := by
  have h1 : ¬ ((n : Int) < 1) := by omega
  have h2 : ((l : Int) == 0) = false := by simp; omega
  have h3 : ¬ ((p : Int) < (l : Int)) := by omega
  have h5 : ¬ (n = 0) := by omega
  have h6 : ¬ (l = 0) := by omega
  have hi1 : i < l := by rw [hi]; exact Nat.mod_lt _ hl0
  have hj1 : j < l := by rw [hj]; exact Nat.mod_lt _ hl0
  have hk1 : k ≤ p := by rw [hk]; exact Nat.div_le_self _ _
  have ei : (p : Int) % (l : Int) = (i : Int) := by rw [hi]; simp
  have ej : ((p : Int) * 7 + 3) % (l : Int) = (j : Int) := by rw [hj]; simp
  have ek : (p : Int) / (l : Int) = (k : Int) := by rw [hk]; simp
  have hi2 : (i : Int) < (l : Int) := by omega
  have hj2 : (j : Int) < (l : Int) := by omega
  clear hi hj hk
  obtain ⟨t, ht⟩ : ∃ t : Nat, t = x * 131 + y * 1117 + p * 29 + k * 53 := ⟨_, rfl⟩
  have ht1 : t ≤ 1000000000 := by omega
  have e1 : (x : Int) * 131 + (y : Int) * 1117 + (p : Int) * 29 + (k : Int) * 53 = (t : Int) := by rw [ht]; simp
  have e2 : (t : Int) / 64 = ((t / 64 : Nat) : Int) := by omega
  have e3 := xor_i64 t (t / 64) (by omega) (by omega)
  rw [← e2] at e3
  have ez : ((t ^^^ (t / 64) : Nat) : Int).tmod (n : Int) = (((t ^^^ (t / 64)) % n : Nat) : Int) := by rw [Int.tmod_eq_emod_of_nonneg (Int.natCast_nonneg _)]; simp
  have hz : (t ^^^ (t / 64)) % n < n := Nat.mod_lt _ (by omega)
  generalize (t ^^^ (t / 64)) % n = z at *
  generalize t ^^^ (t / 64) = y' at *
  clear ht e2
  go_enter Tryz.func23, Tryz.ntmps23
  go_wp2
  go_ret2
  exact ⟨⟨z, hz, rfl⟩, rfl⟩
theorem take_any (v : Value) (p n : Nat) (w : World) (hv : Cod w v) (hn : 1 ≤ n) (hn2 : n ≤ 256) (hp : p ≤ 1000000) :
    Calls Tryz.prog 23 #[v, .int .i64 p, .int .i64 n] w fun e w' => (∃ z : Nat, z < n ∧ e = .returned (.tuple #[.int .i64 z, .int .i64 ((p : Int) + 1)])) ∧ w = w' := by
  rcases hv with ⟨q, c, rfl⟩ | ⟨b, o, l, c, h0, h1, rfl, hc⟩
  · refine (take_none_any q c p n w hp hn).mono ?_
    rintro e w' ⟨rfl, rfl⟩
    exact ⟨⟨0, by omega, rfl⟩, rfl⟩
  · by_cases hpl : p < l
    · obtain ⟨x, hx, hcell⟩ := hc p hpl
      refine (take_near b o l c p n x w h1 hn hn2 hpl hx hcell).mono ?_
      rintro e w' ⟨rfl, rfl⟩
      exact ⟨⟨x % n, Nat.mod_lt _ (by omega), rfl⟩, rfl⟩
    · obtain ⟨x, hx, hcell⟩ := hc (p % l) (Nat.mod_lt _ h0)
      obtain ⟨y, hy, hcell2⟩ := hc ((p * 7 + 3) % l) (Nat.mod_lt _ h0)
      exact take_far b o l c p n _ _ _ x y w h0 h1 hn hn2 hpl hp hx hy rfl rfl rfl hcell hcell2
end Go.Proofs.YtdaobioomoajfaaGreat
namespace Go.Proofs.YtdaobioomoajfaaGreat
open Go.RowKit
theorem infoU8d : (Tryz.prog.info? 5).map (fun i => (i.zero, i.size, i.bytes)) = some (some (.int .u8 0), 1, 1) := by kernel_rfl
theorem byt_any (v : Value) (p n : Nat) (w : World) (hv : Cod w v) (hn : n ≤ 1000) (hp : p ≤ 100000) :
    Calls Tryz.prog 31 #[v, .int .i64 p, .int .i64 n] w fun e w' => (∃ s : ByteArray, s.size = n ∧ e = .returned (.tuple #[.string s, .int .i64 ((p : Int) + (n : Int))])) ∧ Below w.heap.size w w' := by
  obtain ⟨i0, hi, hz0, hz1, hz2⟩ := info_parts infoU8d
  go_enter Tryz.func31, Tryz.ntmps31
  go_wp2
  go_loopw [1, 8, 9] (fun q u i wr => ∃ (j g cap : Nat) (l : List Int), j ≤ n ∧ i = .int .i64 (j : Int) ∧ q = .int .i64 ((p : Int) + (j : Int)) ∧ u = .slice (some ⟨g, 0, none⟩) j cap ∧ l.length = j ∧ Row wr w.heap.size g j cap (l.map (Value.int .u8)) ∧ Below w.heap.size w wr) (fun _ _ i _ => n - (intOf i).toNat)
  case atStart => exact ⟨0, w.heap.size, 0, [], by omega, rfl, by simp, rfl, rfl, Row.of_block (n := 0) (cs := #[]) (heap_alloc_new w _) (Nat.le_refl _) (by simp) (by simp), (Below.refl _ _).alloc (Nat.le_refl _) _⟩
  case round =>
    obtain ⟨j, g1, cap1, l, hj, rfl, rfl, rfl, hll, hrow, hbl⟩ := hrel
    have hsz1 : w.heap.size ≤ wr.heap.size := hbl.size
    by_cases hlt : j < n
    · have T := fun w hv => take_any v (p + j) 256 w hv (by omega) (by omega) (by omega)
      have e1 : ((p + j : Nat) : Int) = (p : Int) + (j : Int) := by omega
      rw [e1] at T
      have hlti : (j : Int) < (n : Int) := by omega
      clear e1
      go_wp2_with fail
      refine (T _ (hv.below hbl)).mono ?_
      rintro e w2 ⟨⟨z, hz, rfl⟩, rfl⟩
      clear T
      have ez : IntKind.u8.wrap (z : Int) = (z : Int) := by rw [IntKind.wrap_u8]; omega
      go_wp2_with (first
        | (at_builtin; refine wpList_append_row rfl _ _ 22 rfl w.heap.size 5 i0 (.int .u8 0) 1 Tryz.underlying22 hi hz0 hz1 hz2 rfl g1 j cap1 (l.map (Value.int .u8)) rfl (hrow.alloc _) ⟨wr.heap.size, 0, none⟩ 1 1 [.int .u8 z] rfl rfl (World.news_of_block (cs := #[.int .u8 z]) (heap_alloc_new wr _)) (by simp [Value.oneCell']) (by unfold maxLen; omega) (by omega) (by simp; omega) _ rfl ?_; intro g3 cap3 w3 hrow3 hgr3 _ _)
        | go_in)
      have R1 : Row w3 w.heap.size g3 (j + 1) cap3 ((l ++ [(z : Int)]).map (Value.int .u8)) := by rw [List.map_append]; exact hrow3
      have R2 : Below w.heap.size w w3 := (hbl.alloc hsz1 _).grown hgr3 (by simp; omega) (fun r hr => by simp at hr; have := hrow.lo; omega)
      go_roundw
      case rel => exact ⟨j + 1, g3, cap3, l ++ [(z : Int)], by omega, by go_num, (by first | (congr 1; omega) | congr 1), rfl, by simp [hll], R1, R2⟩
      case measure => simp [intOf]; omega
    · obtain rfl : j = n := by omega
      have hcv := run_convert_bytes_arg (P := Tryz.prog) wr 22 5 Tryz.underlying22 Tryz.underlying5 g1 0 j cap1 l hll (fun i h => by rw [Nat.zero_add]; exact hrow.cell i h) 9 Tryz.underlying9
      go_wp2
      go_ret2
      exact ⟨⟨_, by rw [strOfNums_size]; exact hll, rfl⟩, hbl⟩
end Go.Proofs.YtdaobioomoajfaaGreat
namespace Go.Proofs.YtdaobioomoajfaaGreat
open Go.RowKit
def strLen : Value → Nat
  | .string s => s.size
  | _ => 0
end Go.Proofs.YtdaobioomoajfaaGreat
namespace Go.Proofs.YtdaobioomoajfaaGreat
open Go.RowKit
theorem ret_ui {a b c d : Int} (h : a = c) (h2 : b = d) : Ending.returned (.tuple #[.int .u64 a, .int .i64 b]) = .returned (.tuple #[.int .u64 c, .int .i64 d]) := by rw [h, h2]
end Go.Proofs.YtdaobioomoajfaaGreat
namespace Go.Proofs.YtdaobioomoajfaaGreat
open Go.RowKit
def Bk (W : World) (t : TypeId) (b : Nat) (cs : Array Value) : Prop := W.heap[b]? = some (.cells cs t)
section
variable {W W' : World} {t : TypeId} {b : Nat} {cs : Array Value}
theorem Bk.cell (h : Bk W t b cs) {k : Nat} {v : Value} (hk : cs[k]? = some v) : W.cell? ⟨b, k, none⟩ = some v := by
  rw [cell_of_row _ _ _ _ _ _ h]; exact hk
theorem Bk.frz (h : Bk W t b cs) (i : Nat) : W.frozen? ⟨b, i, none⟩ = false := by unfold Bk at h; simp [World.frozen?, h]
theorem Bk.lt (h : Bk W t b cs) : b < W.heap.size := (Array.getElem?_eq_some_iff.1 h).1
theorem Bk.keep (h : Bk W t b cs) (hb : Below W.heap.size W W') : Bk W' t b cs := (hb.block b h.lt).trans h
theorem Bk.new (w : World) (t : TypeId) (cs : Array Value) : Bk (w.alloc (.cells cs t)) t w.heap.size cs := heap_alloc_new w _
theorem Bk.alloc (h : Bk W t b cs) (o : Obj) : Bk (W.alloc o) t b cs := (Below.heap_alloc W o b h.lt).trans h
theorem Bk.at {b' : Nat} (h : Bk W t b cs) (e : b = b') : Bk W t b' cs := e ▸ h
theorem Bk.range (h : Bk W t b cs) : W.rangeAt b 0 cs.toList := fun j v hj => by
  rw [Nat.zero_add]
  exact h.cell (by rw [← hj, Array.getElem?_toList])
theorem Bk.set (h : Bk W t b cs) (i : Nat) (v : Value) : Bk (W.setCell ⟨b, i, none⟩ v) t b (cs.setIfInBounds i v) := by
  unfold Bk at *
  simp [World.setCell, Array.getElem?_modify, h]
theorem Bk.other (h : Bk W t b cs) {b' : Nat} (hne : b ≠ b') (i : Nat) (v : Value) : Bk (W.setCell ⟨b', i, none⟩ v) t b cs := by
  unfold Bk at *
  rw [← h]
  simp [World.setCell, Array.getElem?_modify, Ne.symm hne]
theorem Bk.there (h : Bk W t b cs) (n : Nat) (hn : n ≤ cs.size) : W.there b 0 n := fun j hj => by
  rw [Nat.zero_add]
  exact ⟨by rw [h.cell (v := cs[j]'(by omega)) (Array.getElem?_eq_getElem (by omega))]; rfl, h.frz j⟩
theorem bk_res1 {fn : Func} {p : Tmp} {d : TypeDesc} (h : fn.results = #[.cell p t]) (tmps : Array Value) (hp : tmps.getD p undef = .pointer (some ⟨b, 0, none⟩)) (hc : Bk W t b cs) (hu : Tryz.prog.underlying t = some d) (hd : d.isRow = true) (hi : (Tryz.prog.info? t).map (·.size) = some cs.size) :
    (results fn tmps).run Tryz.prog W = .ok (.agg cs) W := by
  have hp' : tmps[p]?.getD undef = .pointer (some ⟨b, 0, none⟩) := by simpa using hp
  have hl := run_loadVar_mid (P := Tryz.prog) W b 0 t cs.toList d hc.range hu hd (by rw [hi, Array.length_toList])
  simp [results, h, hp', asAddr, hl]
theorem bk_res2 {fn : Func} {p u : Tmp} {d : TypeDesc} (h : fn.results = #[.cell p t, .tmp u]) (tmps : Array Value) (hp : tmps.getD p undef = .pointer (some ⟨b, 0, none⟩)) (hc : Bk W t b cs) (hu : Tryz.prog.underlying t = some d) (hd : d.isRow = true) (hi : (Tryz.prog.info? t).map (·.size) = some cs.size) :
    (results fn tmps).run Tryz.prog W = .ok (.tuple #[.agg cs, tmps.getD u undef]) W := by
  have hp' : tmps[p]?.getD undef = .pointer (some ⟨b, 0, none⟩) := by simpa using hp
  have hl := run_loadVar_mid (P := Tryz.prog) W b 0 t cs.toList d hc.range hu hd (by rw [hi, Array.length_toList])
  simp [results, h, hp', asAddr, hl]
end
end Go.Proofs.YtdaobioomoajfaaGreat
namespace Go.Proofs.YtdaobioomoajfaaGreat
open Go.RowKit
def dblU (n : Nat) (s : ByteArray) : Nat → ByteArray
  | 0 => s
  | k + 1 => if s.size * 2 ≤ n then dblU n (s ++ s) k else s
theorem dblU_end {n : Nat} {s : ByteArray} (h : ¬ s.size * 2 ≤ n) : ∀ k, dblU n s k = s
  | 0 => rfl
  | k + 1 => if_neg h
theorem dblU_size (n m : Nat) : ∀ (k : Nat) (s : ByteArray), 1 ≤ s.size → s.size ≤ n + m → 1 ≤ (dblU n s k).size ∧ (dblU n s k).size ≤ n + m
  | 0, s, h, h' => ⟨h, h'⟩
  | k + 1, s, h, h' => by
    unfold dblU
    by_cases hs : s.size * 2 ≤ n
    · rw [if_pos hs]
      have hz : (s ++ s).size = s.size + s.size := by simp
      exact dblU_size n m k (s ++ s) (by omega) (by omega)
    · rw [if_neg hs]
      exact ⟨h, h'⟩
theorem longU (b : ByteArray) (hb : 1 ≤ b.size) (hb2 : b.size ≤ 100) : ∀ (n : Nat), n ≤ 65536 → ∃ s : ByteArray, s.size ≤ n + b.size ∧ (1 ≤ n → 1 ≤ s.size) ∧ ∀ (w : World),
    Calls Tryz.prog 39 #[.int .i64 n, .string b] w fun e w' => e = .returned (.string s) ∧ w = w' := by
  intro n
  induction n using Nat.strongRecOn with
  | _ n ih =>
  intro hn
  by_cases h0 : n = 0
  · subst h0
    refine ⟨ByteArray.empty, by simp, fun h => by omega, fun w => ?_⟩
    go_enter Tryz.func39, Tryz.ntmps39
    go_wp2
    go_loop [5] (fun v => v = .string ByteArray.empty) (fun _ => 0)
    case atStart => rfl
    case round =>
      subst hrel
      go_wp2
      go_ret
      exact ⟨rfl, rfl⟩
  · have hpos : (0 : Int) < (n : Int) := by omega
    obtain ⟨D, hD⟩ : ∃ D, dblU n b (n + b.size + 2) = D := ⟨_, rfl⟩
    obtain ⟨hD1, hD2⟩ := dblU_size n b.size (n + b.size + 2) b (by omega) (by omega)
    rw [hD] at hD1 hD2
    obtain ⟨r, hr, I⟩ : ∃ r : ByteArray, r.size ≤ n + b.size ∧ ((D.size < n ∧ r.size ≤ n - D.size + b.size ∧ ∀ w, Calls Tryz.prog 39 #[.int .i64 ((n : Int) - (D.size : Int)), .string b] w fun e w' => e = .returned (.string r) ∧ w = w') ∨ (¬ D.size < n ∧ r = ByteArray.empty)) := by
      by_cases hl : D.size < n
      · obtain ⟨r, hr, -, H⟩ := ih (n - D.size) (by omega) (by omega)
        have e1 : ((n - D.size : Nat) : Int) = (n : Int) - (D.size : Int) := by omega
        rw [e1] at H
        exact ⟨r, by omega, .inl ⟨hl, hr, H⟩⟩
      · exact ⟨ByteArray.empty, by simp, .inr ⟨hl, rfl⟩⟩
    refine ⟨D ++ r, ?_, fun _ => by rw [ByteArray.size_append]; omega, fun w => ?_⟩
    · rcases I with ⟨hl, h2, -⟩ | ⟨hl, rfl⟩
      · simp; omega
      · simp; omega
    clear ih
    go_enter Tryz.func39, Tryz.ntmps39
    go_wp2
    go_loop [5] (fun v => ∃ (s : ByteArray) (k : Nat), v = .string s ∧ 1 ≤ s.size ∧ s.size ≤ n + b.size ∧ n + b.size + 2 - s.size ≤ k ∧ dblU n s k = D) (fun v => n + b.size + 2 - strLen v)
    case atStart => exact ⟨b, n + b.size + 2, rfl, by omega, by omega, by omega, hD⟩
    case round =>
      obtain ⟨s, k, rfl, h2, h3, hk, hs⟩ := hrel
      by_cases hm : s.size * 2 ≤ n
      · have hmi : (s.size : Int) * 2 ≤ (n : Int) := by omega
        obtain ⟨k', rfl⟩ : ∃ k', k = k' + 1 := ⟨k - 1, by omega⟩
        have hsz : (s ++ s).size = s.size + s.size := by simp
        unfold dblU at hs
        rw [if_pos hm] at hs
        clear I hD
        go_wp2
        go_round
        case rel => exact ⟨s ++ s, k', rfl, by omega, by omega, by omega, hs⟩
        case measure => simp [strLen]; omega
      · have hmi : ¬ ((s.size : Int) * 2 ≤ (n : Int)) := by omega
        rw [dblU_end hm] at hs
        subst hs
        rcases I with ⟨hl, -, I⟩ | ⟨hl, rfl⟩
        · have hli : (s.size : Int) < (n : Int) := by omega
          clear hD
          go_wp2_with fail
          refine (I _).mono ?_
          rintro e w' ⟨rfl, rfl⟩
          clear I
          go_wp2
          go_ret
          exact ⟨rfl, rfl⟩
        · have hli : ¬ ((s.size : Int) < (n : Int)) := by omega
          clear hD
          go_wp2
          go_ret
          exact ⟨rfl, rfl⟩
theorem dusr (v : Value) (p : Nat) (w : World) (hv : Cod w v) (hp : p ≤ 10000) :
    Calls Tryz.prog 29 #[v, .int .i64 p] w fun e w' => (∃ (s : ByteArray), 1 ≤ s.size ∧ s.size ≤ 40 ∧ e = .returned (.tuple #[.string s, .int .i64 (p + 1 : Nat)])) ∧ Below w.heap.size w w' := by
  have T1 := take_any v p 30 w hv (by omega) (by omega) (by omega)
  have hg := Bk.new w 9 #[.string ⟨#[97, 110, 110]⟩, .string ⟨#[98, 111, 98]⟩, .string ⟨#[99, 121, 100]⟩, .string ⟨#[100, 97, 110]⟩, .string ⟨#[101, 118, 101]⟩, .string ⟨#[102, 97, 121]⟩, .string ⟨#[103, 117, 115]⟩, .string ⟨#[104, 97, 108]⟩, .string ⟨#[105, 100, 97]⟩, .string ⟨#[106, 105, 109]⟩]
  have hB := (Below.refl _ w).alloc (Nat.le_refl _) (Obj.cells #[.string ⟨#[97, 110, 110]⟩, .string ⟨#[98, 111, 98]⟩, .string ⟨#[99, 121, 100]⟩, .string ⟨#[100, 97, 110]⟩, .string ⟨#[101, 118, 101]⟩, .string ⟨#[102, 97, 121]⟩, .string ⟨#[103, 117, 115]⟩, .string ⟨#[104, 97, 108]⟩, .string ⟨#[105, 100, 97]⟩, .string ⟨#[106, 105, 109]⟩] 9)
  obtain ⟨W1, eW1⟩ : ∃ W, w.alloc (Obj.cells #[.string ⟨#[97, 110, 110]⟩, .string ⟨#[98, 111, 98]⟩, .string ⟨#[99, 121, 100]⟩, .string ⟨#[100, 97, 110]⟩, .string ⟨#[101, 118, 101]⟩, .string ⟨#[102, 97, 121]⟩, .string ⟨#[103, 117, 115]⟩, .string ⟨#[104, 97, 108]⟩, .string ⟨#[105, 100, 97]⟩, .string ⟨#[106, 105, 109]⟩] 9) = W := ⟨_, rfl⟩
  rw [eW1] at hg hB
  go_enter Tryz.func29, Tryz.ntmps29
  go_wp2_with fail
  refine T1.mono ?_
  rintro e w1 ⟨⟨h, hh, rfl⟩, rfl⟩
  clear T1
  by_cases h29 : h = 29
  · subst h29
    obtain ⟨s, hs, hs1, L⟩ := longU ⟨#[117]⟩ (by decide) (by decide) 32 (by omega)
    replace hs1 := hs1 (by omega)
    go_wp2_with fail
    refine (L _).mono ?_
    rintro e w2 ⟨rfl, rfl⟩
    go_wp2
    exact bodyPost_ret (v := .tuple #[.string s, .int .i64 ((p : Int) + 1)]) (by simp [results, Tryz.results29]) rfl ⟨⟨s, hs1, by have : (⟨#[117]⟩ : ByteArray).size = 1 := rfl; omega, rfl⟩, hB⟩
  · have g : ¬ (h : Int) = 29 := by omega
    have er : ((h : Nat) : Int).tmod 10 = ((h % 10 : Nat) : Int) := (Int.ofNat_tmod h 10).symm
    obtain ⟨u, hu1, hu2, hc⟩ : ∃ u : ByteArray, 1 ≤ u.size ∧ u.size ≤ 40 ∧ W1.cell? ⟨w.heap.size, h % 10, none⟩ = some (.string u) := by
      have h10 := Nat.mod_lt h (show 0 < 10 by decide)
      generalize h % 10 = r at *
      rcases (show r = 0 ∨ r = 1 ∨ r = 2 ∨ r = 3 ∨ r = 4 ∨ r = 5 ∨ r = 6 ∨ r = 7 ∨ r = 8 ∨ r = 9 by omega) with rfl | rfl | rfl | rfl | rfl | rfl | rfl | rfl | rfl | rfl
      · exact ⟨_, by decide, by decide, hg.cell (k := 0) rfl⟩
      · exact ⟨_, by decide, by decide, hg.cell (k := 1) rfl⟩
      · exact ⟨_, by decide, by decide, hg.cell (k := 2) rfl⟩
      · exact ⟨_, by decide, by decide, hg.cell (k := 3) rfl⟩
      · exact ⟨_, by decide, by decide, hg.cell (k := 4) rfl⟩
      · exact ⟨_, by decide, by decide, hg.cell (k := 5) rfl⟩
      · exact ⟨_, by decide, by decide, hg.cell (k := 6) rfl⟩
      · exact ⟨_, by decide, by decide, hg.cell (k := 7) rfl⟩
      · exact ⟨_, by decide, by decide, hg.cell (k := 8) rfl⟩
      · exact ⟨_, by decide, by decide, hg.cell (k := 9) rfl⟩
    have h10 := Nat.mod_lt h (show 0 < 10 by decide)
    generalize h % 10 = r at *
    have h10' : (r : Int) < 10 := by omega
    go_wp2
    exact bodyPost_ret (v := .tuple #[.string u, .int .i64 ((p : Int) + 1)]) (by simp [results, Tryz.results29]) rfl ⟨⟨u, hu1, hu2, rfl⟩, hB⟩
end Go.Proofs.YtdaobioomoajfaaGreat
