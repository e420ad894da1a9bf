import Derived.Test.YtjmhmajfkdglnaaDoorMrg26
import Derived.Test.YtjmhmajfkdglnaaDoorMrg25
import Derived.Test.YtjmhmajfkdglnaaDoorMrg17
import Derived.Deep.RegionHeld3
import Derived.Laws.ResultCell
namespace Go.Proofs.YtjmhmajfkdglnaaDoor
open Go.RowKit
set_option linter.unusedVariables false


set_option maxRecDepth 100000 in
set_option maxHeartbeats 1000000 in
theorem reduI_any (s : ByteArray) (m : Nat) (w : World) (hs : s.size ≤ 65535) (hm : m < 18446744073709551616) (h0 : m ≠ 0) :
    Calls Tryd.prog 36 #[.string s, .int .u64 m] w fun e w' => e = .returned (.int .u64 (numL (byt s) % m : Nat)) ∧ Below w.heap.size w w' := by
  obtain ⟨c, hc⟩ : ∃ c, Hid (c = numL (byt s) % m) := ⟨_, rfl⟩
  rw [← hc.out]
  have z0 : ((m : Int) == 0) = false := by simp; omega
  have z1 : ¬ ((65535 : Int) < (s.size : Int)) := by omega
  go_enter Tryd.func36, Tryd.ntmps36
  go_wp2
  go_loopw [5, 16] (fun rv iv wr => ∃ (k r : Nat), k ≤ s.size ∧ r < m ∧ iv = .int .i64 (k : Int) ∧ rv = .int .u64 (r : Int) ∧ Hid (r = numL ((byt s).take k) % m) ∧ Below w.heap.size w wr) (fun _ i _ => s.size - (intOf i).toNat)
  case atStart => exact ⟨0, 0, by omega, by omega, rfl, rfl, by simp [Hid, numL], Below.refl _ _⟩
  case round =>
    obtain ⟨k, r, hk, hrm, rfl, rfl, hr, hbl⟩ := hrel
    by_cases hlt : k < s.size
    · have hlti : (k : Int) < (s.size : Int) := by omega
      have hv := s[k].toNat_lt
      have e0 : IntKind.u64.wrap (s[k].toNat : Int) = (s[k].toNat : Int) := by simp only [IntKind.wrap_u64]; omega
      have e1 := or_byte r s[k]
      have e2 : (r : Int) / 72057594037927936 = ((r / 72057594037927936 : Nat) : Int) := by omega
      have D := fun w => div_any (r / 72057594037927936) (r * 256 % 18446744073709551616 + s[k].toNat) m w (by omega) hm (by omega)
      have e3 : r / 72057594037927936 * 18446744073709551616 + (r * 256 % 18446744073709551616 + s[k].toNat) = r * 256 + s[k].toNat := by omega
      rw [e3] at D
      have hn : Hid ((r * 256 + s[k].toNat) % m = numL ((byt s).take (k + 1)) % m) := by
        simp only [Hid]; rw [numL_take s k hlt, hr.out, Nat.add_mod, Nat.mod_mul_mod, ← Nat.add_mod]
      have hd := Nat.mod_lt (r * 256 + s[k].toNat) (show 0 < m by omega)
      generalize (r * 256 + s[k].toNat) % m = r' at *
      generalize r / 72057594037927936 = hi at *
      generalize r * 256 % 18446744073709551616 + s[k].toNat = lo at *
      clear hv e3 hs hm h0
      go_wp2_with fail
      refine (D _).mono ?_
      rintro e w' ⟨⟨z, rfl⟩, hw⟩
      have hb2 : Below w.heap.size w w' := by
        rcases hw with rfl | rfl
        · exact hbl
        · exact hbl.drew
      clear hw
      go_wp2
      go_roundw
      case rel => exact ⟨k + 1, r', by omega, hd, by go_num, rfl, hn, hb2⟩
      case measure => simp [intOf]; omega
    · obtain rfl : k = s.size := by omega
      rw [List.take_of_length_le (by rw [byt_length]; omega)] at hr
      go_wp2
      go_ret
      exact ⟨congrArg (fun z : Int => Ending.returned (Value.int .u64 z)) (by rw [hc.out, hr.out]), hbl⟩
set_option maxRecDepth 100000 in
theorem reduI_zero (s : ByteArray) (w : World) :
    Calls Tryd.prog 36 #[.string s, .int .u64 0] w fun e w' => e = .returned (.int .u64 0) ∧ Below w.heap.size w w' := by
  go_enter Tryd.func36, Tryd.ntmps36
  go_wp2
  go_ret
  exact ⟨rfl, Below.refl _ _⟩
set_option maxRecDepth 100000 in
theorem reduI_long (s : ByteArray) (m : Nat) (w : World) (hs : ¬ s.size ≤ 65535) (h0 : m ≠ 0) :
    Calls Tryd.prog 36 #[.string s, .int .u64 m] w fun e w' => e = .returned (.int .u64 0) ∧ Below w.heap.size w w' := by
  have z0 : ((m : Int) == 0) = false := by simp; omega
  have z1 : ((65535 : Int) < (s.size : Int)) := by omega
  clear hs h0
  go_enter Tryd.func36, Tryd.ntmps36
  go_wp2
  go_ret
  exact ⟨rfl, Below.refl _ _⟩
end Go.Proofs.YtjmhmajfkdglnaaDoor

namespace Go.Proofs.YtjmhmajfkdglnaaDoor
open Go.RowKit
set_option linter.unusedVariables false

theorem step_append_ownN {P : Program} {w : World} {ops : Array Oper} {o : Oper} {a : Act} {K : Act → World → Prop} {Q : Exit → Act → World → Prop} {E : Prop} (hgd : o.guard = none) (s x : Operand) (t : TypeId)
    (ho : o.op = .call { callee := .builtin .append, args := #[s, x], argTypes := #[t, t] })
    (base : Nat) (e : TypeId) (i : TypeInfo) (z : Value) (size bytes : Nat) (ht : P.underlying t = some (.slice e)) (hi : P.info? e = some i) (hz : i.zero = some z)
    (hsize : i.size = size) (hby : i.bytes = bytes) (hzs : z.cells.size = size) (hsz : 0 < size)
    (v : Value) (n : Nat) (xs : List Value) (hs : a.eval s = v) (hown : w.ownsRow base e size v n xs)
    (ad : Addr) (m c : Nat) (news : List Value) (hx : a.eval x = .slice (some ad) m c) (hl : news.length = m * size) (hnews : ∀ j u, news[j]? = some u → w.cell? (ad.add j) = some u) (h1 : ∀ u ∈ news, u.oneCell' = true)
    (h63 : n + m ≤ maxLen) (hbytes : (n + m) * bytes ≤ 140737488355328) (hbase : base ≤ w.heap.size)
    (h : ∀ v' w', w'.ownsRow base e size v' (n + m) (xs ++ news) → w.grownBy w' v.ownBlock → (v' = .slice none 0 0 ↔ v = .slice none 0 0 ∧ m = 0) → K (a.put o.dst v') w') :
    if Region.wanted o (yielded ops a.tmps) = true then Oper.wp P o a w K Q else E := by
  have hw : Region.wanted o (yielded ops a.tmps) = true := by simp [Region.wanted, hgd]
  rw [if_pos hw]
  exact wp_append_own w s x t ho base e i z size bytes ht hi hz hsize hby hzs hsz v n xs hs hown ad m c news hx hl hnews h1 h63 hbytes hbase h
theorem methN' (w : World) : (method 279 50 (.agg #[]) "loop.example/s02095/impl.value").run Tryd.prog w = .ok (96, .agg #[]) w := by kernel_rfl
set_option maxRecDepth 100000 in
theorem valN' (w : World) :
    Calls Tryd.prog 96 #[.agg #[]] w fun e w' => e = .returned (.int .u64 2305843010818082053) ∧ w' = w.alloc (.cells #[] 50) := by
  go_enter Tryd.func96, Tryd.ntmps96
  go_wp2
  go_ret
  exact ⟨rfl, rfl⟩
theorem foldN' : Array.foldl (fun (cs : Array Value) (x : Value × Nat) => cs.setIfInBounds x.snd x.fst) #[Value.int IntKind.u64 0] (#[] : Array Value).zipIdx 0 0 = #[Value.int .u64 0] := rfl
set_option maxRecDepth 100000 in
set_option maxHeartbeats 2000000 in
theorem redN_of (n c : Int) (w : World) (h0 : 0 ≤ n) (hc : n.tmod 2305843010818082053 = c) :
    Calls Tryd.prog 35 #[.int .u64 n, .agg #[]] w fun e w' => e = .returned (.agg #[.int .u64 c]) ∧ Below w.heap.size w w' := by
  have hm := methN'
  have hf := foldN'
  have V := valN'
  go_enter Tryd.func35, Tryd.ntmps35
  go_wp2
  go_region_held3 (fun _ => True) (trivial) ((go_simp; go_at_call 96; refine (V _).mono ?_; rintro e w' ⟨rfl, rfl⟩))
  go_wp2
  refine bodyPost_ret (v := .agg #[.int .u64 c]) (by simp [results, Tryd.results35, go_sem]) rfl ⟨rfl, ?_⟩
  exact ((((Below.refl _ w).alloc (Nat.le_refl _) _).alloc (by simp) _).alloc (by simp; omega) _).drew

theorem infoN : (Tryd.prog.info? 52).map (fun i => (i.zero, i.size, i.bytes)) = some (some (.agg #[.int .u64 0]), 1, 8) := by kernel_rfl
def cellsN (H : List Int) : List Value := H.map fun x => .int .u64 x
theorem cellsN_app (l r : List Int) : cellsN (l ++ r) = cellsN l ++ cellsN r := by simp [cellsN]

set_option maxRecDepth 100000 in
set_option maxHeartbeats 2000000 in
theorem h2nN_yes (msg tag : ByteArray) (c : Nat) (w : World) (hT : TabK w) (h : okH msg tag 2305843010818082053 c) :
    Calls Tryd.prog 25 #[.string msg, .string tag, .agg #[], .int .i64 c] w fun e w' => ∃ v, e = .returned (.tuple #[v, .bool true]) ∧ w'.ownsRow w.heap.size 52 1 v c (cellsN (h2f (byt msg) (byt tag) 2305843010818082053 c)) ∧ Below w.heap.size w w' := by
  obtain ⟨i0, hi, hz0, hz1, hz2⟩ := info_parts infoN
  obtain ⟨h1, h2, h3, h4⟩ := h
  obtain ⟨N, hN⟩ : ∃ N : Nat, N = 24 * c := ⟨_, rfl⟩
  have hNi : (N : Int) = 24 * (c : Int) := by omega
  have X := fun w hT => exmI_yes msg tag N w hT (by rw [hNi]; exact h4)
  rw [hNi] at X
  have hlen := expM_length (byt msg) (byt tag) N
  have hby := expM_lt (byt msg) (byt tag) N
  have hll := h2f_length (byt msg) (byt tag) 2305843010818082053 c
  have htk := h2f_take (byt msg) (byt tag) 2305843010818082053 c
  rw [← hN] at htk
  generalize expM (byt msg) (byt tag) N = L at *
  generalize h2f (byt msg) (byt tag) 2305843010818082053 c = H at *
  have hzS : (strOfNums L).size = 24 * c := by rw [strOfNums_size]; omega
  have g1 : ¬ (c : Int) < 1 := by omega
  have g2 : ¬ (340 : Int) < (c : Int) := by omega
  have hme := methN'
  have hgw : 9 < w.heap.size := World.block_lt_of_cell? w _ (hT 0 (by omega))
  have hbB : Below w.heap.size w (w.alloc (.cells #[] 50)) := (Below.refl _ _).alloc (Nat.le_refl _) _
  have hTB : TabK (w.alloc (.cells #[] 50)) := fun i hi => (hbB.cell (p := ⟨9, i, none⟩) hgw).trans (hT i hi)
  have V : ∀ w : World, Calls Tryd.prog 96 #[.agg #[]] w fun e w' => e = .returned (.int .u64 2305843010818082053) ∧ Below w.heap.size w w' := fun w => (valN' w).mono fun e w' ⟨h, h'⟩ => ⟨h, h' ▸ (Below.refl _ _).alloc (Nat.le_refl _) _⟩
  go_enter Tryd.func25, Tryd.ntmps25
  go_wp2_with fail
  refine (X _ hTB).mono ?_
  rintro e W1 ⟨rfl, hb0⟩
  replace hb0 := hbB.trans (hb0.mono hbB.size)
  clear X hbB hTB
  go_wp2
  go_loopw [12, 13, 14, 32] (fun ov _ _ iv wr => ∃ k : Nat, k ≤ c ∧ iv = .int .i64 (k : Int) ∧ wr.ownsRow w.heap.size 52 1 ov k (cellsN (H.take k)) ∧ Below w.heap.size w wr) (fun _ _ _ i _ => c - (intOf i).toNat)
  case atStart => exact ⟨0, by omega, rfl, World.ownsRow_nil _ _ _ _, hb0⟩
  case round =>
    clear hb0
    obtain ⟨k, hk, rfl, hown, hbl⟩ := hrel
    have hsz := hbl.size
    by_cases hlt : k < c
    · have hli : (k : Int) < (c : Int) := by omega
      have q1 : IntKind.i64.wrap (24 * (k : Int)) = 24 * (k : Int) := i64_in _ (by omega) (by omega)
      have q2 : IntKind.i64.wrap ((k : Int) + 1) = (k : Int) + 1 := i64_in _ (by omega) (by omega)
      have q5 : IntKind.i64.wrap (24 * ((k : Int) + 1)) = 24 * ((k : Int) + 1) := i64_in _ (by omega) (by omega)
      have q3 : (0 : Int) ≤ 24 * (k : Int) := by omega
      have q6 : 24 * (k : Int) ≤ 24 * ((k : Int) + 1) := by omega
      have q4 : 24 * ((k : Int) + 1) ≤ ((strOfNums L).size : Int) := by omega
      have t1 : (24 * (k : Int)).toNat = 24 * k := by omega
      have t2 : (24 * ((k : Int) + 1)).toNat = 24 * k + 24 := by omega
      have hp := piece_length (l := L) (c := c) (by omega) k hlt
      have R := fun w => reduI_any (strOfNums (piece L k)) 2305843010818082053 w (by rw [strOfNums_size]; omega) (by decide) h3
      rw [byt_str _ (piece_lt hby k)] at R
      have hpe := str_piece L k
      have ht := htk k hlt
      obtain ⟨z, hz⟩ : ∃ z : Nat, z = numL (piece L k) % 2305843010818082053 := ⟨_, rfl⟩
      rw [← hz] at R ht
      have hzm : z < 2305843010818082053 := by rw [hz]; exact Nat.mod_lt _ (by omega)
      clear hz
      have D := fun w => redN_of (z : Int) (z : Int) w (by omega) (Int.tmod_eq_of_lt (by omega) (by omega))

      go_wp2
      go_region_held3 (fun _ => True) (trivial) (first
        | (go_simp; go_at_call 96; refine (V _).mono ?_; rintro e Wv ⟨rfl, bv⟩)
        | (go_at_call 36; refine (R _).mono ?_; rintro e W2 ⟨rfl, hb2⟩)
        | (go_at_call 35; refine (D _).mono ?_; rintro e W3 ⟨rfl, hb3⟩; have hb4 : Below wr.heap.size wr W3 := (((Below.refl _ wr).drew).trans bv).trans ((hb2.trans (hb3.mono hb2.size)).mono bv.size); have hown4 := own_keep hown hb4; have hbl4 := hbl.trans (hb4.mono hsz); have hsz4 := hbl4.size)
        | (refine step_append_ownN (by rfl) _ _ _ (by rfl) w.heap.size 52 i0 (.agg #[.int .u64 0]) 1 8 Tryd.underlying71 hi hz0 hz1 hz2 rfl (by omega) _ k (cellsN (H.take k)) (by rfl) (hown4.alloc _) ⟨W3.heap.size, 0, none⟩ 1 1 [.int .u64 z] (by rfl) (by rfl) (World.news_of_block (cs := #[.int .u64 z]) (heap_alloc_new W3 _)) (by simp [Value.oneCell']) (by unfold maxLen; omega) (by omega) (by simp; omega) ?_; intro v2 w2 hown2 hgr2 _))
      go_wp2
      have R1 : w2.ownsRow w.heap.size 52 1 v2 (k + 1) (cellsN (H.take (k + 1))) := by rw [ht, cellsN_app]; exact hown2
      have R2 : Below w.heap.size w w2 := (hbl4.alloc hsz4 _).grown hgr2 (by simp; omega) (fun r hr => ((hown4.alloc (.cells #[.int .u64 z] 52)).lt r hr).1)
      go_roundw
      case rel =>
        first
          | exact ⟨k + 1, by omega, by go_num, R1, R2⟩
          | ((repeat apply Exists.intro); exact ⟨⟨k + 1, by omega, by go_num, R1, R2⟩, rfl⟩)
      case measure => simp [intOf]; omega
    · obtain rfl : k = c := by omega
      rw [List.take_of_length_le (by omega)] at hown
      go_wp2
      go_ret2
      exact ⟨_, rfl, hown, hbl⟩

set_option maxRecDepth 100000 in
theorem h2nN_no (msg tag : ByteArray) (c : Int) (w : World) (h : ¬ okH msg tag 2305843010818082053 c) :
    Calls Tryd.prog 25 #[.string msg, .string tag, .agg #[], .int .i64 c] w fun e w' => e = .returned (.tuple #[.slice none 0 0, .bool false]) ∧ Below w.heap.size w w' := by
  by_cases h1 : c < 1
  · go_enter Tryd.func25, Tryd.ntmps25
    go_wp2
    go_ret2
    exact ⟨rfl, (Below.refl _ _).alloc (Nat.le_refl _) _⟩
  · by_cases h2 : 340 < c
    · go_enter Tryd.func25, Tryd.ntmps25
      go_wp2
      go_ret2
      exact ⟨rfl, (Below.refl _ _).alloc (Nat.le_refl _) _⟩
    · have X := fun w => exmI_no msg tag (24 * c) w (fun hh => h ⟨by omega, by omega, by decide, hh⟩)
      have q1 : IntKind.i64.wrap (24 * c) = 24 * c := i64_in _ (by omega) (by omega)
      go_enter Tryd.func25, Tryd.ntmps25
      go_wp2_with fail
      refine (X _).mono ?_
      rintro e W1 ⟨rfl, hb1⟩
      have hb2 : Below w.heap.size w W1 := ((Below.refl _ _).alloc (Nat.le_refl _) _).trans (hb1.mono (by simp))
      go_wp2
      go_ret2
      exact ⟨rfl, hb2⟩
end Go.Proofs.YtjmhmajfkdglnaaDoor
