import Derived.Test.YtigjoddbljjdnaaDoorMrg25
import Derived.Laws.OwnMore
import Derived.Test.YtigjoddbljjdnaaDoorMrg12
import Derived.Test.YtigjoddbljjdnaaDoorMrg14
import Derived.Test.YtigjoddbljjdnaaDoorMrg15
import Derived.Test.YtigjoddbljjdnaaDoorMrg18
import Derived.Test.YtigjoddbljjdnaaDoorMrg8
import Derived.Test.YtigjoddbljjdnaaDoorMrg16
import Derived.Test.YtigjoddbljjdnaaDoorMrg21
import Derived.Test.YtigjoddbljjdnaaDoorMrg23
import Derived.Deep.DeepCutAuto
namespace Go.Proofs.YtigjoddbljjdnaaDoor
open Go.RowKit
set_option linter.unusedVariables false

theorem infoW' : (Tryd.prog.info? 36).map (fun i => (i.zero, i.size, i.bytes)) = some (some (.int .u64 0), 1, 8) := by kernel_rfl
theorem cellsG_at (m : Int) : ∀ (H : List Int) (k : Nat), k < H.length → (cellsG m H)[2 * k]? = some (.int .u64 m) ∧ (cellsG m H)[2 * k + 1]? = some (.int .u64 (lk H k))
  | [], k, h => by simp at h
  | x :: r, 0, _ => ⟨rfl, rfl⟩
  | x :: r, k + 1, h => by
    have := cellsG_at m r k (by simpa using h)
    rw [show 2 * (k + 1) = 2 * k + 2 by omega, show 2 * k + 2 + 1 = 2 * k + 1 + 2 by omega]
    exact this
theorem lk_take_snoc (H : List Int) (k : Nat) (h : k < H.length) : H.take (k + 1) = H.take k ++ [lk H k] := by
  rw [List.take_succ_eq_append_getElem h]
  unfold lk
  rw [List.getD_eq_getElem?_getD, List.getElem?_eq_getElem h]
  rfl

set_option maxRecDepth 100000 in
set_option maxHeartbeats 2000000 in
theorem h2fI_yes (msg tag : ByteArray) (m c : Nat) (w : World) (hT : TabK w) (hm : m < 18446744073709551616) (h : okH msg tag m c) :
    Calls Tryd.prog 17 #[.string msg, .string tag, .int .u64 m, .int .i64 c] w fun e w' => ∃ g cap, e = .returned (.tuple #[.slice (some ⟨g, 0, none⟩) c cap, .bool true]) ∧ Row w' w.heap.size g c cap ((h2f (byt msg) (byt tag) m c).map (Value.int .u64)) ∧ Below w.heap.size w w' := by
  obtain ⟨i0, hi, hz0, hz1, hz2⟩ := info_parts infoW'
  have X := fun w hT => h2nG_yes msg tag m c w hT hm h
  obtain ⟨h1, h2, h3, h4⟩ := h
  have g3 : ((m : Int) == 0) = false := by simp; omega
  have hll := h2f_length (byt msg) (byt tag) m c
  generalize h2f (byt msg) (byt tag) m c = H at *
  go_enter Tryd.func17, Tryd.ntmps17
  go_wp2_with fail
  refine (X _ hT).mono ?_
  rintro e W1 ⟨v, rfl, hown0, hb0⟩
  clear X
  obtain ⟨g0, cap0, rfl⟩ : ∃ g0 cap0, v = .slice (some ⟨g0, 0, none⟩) c cap0 := by
    rcases hown0.2 with ⟨_, hc⟩ | ⟨g, cap, cur, hv, _⟩
    · omega
    · exact ⟨g, cap, hv⟩
  have hg0 := hown0.lt g0 rfl
  have hcm : ∀ k, k < c → W1.cell? ⟨g0, 2 * k, none⟩ = some (.int .u64 m) := fun k hk => by
    have := hown0.cells (g := g0) rfl (2 * k) _ (cellsG_at m H k (by omega)).1
    rwa [Addr.add_mid, Nat.zero_add] at this
  have hcx : ∀ k, k < c → W1.cell? ⟨g0, 2 * k + 1, none⟩ = some (.int .u64 (lk H k)) := fun k hk => by
    have := hown0.cells (g := g0) rfl (2 * k + 1) _ (cellsG_at m H k (by omega)).2
    rwa [Addr.add_mid, Nat.zero_add] at this
  have hcap0 : c ≤ cap0 := by
    rcases hown0.2 with ⟨_, hc⟩ | ⟨g, cap, cur, hv, _, _, hle, _⟩
    · omega
    · cases hv; exact hle
  clear hown0
  have hs1 := hb0.size
  go_wp2
  go_loopw [12, 14, 27] (fun ov _ iv wr => ∃ k : Nat, k ≤ c ∧ iv = .int .i64 (k : Int) ∧ wr.ownsRow W1.heap.size 36 1 ov k ((H.take k).map (Value.int .u64)) ∧ Below W1.heap.size W1 wr) (fun _ _ i _ => c - (intOf i).toNat)
  case atStart => exact ⟨0, by omega, rfl, World.ownsRow_nil _ _ _ _, Below.refl _ _⟩
  case round =>
    obtain ⟨k, hk, rfl, hown, hbl⟩ := hrel
    have hsz := hbl.size
    by_cases hlt : k < c
    · have hli : (k : Int) < (c : Int) := by omega
      have q0 : (0 : Int) ≤ (k : Int) := by omega
      have c1 := (hbl.cell (p := ⟨g0, 2 * k, none⟩) hg0.2).trans (hcm k hlt)
      have c2 := (hbl.cell (p := ⟨g0, 2 * k + 1, none⟩) hg0.2).trans (hcx k hlt)
      rw [Nat.mul_comm 2 k] at c1 c2
      have ht := lk_take_snoc H k (by omega)
      generalize lk H k = z at *
      have hnew : ((wr.alloc (.cells #[.int .u64 (m : Int), .int .u64 z] 69)).alloc (.cells #[.int .u64 z] 36)).heap[wr.heap.size + 1]? = some (.cells #[.int .u64 z] 36) := by
        have := heap_alloc_new (wr.alloc (.cells #[.int .u64 (m : Int), .int .u64 z] 69)) (.cells #[.int .u64 z] 36)
        rwa [show (wr.alloc (.cells #[.int .u64 (m : Int), .int .u64 z] 69)).heap.size = wr.heap.size + 1 by simp] at this
      go_wp2_with (first
        | (at_builtin; refine wpList_append_own _ rfl _ _ 33 rfl W1.heap.size 36 i0 (.int .u64 0) 1 8 Tryd.underlying33 hi hz0 hz1 hz2 rfl (by omega) _ k ((H.take k).map (Value.int .u64)) rfl ((hown.alloc _).alloc _) ⟨wr.heap.size + 1, 0, none⟩ 1 1 [.int .u64 z] rfl rfl (World.news_of_block (cs := #[.int .u64 z]) hnew) (by simp [Value.oneCell']) (by unfold maxLen; omega) (by omega) (by simp; omega) ?_; intro v2 w2 hown2 hgr2 _)
        | go_in)
      have R1 : w2.ownsRow W1.heap.size 36 1 v2 (k + 1) ((H.take (k + 1)).map (Value.int .u64)) := by rw [ht, List.map_append]; exact hown2
      have R2 : Below W1.heap.size W1 w2 := ((hbl.alloc hsz _).alloc (by simp; omega) _).grown hgr2 (by simp; omega) (fun r hr => (((hown.alloc (.cells #[.int .u64 (m : Int), .int .u64 z] 69)).alloc (.cells #[.int .u64 z] 36)).lt r hr).1)
      go_roundw
      case rel =>
        first
          | exact ⟨k + 1, by omega, by go_num, R1, R2⟩
          | ((repeat apply Exists.intro); exact ⟨⟨k + 1, by omega, by go_num, R1, R2⟩, rfl⟩)
      case measure => simp [intOf]; omega
    · obtain rfl : k = c := by omega
      rw [List.take_of_length_le (by omega)] at hown
      obtain ⟨g, cap, rfl⟩ : ∃ g cap, u12 = .slice (some ⟨g, 0, none⟩) k cap := by
        rcases hown.2 with ⟨_, hc⟩ | ⟨g, cap, cur, hv, _⟩
        · omega
        · exact ⟨g, cap, hv⟩
      have hrow := (Row.of_owns hown).mono hs1
      have hbf := hb0.trans (hbl.mono hs1)
      go_wp2
      go_ret2
      exact ⟨g, cap, rfl, hrow, hbf⟩

set_option maxRecDepth 100000 in
set_option maxHeartbeats 2000000 in
theorem h2fI_no (msg tag : ByteArray) (m : Nat) (c : Int) (w : World) (h : ¬ okH msg tag m c) :
    Calls Tryd.prog 17 #[.string msg, .string tag, .int .u64 m, .int .i64 c] w fun e w' => e = .returned (.tuple #[.slice none 0 0, .bool false]) ∧ Below w.heap.size w w' := by
  by_cases h3 : m = 0
  · subst h3
    go_enter Tryd.func17, Tryd.ntmps17
    go_wp2
    go_ret2
    exact ⟨rfl, Below.refl _ _⟩
  · have g3 : ((m : Int) == 0) = false := by simp; omega
    have X := fun w => h2nG_no msg tag m c w h3 h
    go_enter Tryd.func17, Tryd.ntmps17
    go_wp2_with fail
    refine (X _).mono ?_
    rintro e W1 ⟨rfl, hb0⟩
    go_wp2
    go_loopw [12, 14, 27] (fun ov _ iv wr => ov = .slice none 0 0 ∧ iv = .int .i64 0 ∧ wr = W1) (fun _ _ _ _ => 0)
    case atStart => exact ⟨rfl, rfl, rfl⟩
    case round =>
      obtain ⟨rfl, rfl, rfl⟩ := hrel
      go_wp2
      go_ret2
      exact ⟨rfl, hb0⟩
end Go.Proofs.YtigjoddbljjdnaaDoor

namespace Go.Proofs.YtigjoddbljjdnaaDoor
open Go.RowKit
set_option linter.unusedVariables false

theorem keepH {w1 w2 : World} {p : Addr} {v : Value} (h : w1.cell? p = some v) (b : Below w1.heap.size w1 w2) : w2.cell? p = some v := (b.cell (World.block_lt_of_cell? w1 _ h)).trans h
theorem exp_any (K I : ByteArray) (n : Int) (hK : K.size ≤ 1048576) (hI : I.size ≤ 1048576) : ∃ (E : ByteArray) (G : Bool),
    (G = true → ∃ N : Nat, n = N ∧ N ≤ 8160 ∧ E = strOfNums (expF (byt K) (byt I) N)) ∧
    (∀ w, Calls Tryd.prog 11 #[.string K, .string I, .int .i64 n] w fun e w' => e = .returned (.tuple #[.string E, .bool G]) ∧ Below w.heap.size w w') ∧
    (∀ w, TabK w → Calls Tryd.prog 12 #[.string K, .string I, .int .i64 n] w fun e w' => e = .returned (.tuple #[.string E, .bool G]) ∧ Below w.heap.size w w') := by
  by_cases hn : n < 0 ∨ 8160 < n
  · exact ⟨_, false, nofun, fun w => expS_no K I n w hn, fun w _ => expI_no K I n w hn⟩
  · obtain ⟨N, rfl⟩ : ∃ N : Nat, n = N := ⟨n.toNat, by omega⟩
    exact ⟨_, true, fun _ => ⟨N, rfl, by omega, rfl⟩, fun w => expS_yes K I N w hK hI (by omega), fun w hT => expI_yes K I N w hT hK hI (by omega)⟩
theorem exm_any (m t : ByteArray) (n : Int) : ∃ (E : ByteArray) (G : Bool),
    (G = true → (E.size : Int) = n) ∧
    (∀ w, Calls Tryd.prog 15 #[.string m, .string t, .int .i64 n] w fun e w' => e = .returned (.tuple #[.string E, .bool G]) ∧ Below w.heap.size w w') ∧
    (∀ w, TabK w → Calls Tryd.prog 16 #[.string m, .string t, .int .i64 n] w fun e w' => e = .returned (.tuple #[.string E, .bool G]) ∧ Below w.heap.size w w') := by
  by_cases hn : okM m t n
  · obtain ⟨N, rfl⟩ : ∃ N : Nat, n = N := ⟨n.toNat, by have := hn.2.2.1; omega⟩
    exact ⟨_, true, fun _ => by rw [strOfNums_size, expM_length], fun w => exmS_yes m t N w hn, fun w hT => exmI_yes m t N w hT hn⟩
  · exact ⟨_, false, nofun, fun w => exmS_no m t n w hn, fun w _ => exmI_no m t n w hn⟩
set_option maxRecDepth 100000 in
set_option maxHeartbeats 8000000 in
theorem hashW (q : Option Addr) (len cap : Nat) (q2 : Option Addr) (len2 cap2 : Nat) (w : World) (hv : Cod w (.slice q len cap)) (hv2 : Cod w (.slice q2 len2 cap2)) (hl : len ≤ 1048576) (hl2 : len2 ≤ 1048576) (hT : TabK w) :
    Calls Tryd.prog 3 #[.slice q len cap, .slice q2 len2 cap2] w fun e w' => e = .returned (.bool true) ∧ Below w.heap.size w w' := by
  have hgw : 2 < w.heap.size := World.block_lt_of_cell? w _ (hT 0 (by omega))
  have hli : (len : Int) ≤ 1048576 := by omega
  have hli2 : (len2 : Int) ≤ 1048576 := by omega
  have HT : ∀ w', Below w.heap.size w w' → TabK w' := fun w' hb i hi => (hb.cell (p := ⟨2, i, none⟩) hgw).trans (hT i hi)
  have D1 := dsha_any _ w hv
  have D2 := fun w' (hb : Below w.heap.size w w') => dhmac_any _ w' (hv.below hb)
  have D3 := fun w' (hb : Below w.heap.size w w') => dexp_any _ w' (hv.below hb)
  have D4 := fun w' (hb : Below w.heap.size w w') => dexm_any _ w' (hv.below hb)
  have P0 := fun w' (hb : Below w.heap.size w w') => wpick_any _ 0 w' (hv2.below hb) (by omega)
  have P1 := fun w' (hb : Below w.heap.size w w') => wpick_any _ 1 w' (hv2.below hb) (by omega)
  clear hv hv2 hl hl2
  go_enter Tryd.func3, Tryd.ntmps3
  go_wp2_with fail
  refine D1.mono ?_
  rintro e w1 ⟨⟨s, hs, rfl⟩, b1⟩
  clear D1
  go_wp2_with fail
  refine (D2 w1 b1).mono ?_
  rintro e w2 ⟨⟨k, z, hk, hz, rfl⟩, b2⟩
  clear D2
  replace b2 := b1.trans (b2.mono b1.size)
  clear b1
  go_wp2_with fail
  refine (shaI_any s w2 (HT _ b2) (by omega)).mono ?_
  rintro e w3 ⟨rfl, b3⟩
  replace b3 := b2.trans (b3.mono b2.size)
  clear b2
  go_wp2_with fail
  refine (shaS_any s w3 (by omega)).mono ?_
  rintro e w4 ⟨rfl, b4⟩
  replace b4 := b3.trans (b4.mono b3.size)
  clear b3
  go_wp2_with fail
  refine (hmacI_any k z w4 (HT _ b4) (by omega) (by omega)).mono ?_
  rintro e w5 ⟨rfl, b5⟩
  replace b5 := b4.trans (b5.mono b4.size)
  clear b4
  go_wp2_with fail
  refine (hmacS_any k z w5 (by omega) (by omega)).mono ?_
  rintro e w6 ⟨rfl, b6⟩
  replace b6 := b5.trans (b6.mono b5.size)
  clear b5
  go_wp2_with fail
  refine (D3 w6 b6).mono ?_
  rintro e w7 ⟨⟨K, I, n, hK, hI, hn0, hn1, rfl⟩, b7⟩
  replace b7 := b6.trans (b7.mono b6.size)
  clear b6 D3
  obtain ⟨E, G, hG, X1, X2⟩ := exp_any K I n (by omega) (by omega)
  go_wp2_with fail
  refine (X1 w7).mono ?_
  rintro e w8 ⟨rfl, b8⟩
  replace b8 := b7.trans (b8.mono b7.size)
  clear b7 X1
  go_wp2_with fail
  refine (X2 w8 (HT _ b8)).mono ?_
  rintro e w9 ⟨rfl, b9⟩
  replace b9 := b8.trans (b9.mono b8.size)
  clear b8 X2
  go_upto_region 12 with fail
  go_cut [11, 13, 85] (fun _ _ s85 wx => (∃ b : Bool, s85 = .bool b ∧ (b = true → G = true ∧ 0 < n)) ∧ Below w.heap.size w wx)
  case first =>
    cases hg : G with
    | false =>
      go_wp2_with fail
      go_meet
      case rel => exact ⟨⟨false, rfl, nofun⟩, b9⟩
    | true =>
      go_wp2_with fail
      go_meet
      case rel => exact ⟨⟨decide (0 < n), rfl, fun h => ⟨hg, of_decide_eq_true h⟩⟩, b9⟩
  case rest =>
    obtain ⟨⟨b, rfl, hb⟩, c1⟩ := hcut
    clear b9
    go_upto_if 85 with fail
    go_cut [9, 10, 12] (fun _ _ _ wx => Below w.heap.size w wx)
    case first =>
      cases b with
      | false =>
        go_wp2_with fail
        go_meet
        case rel => exact c1
      | true =>
        obtain ⟨hg, hn3⟩ := hb rfl
        obtain ⟨N, rfl, hN, rfl⟩ := hG hg
        have hn4 : (↑N : Int) ≠ 0 := by omega
        have hn5 : ((↑N : Int) == 0) = false := by simp; omega
        clear hb hG
        go_wp2_with fail
        refine (P0 _ c1).mono ?_
        rintro e _ ⟨⟨z0, hz0, rfl⟩, rfl⟩
        go_wp2_with fail
        refine (P1 _ c1).mono ?_
        rintro e _ ⟨⟨z1, hz1, rfl⟩, rfl⟩
        obtain ⟨c, hc⟩ : ∃ c, Hid (c = (z0 * 256 + z1) % N) := ⟨_, rfl⟩
        have hcN : c < N := by rw [hc.out]; exact Nat.mod_lt _ (by omega)
        have hk : (((z0 : Int) * 256 + (z1 : Int)) % (N : Int)) = (c : Int) := by rw [hc.out]; simp
        clear hc
        obtain ⟨EN, hEN⟩ : ∃ EN, Hid (EN = strOfNums (expF (byt K) (byt I) N)) := ⟨_, rfl⟩
        obtain ⟨EC, hEC⟩ : ∃ EC, Hid (EC = strOfNums (expF (byt K) (byt I) c)) := ⟨_, rfl⟩
        have hsz : EN.size = N := by rw [hEN.out, strOfNums_size, expF_length]
        have hex : EN.extract 0 c = EC := by rw [hEN.out, hEC.out, str_take, expF_take _ _ _ _ (by omega)]
        have XC := expI_yes K I c wc (HT _ c1) (by omega) (by omega) (by omega)
        rw [← hEN.out]
        rw [← hEC.out] at XC
        have g1 : ¬ ((N : Int) < (c : Int)) := by omega
        have g2 : ((c : Int) ≤ (N : Int)) := by omega
        go_wp2_with fail
        rw [hk]
        refine XC.mono ?_
        rintro e w30 ⟨rfl, b30⟩
        replace b30 := c1.trans (b30.mono c1.size)
        clear XC
        go_wp2_with fail
        go_meet
        case rel => exact b30
    case rest =>
      go_wp2_with fail
      refine (D4 _ hcut).mono ?_
      rintro e w10 ⟨⟨m, t, n2, hm, ht, rfl⟩, b10⟩
      replace b10 := hcut.trans (b10.mono hcut.size)
      clear hcut c1 D4
      obtain ⟨E2, G2, hG2, X1, X2⟩ := exm_any m t n2
      go_wp2_with fail
      refine (X1 w10).mono ?_
      rintro e w11 ⟨rfl, b11⟩
      replace b11 := b10.trans (b11.mono b10.size)
      clear b10 X1
      go_wp2_with fail
      refine (X2 w11 (HT _ b11)).mono ?_
      rintro e w12 ⟨rfl, b12⟩
      replace b12 := b11.trans (b12.mono b11.size)
      clear b11 X2
      go_upto_region 20 with fail
      go_cut [11, 13, 19, 20, 141] (fun _ _ _ _ s141 wx => s141 = .bool false ∧ Below w.heap.size w wx)
      case first =>
        cases hg2 : G2 with
        | false =>
          go_wp2_with fail
          go_meet
          case rel => exact ⟨rfl, b12⟩
        | true =>
          have hz2 := hG2 hg2
          go_wp2_with fail
          go_meet
          case rel => exact ⟨rfl, b12⟩
      case rest =>
        obtain ⟨rfl, c2⟩ := hcut
        clear b12 hG2
        by_cases h24 : okM m t 24
        · have hH : okH m t 2305843009213693951 1 := ⟨by omega, by omega, by omega, h24⟩
          go_wp2_with fail
          refine (exmI_yes m t 24 _ (HT _ c2) h24).mono ?_
          rintro e w13 ⟨rfl, b13⟩
          replace b13 := c2.trans (b13.mono c2.size)
          clear c2
          go_wp2_with fail
          refine (h2fI_yes m t 2305843009213693951 1 w13 (HT _ b13) (by omega) hH).mono ?_
          rintro e w14 ⟨gg, cg, rfl, hR, b14⟩
          replace b14 := b13.trans (b14.mono b13.size)
          clear b13
          obtain ⟨v, hv⟩ : ∃ v : Nat, Hid (v = numL (expM (byt m) (byt t) 24) % 2305843009213693951) := ⟨_, rfl⟩
          have c0 : w14.cell? ⟨gg, 0, none⟩ = some (.int .u64 v) := by
            rw [hR.cell 0 (by omega), hv.out, lk, h2f]
            simp [piece_all _ (expM_length _ _ 24)]
          have c0d : w14.drew.cell? ⟨gg, 0, none⟩ = some (.int .u64 v) := c0
          have RD := fun w => reduI_any (strOfNums (expM (byt m) (byt t) 24)) 2305843009213693951 w (by rw [strOfNums_size, expM_length]; omega) (by omega) (by omega)
          rw [byt_str _ (expM_lt _ _ _), ← hv.out] at RD
          clear hR hv
          obtain ⟨F24, hF⟩ : ∃ F, Hid (F = strOfNums (expM (byt m) (byt t) 24)) := ⟨_, rfl⟩
          rw [← hF.out] at RD
          rw [← hF.out]
          clear hF
          go_upto_region 26 with fail
          go_region_held3 (fun w' => w'.cell? ⟨gg, 0, none⟩ = some (.int .u64 v)) (first | exact c0 | exact c0d | exact keepH c0d bR | go_keep) ((go_at_call 18; refine (RD _).mono ?_; rintro e w15 ⟨rfl, bR⟩))
          go_wp2_with fail
          go_ret
          exact ⟨rfl, b14.drew.trans (bR.mono b14.drew.size)⟩
        · have hH : ¬ okH m t 2305843009213693951 1 := fun h => h24 h.2.2.2
          go_wp2_with fail
          refine (exmI_no m t 24 _ h24).mono ?_
          rintro e w13 ⟨rfl, b13⟩
          replace b13 := c2.trans (b13.mono c2.size)
          clear c2
          go_wp2_with fail
          refine (h2fI_no m t 2305843009213693951 1 w13 hH).mono ?_
          rintro e w14 ⟨rfl, b14⟩
          replace b14 := b13.trans (b14.mono b13.size)
          clear b13
          go_upto_region 26 with fail
          go_region
          go_wp2_with fail
          go_ret
          exact ⟨rfl, b14.drew⟩
end Go.Proofs.YtigjoddbljjdnaaDoor
