import Derived.Test.YtigjoddbljjdnaaDoorMrg1
import Derived.Deep.AppendSrc
import Derived.Test.YtigjoddbljjdnaaDoorMrg17
import Derived.Test.YtigjoddbljjdnaaDoorMrg7
import Derived.Test.YtigjoddbljjdnaaDoorMrg10
/-
  'out = append(out, s...)', s a text, out nil or made by the call. No program is named here.
-/
namespace Go.Proofs.YtigjoddbljjdnaaDoor
open Go Go.RowKit
set_option linter.unusedVariables false

def Row0 (w : World) (base : Nat) (v : Value) (n : Nat) (xs : List Value) : Prop :=
  (v = .slice none 0 0 ∧ n = 0 ∧ xs = []) ∨ ∃ g cap, v = .slice (some ⟨g, 0, none⟩) n cap ∧ Row w base g n cap xs
theorem byteCells_byt (s : ByteArray) : byteCells s = (byt s).map (Value.int .u8) := by
  rw [byteCells, byt, List.map_map]; rfl
theorem row_grown {w : World} {e : TypeId} {z : Value} {base n m old : Nat} {xs news : List Value} (hzs : z.cells.size = 1) (hx : xs.length = n) (hl : news.length = m) (h63 : n + m ≤ maxLen) (hbase : base ≤ w.heap.size) :
    Row (w.drew.alloc (.cells ((xs ++ news).toArray ++ Builtin.zeroCells z.cells (grownCap w (n + m) old e - (n + m))) e)) base w.heap.size (n + m) (grownCap w (n + m) old e) (xs ++ news) := by
  have hge := grownCap_ge w (n + m) old e
  have hcm : grownCap w (n + m) old e ≤ maxLen := grownCap_le_maxLen w (n + m) old e h63
  have hsz : ((xs ++ news).toArray ++ Builtin.zeroCells z.cells (grownCap w (n + m) old e - (n + m))).size = grownCap w (n + m) old e := by
    simp only [Array.size_append, List.size_toArray, List.length_append, size_zeroCells, hzs]; omega
  have hblk := Row.of_block (w := w.drew.alloc (.cells ((xs ++ news).toArray ++ Builtin.zeroCells z.cells (grownCap w (n + m) old e - (n + m))) e)) (base := base) (g := w.heap.size) (n := n + m) (heap_alloc_new w.drew _) hbase (by rw [hsz]; exact hge) (by rw [hsz]; exact hcm)
  rw [hsz] at hblk
  have htk : ((xs ++ news).toArray ++ Builtin.zeroCells z.cells (grownCap w (n + m) old e - (n + m))).toList.take (n + m) = xs ++ news := by
    simp only [Array.toList_append]
    rw [List.take_append_of_le_length (by simp; omega), List.take_of_length_le (by simp; omega)]
  rwa [htk] at hblk

theorem run_append_str {P : Program} (w : World) (t tx ty : TypeId) (base : Nat) (e : TypeId) (i : TypeInfo) (z : Value) (ht : P.underlying t = some (.slice e)) (htx : P.underlying tx = some .string) (hi : P.info? e = some i) (hz : i.zero = some z)
    (hsize : i.size = 1) (hby : i.bytes = 1) (hzs : z.cells.size = 1) (v : Value) (n : Nat) (xs : List Value) (hown : Row0 w base v n xs) (s : ByteArray) (hs0 : 0 < s.size)
    (h63 : n + s.size ≤ 140737488355328) (hbase : base ≤ w.heap.size) :
    ∃ g cap w', (Builtin.append_ #[t, tx] ty #[v, .string s]).run P w = .ok (.slice (some ⟨g, 0, none⟩) (n + s.size) cap) w' ∧
      Row w' base g (n + s.size) cap (xs ++ (byt s).map (Value.int .u8)) ∧ Below base w w' := by
  have hsrc : Src P i.size tx (.string s) s.size ((byt s).map (Value.int .u8)) w := by rw [hsize, ← byteCells_byt]; exact Src.ofString w htx s
  have hl : ((byt s).map (Value.int .u8)).length = s.size := by rw [List.length_map, byt_length]
  have hm : n + s.size ≤ maxLen := by unfold maxLen; omega
  rcases hown with ⟨rfl, rfl, rfl⟩ | ⟨g, cap, rfl, hrow⟩
  · have hr := run_append_grow_src (P := P) w t tx ty e i z ht hi hz none 0 0 [] (by rw [hsize]; exact run_firstCells_none w.drew 1 0 0 0) (.string s) s.size _ hsrc (by omega) (by omega) (growslice_fits (by omega) (by rw [hby]; omega))
    exact ⟨w.heap.size, _, _, hr, row_grown hzs rfl hl hm hbase, (Below.refl _ _).drew.alloc hbase _⟩
  · have hlx := hrow.len
    by_cases hroom : n + s.size ≤ cap
    · have hr := run_append_room_src (P := P) w t tx ty e i ht hi g 0 n cap (.string s) s.size _ hsrc hroom
        (fun j hj => by rw [hsize]; exact (hrow.room _ (by omega)).1) (fun j hj => by rw [hsize]; exact (hrow.room _ (by omega)).2)
      rw [hsize, Nat.zero_add, Nat.mul_one] at hr
      refine ⟨g, cap, _, hr, ⟨hrow.lo, by rw [setCells_size]; exact hrow.hi, by rw [List.length_append]; omega, hroom, hrow.max, fun j u hu => ?_, fun j hj => ?_⟩, below_setCells (Below.refl _ _) hrow.lo _ _⟩
      · by_cases hj : j < xs.length
        · rw [List.getElem?_append_left hj] at hu
          rw [World.cell?_setCells_out g _ n w ⟨g, j, none⟩ (fun _ _ => .inl (by show j < n; omega))]
          exact hrow.cells j u hu
        · rw [List.getElem?_append_right (by omega)] at hu
          have hj2 := (List.getElem?_eq_some_iff.1 hu).1
          have := World.cell?_setCells_in g ((byt s).map (Value.int .u8)) n w (fun q hq => (hrow.room _ (by omega)).1) (j - xs.length) hj2
          rw [show n + (j - xs.length) = j by omega] at this
          rw [this, ← hu, List.getElem?_eq_getElem hj2]
      · exact ⟨World.isSome_setCells g _ n w _ (hrow.room j hj).1, by rw [World.frozen?_setCells]; exact (hrow.room j hj).2⟩
    · have hr := run_append_grow_src (P := P) w t tx ty e i z ht hi hz (some ⟨g, 0, none⟩) n cap xs (by
          rw [hsize]
          exact run_firstCells_some w.drew 1 n ⟨g, 0, none⟩ n cap xs (by omega) (fun j u hu => by rw [Addr.add_mid, Nat.zero_add]; exact hrow.cells j u hu)) (.string s) s.size _ hsrc (by omega) (by omega) (growslice_fits (by omega) (by rw [hby]; omega))
      exact ⟨w.heap.size, _, _, hr, row_grown hzs hlx hl hm hbase, (Below.refl _ _).drew.alloc hbase _⟩

theorem wpList_append_str {P : Program} {w : World} {ops : Array Oper} {rest : List Oper} {o : Oper} {a : Act} {Q : Exit → Act → World → Prop} (hgd : o.guard = none) (sl x : Operand) (t tx : TypeId)
    (ho : o.op = .call { callee := .builtin .append, args := #[sl, x], argTypes := #[t, tx] })
    (base : Nat) (e : TypeId) (i : TypeInfo) (z : Value) (ht : P.underlying t = some (.slice e)) (htx : P.underlying tx = some .string) (hi : P.info? e = some i) (hz : i.zero = some z)
    (hsize : i.size = 1) (hby : i.bytes = 1) (hzs : z.cells.size = 1) (v : Value) (n : Nat) (xs : List Value) (hs : a.eval sl = v) (hown : Row0 w base v n xs) (s : ByteArray) (hx : a.eval x = .string s) (hs0 : 0 < s.size)
    (h63 : n + s.size ≤ 140737488355328) (hbase : base ≤ w.heap.size)
    (h : ∀ g cap w', Row w' base g (n + s.size) cap (xs ++ (byt s).map (Value.int .u8)) → Below base w w' → wpList P ops Q rest (a.put o.dst (.slice (some ⟨g, 0, none⟩) (n + s.size) cap)) w') : wpList P ops Q (o :: rest) a w := by
  refine wpList_plain hgd fun K hK => ?_
  obtain ⟨g, cap, w', hr, h2, h3⟩ := run_append_str (P := P) w t tx o.type base e i z ht htx hi hz hsize hby hzs v n xs hown s hs0 h63 hbase
  unfold Oper.wp execOp
  simp only [ho, resolve, invoke, builtin, Sem.run_bind, Sem.run_pure, Result.andThen_ok, List.map_toArray, List.map_cons, List.map_nil, hs, hx, hr]
  exact hK _ _ (h g cap w' h2 h3)
end Go.Proofs.YtigjoddbljjdnaaDoor

namespace Go.Proofs.YtigjoddbljjdnaaDoor
open Go.RowKit
set_option linter.unusedVariables false
attribute [local go_sem ↓] Go.wp_at_zero Go.wp_at_succ

set_option maxRecDepth 100000 in
theorem expI_no (key info : ByteArray) (n : Int) (w : World) (hn : n < 0 ∨ 8160 < n) :
    Calls Tryd.prog 12 #[.string key, .string info, .int .i64 n] w fun e w' => e = .returned (.tuple #[.string ⟨#[]⟩, .bool false]) ∧ Below w.heap.size w w' := by
  rcases hn with hn | hn
  · go_enter Tryd.func12, Tryd.ntmps12
    go_wp2
    go_ret2
    exact ⟨rfl, Below.refl _ _⟩
  · have h0 : ¬ n < 0 := by omega
    go_enter Tryd.func12, Tryd.ntmps12
    go_wp2
    go_ret2
    exact ⟨rfl, Below.refl _ _⟩

theorem tTo_next (key info : ByteArray) (k : Nat) (hk : k < 255) :
    shaF (xorL (kkL (byt key)) 92 ++ shaF (xorL (kkL (byt key)) 54 ++ catB [strOfNums (tTo (byt key) (byt info) k), info, strOfNums (beTo ((k : Int) + 1) 1)])) = tTo (byt key) (byt info) (k + 1) := by
  have hb : beTo ((k : Int) + 1) 1 = [(k : Int) + 1] := by
    simp only [beTo, Int.pow_zero, Int.ediv_one]
    rw [show ((k : Int) + 1) % 256 = (k : Int) + 1 by omega]
  rw [tTo, hmacF, hb]
  simp only [catB, List.append_nil]
  rw [byt_str _ (tTo_lt _ _ _), byt_one k hk, List.append_assoc]
theorem range_below {w w' : World} {b o B : Nat} {L : List Value} (h : w.rangeAt b o L) (hb : Below B w w') (hlt : b < B) : w'.rangeAt b o L := fun j v hv => (hb.cell (p := ⟨b, o + j, none⟩) hlt).trans (h j v hv)

theorem Row0.below {w w' : World} {base n : Nat} {v : Value} {xs : List Value} (h : Row0 w base v n xs) (hb : Below w.heap.size w w') : Row0 w' base v n xs := by
  rcases h with h | ⟨g, cap, rfl, hr⟩
  · exact .inl h
  · exact .inr ⟨g, cap, rfl, hr.below hb hr.hi⟩

set_option maxRecDepth 100000 in
set_option maxHeartbeats 2000000 in
theorem expI_yes (key info : ByteArray) (n : Nat) (w : World) (hT : TabK w) (hk : key.size ≤ 1048576) (hi : info.size ≤ 1048576) (hn : n ≤ 8160) :
    Calls Tryd.prog 12 #[.string key, .string info, .int .i64 n] w fun e w' => e = .returned (.tuple #[.string (strOfNums (expF (byt key) (byt info) n)), .bool true]) ∧ Below w.heap.size w w' := by
  obtain ⟨i0, hi0, hz0, hz1, hz2⟩ := info_parts infoU8'
  have hgw : 2 < w.heap.size := World.block_lt_of_cell? w _ (hT 0 (by omega))
  have h0 : ¬ ((n : Int) < 0) := by omega
  have h1 : ¬ ((8160 : Int) < (n : Int)) := by omega
  have hz46 := zero46
  go_enter Tryd.func12, Tryd.ntmps12
  go_wp2_with fail
  refine (newK_any key w hT (by omega)).mono ?_
  rintro e W1 ⟨L1, L2, rfl, hL1, hL2, hb1⟩
  have hs1 := hb1.size
  have hn1 := hL1.len
  have hn2 := hL2.len
  have hlen : (L1 ++ L2).length = 148 := by rw [List.length_append]; omega
  have hlt : (L1 ++ L2).toArray.size = 148 := by rw [← hlen]; simp
  have hth : (W1.alloc (.cells (zeroRh ++ zeroRh).toArray 57)).there W1.heap.size 0 148 := there_new W1 _ _ 148 (by simp [zeroRh_len])
  have hone : ∀ v ∈ L1 ++ L2, v.oneCell' = true := fun v hv => by
    rw [List.mem_append] at hv
    rcases hv with h | h
    · exact hL1.one v h
    · exact hL2.one v h
  have HL : Hid (IsRH L1 (xorL (kkL (byt key)) 54) ∧ IsRH L2 (xorL (kkL (byt key)) 92)) := ⟨hL1, hL2⟩
  clear hL1 hL2
  go_wp2_with (refine wpList_store_mid rfl 57 _ _ rfl W1.heap.size 0 (L1 ++ L2).toArray rfl rfl (by rw [hlt]; exact hth) (by rw [size46, hlt]) (all_oneCell_toArray hone) ?_
               generalize hW2 : World.setCells _ _ _ _ = W2
               have hrg : W2.rangeAt W1.heap.size 0 (L1 ++ L2) := by rw [← hW2]; exact World.rangeAt_setCells_same _ _ _ _ (by rw [hlen]; exact hth)
               have hs2 : W2.heap.size = W1.heap.size + 1 := by rw [← hW2, setCells_size]; simp
               have hb2 : Below W1.heap.size W1 W2 := by rw [← hW2]; exact below_setCells ((Below.refl _ _).alloc (Nat.le_refl _) _) (Nat.le_refl _) _ _
               clear hW2)
  have hbw : Below w.heap.size w W2 := hb1.trans (hb2.mono hs1)
  clear hth hb1 hb2 hz46
  generalize hB : W1.heap.size = B at *
  clear hB
  go_loopw [9, 10, 11] (fun ov tv i wr => ∃ k : Nat, 32 * k ≤ n + 31 ∧ i = .int .i64 ((k : Int) + 1) ∧ tv = .string (strOfNums (tTo (byt key) (byt info) k)) ∧ Row0 wr (B + 1) ov (32 * k) ((outTo (byt key) (byt info) k).map (Value.int .u8)) ∧ Below (B + 1) W2 wr) (fun _ _ i _ => 300 - (intOf i).toNat)
  case atStart => exact ⟨0, by omega, rfl, rfl, .inl ⟨rfl, rfl, rfl⟩, Below.refl _ _⟩
  case round =>
    obtain ⟨k, hkn, rfl, rfl, hrow, hbr⟩ := hrel
    by_cases hltk : 32 * k < n
    · have hk255 : k < 255 := by omega
      have hrgr : wr.rangeAt B 0 (L1 ++ L2) := range_below hrg hbr (by omega)
      have hsr := hbr.size
      obtain ⟨ao, cap, rfl⟩ : ∃ ao cap, u9 = .slice ao (32 * k) cap := by
        rcases hrow with ⟨rfl, h, _⟩ | ⟨g, cap, rfl, _⟩
        · exact ⟨none, 0, by rw [h]⟩
        · exact ⟨_, _, rfl⟩
      have hu := Tryd.underlying57
      have hinf : (Tryd.prog.info? 57).map (·.size) = some (L1 ++ L2).length := by rw [size46, hlen]
      have hgr : 2 < wr.heap.size := by have := hbw.size; omega
      have hTr : TabK wr := fun i hi => ((hbr.cell (p := ⟨2, i, none⟩) (Nat.lt_of_lt_of_le hgw (by have := hbw.size; omega))).trans (hbw.cell (p := ⟨2, i, none⟩) hgw)).trans (hT i hi)
      have hBr : B < wr.heap.size := by omega
      have hzt : (strOfNums (tTo (byt key) (byt info) k)).size ≤ 32 := by rw [strOfNums_size]; exact tTo_le _ _ _
      have HR : Hid (Row0 wr (B + 1) (.slice ao (32 * k) cap) (32 * k) ((outTo (byt key) (byt info) k).map (Value.int .u8))) := hrow
      clear hrow hlt
      go_wp2
      generalize hLL : L1 ++ L2 = LL at *
      have HLL : Hid (L1 ++ L2 = LL) := hLL
      clear hLL
      refine wp_region_noPanic ?_
      refine wp_region_held_drew (S := fun w' => w'.rangeAt B 0 LL) (by kernel_rfl) hrgr (fun hHeld => ?_)
      refine' wpAnyH_take (i := 0) (v := _) rfl (by kernel_rfl) (by kernel_rfl) (by kernel_rfl) (fun _ _ _ h => h) (yieldsIf_load_mid (by rfl) 57 (.tmp 8) rfl B 0 rfl LL _ (fun w h => h) hu rfl hinf) hHeld ?_
      simp only [Act.put, List.getElem_toArray, List.getElem_cons_zero, List.setIfInBounds_toArray, List.set_cons_zero, List.set_cons_succ]
      refine wpAnyH_take (i := 1) (v := .string (strOfNums (tTo (byt key) (byt info) k))) rfl (by kernel_rfl) (by kernel_rfl) (by kernel_rfl) (fun _ _ _ h => h) (Or.inl ⟨by rfl, fun w _ => by rfl⟩) hHeld ?_
      simp only [Act.put, List.getElem_toArray, List.getElem_cons_zero, List.getElem_cons_succ, List.setIfInBounds_toArray, List.set_cons_zero, List.set_cons_succ]
      refine wpAnyH_take (i := 2) (v := .string info) rfl (by kernel_rfl) (by kernel_rfl) (by kernel_rfl) (fun _ _ _ h => h) (Or.inl ⟨by rfl, fun w _ => by rfl⟩) hHeld ?_
      simp only [Act.put, List.getElem_toArray, List.getElem_cons_zero, List.getElem_cons_succ, List.setIfInBounds_toArray, List.set_cons_zero, List.set_cons_succ]
      refine wpAnyH_take (i := 3) (v := .int .i64 ((k : Int) + 1)) rfl (by kernel_rfl) (by kernel_rfl) (by kernel_rfl) (fun _ _ _ h => h) (Or.inl ⟨by rfl, fun w _ => by rfl⟩) hHeld ?_
      simp only [Act.put, List.getElem_toArray, List.getElem_cons_zero, List.getElem_cons_succ, List.setIfInBounds_toArray, List.set_cons_zero, List.set_cons_succ]
      refine wpAnyH_take (i := 4) (v := .int .u64 ((k : Int) + 1)) rfl (by kernel_rfl) (by kernel_rfl) (by kernel_rfl) (fun _ _ _ h => h) (Or.inl ⟨by rfl, ?_⟩) hHeld ?_
      · intro w _
        have e64 : IntKind.u64.wrap ((k : Int) + 1) = (k : Int) + 1 := by rw [IntKind.wrap_u64]; omega
        go_simp
      simp only [Act.put, List.getElem_toArray, List.getElem_cons_zero, List.getElem_cons_succ, List.setIfInBounds_toArray, List.set_cons_zero, List.set_cons_succ]
      refine wpAnyH_ready (rs := [5]) (by kernel_rfl) (by simp) ?_
      refine AllReadyH.cons rfl (fun K hK => ?_) AllReadyH.nil
      go_simp
      refine (beI_any ((k : Int) + 1) 1 wr.drew (by omega) (by omega) (by omega) (by omega)).mono ?_
      rintro e W5 ⟨rfl, hb5⟩
      have hb5' : Below wr.heap.size wr W5 := (Below.refl wr.heap.size wr).drew.trans hb5
      have hs5 : wr.heap.size ≤ W5.heap.size := hb5'.size
      have hr5 : W5.rangeAt B 0 LL := range_below hrgr hb5' hBr
      refine hK.out _ _ hr5 (fun hHeld5 => ?_)
      clear hK K hHeld hb5
      refine wpAnyH_ready (rs := [6]) (by kernel_rfl) (by simp) ?_
      refine AllReadyH.cons rfl (fun K hK => ?_) AllReadyH.nil
      go_simp
      generalize hW6 : W5.alloc _ = W6
      have hc6 : ∀ i, i < 3 → W6.cell? ⟨W5.heap.size, i, none⟩ = some (.string ([strOfNums (tTo (byt key) (byt info) k), info, strOfNums (beTo ((k : Int) + 1) 1)].getD i ByteArray.empty)) := fun i hi => by
        rw [← hW6, cell_of_row _ _ _ _ _ _ (heap_alloc_new W5 _)]
        match i, hi with
        | 0, _ => rfl
        | 1, _ => rfl
        | 2, _ => rfl
      have hb6 : Below wr.heap.size wr W6 := by rw [← hW6]; exact hb5'.alloc hs5 _
      clear hW6
      have hr6 : W6.rangeAt B 0 LL := range_below hrgr hb6 hBr
      have hT6 : TabK W6 := fun i hi => (hb6.cell (p := ⟨2, i, none⟩) hgr).trans (hTr i hi)
      refine hK.out _ _ hr6 (fun hHeld6 => ?_)
      clear hK K hHeld5
      refine wpAnyH_ready (rs := [7]) (by kernel_rfl) (by simp) ?_
      refine AllReadyH.cons rfl (fun K hK => ?_) AllReadyH.nil
      go_simp
      rw [← HLL.out]
      refine (ofK_any L1 L2 _ _ W5.heap.size 3 3 [strOfNums (tTo (byt key) (byt info) k), info, strOfNums (beTo ((k : Int) + 1) 1)] W6 HL.out.1 HL.out.2 hT6 (by rw [xorL_length, kkL_length]; simp only [sizeB, strOfNums_size, beTo_length]; rw [strOfNums_size] at hzt; omega) (by rw [xorL_length, kkL_length]; omega) (xorL_lt _ _) (xorL_lt _ _) rfl (by omega) (by omega) hc6).mono ?_
      rintro e W7 ⟨rfl, hb7⟩
      rw [tTo_next key info k hk255]
      have hb7' : Below wr.heap.size wr W7 := hb6.trans (hb7.mono hb6.size)
      have hr7 : W7.rangeAt B 0 LL := range_below hrgr hb7' hBr
      refine hK.out _ _ hr7 (fun hHeld7 => ?_)
      clear hK K hHeld6 hb7
      refine wpAnyH_ready (rs := [8]) (by kernel_rfl) (by simp) ?_
      refine AllReadyH.cons rfl (fun K hK => ?_) AllReadyH.nil
      go_simp
      refine hK.out _ _ hr7 (fun hHeld8 => ?_)
      clear hK K hHeld7
      refine wpAnyH_done (by kernel_rfl) ?_ _
      refine NoPanic.normal ?_
      have hsz32 : (strOfNums (tTo (byt key) (byt info) (k + 1))).size = 32 := by rw [strOfNums_size, tTo, hmacF_length]
      have hrow7 := HR.out.below hb7'
      have hs7 := hb7'.size
      have hbt : Hid ((outTo (byt key) (byt info) k).map (Value.int .u8) ++ (byt (strOfNums (tTo (byt key) (byt info) (k + 1)))).map (Value.int .u8) = (outTo (byt key) (byt info) (k + 1)).map (Value.int .u8)) := by
        simp only [Hid]; rw [byt_str _ (tTo_lt _ _ _), ← List.map_append, outTo]
      clear hHeld8 hr5 hr6 hr7 hT6 hc6 hb6 hb5' hTr hu hinf
      go_wp2_with (first
        | (refine wpList_append_str rfl _ _ 22 9 rfl (B + 1) 5 i0 (.int .u8 0) Tryd.underlying22 Tryd.underlying9 hi0 hz0 hz1 hz2 rfl (.slice ao (32 * k) cap) (32 * k) ((outTo (byt key) (byt info) k).map (Value.int .u8)) rfl hrow7 (strOfNums (tTo (byt key) (byt info) (k + 1))) rfl (by rw [hsz32]; omega) (by rw [hsz32]; omega) (by omega) ?_
           intro g3 cap3 w3 hrow3 hb8
           rw [hbt.out, hsz32] at hrow3))
      go_roundw
      case rel =>
        have R1 : Row0 w3 (B + 1) (.slice (some ⟨g3, 0, none⟩) (32 * k + 32) cap3) (32 * (k + 1)) ((outTo (byt key) (byt info) (k + 1)).map (Value.int .u8)) := by
          rw [Nat.mul_add]; exact .inr ⟨g3, cap3, rfl, hrow3⟩
        have R2 : Below (B + 1) W2 w3 := (hbr.trans (hb7'.mono (by omega))).trans hb8
        first
          | exact ⟨k + 1, by omega, by go_num, rfl, R1, R2⟩
          | ((repeat apply Exists.intro); exact ⟨⟨k + 1, by omega, by go_num, rfl, R1, R2⟩, rfl⟩)
      case measure => simp [intOf]; omega
    · have hkk : k = (n + 31) / 32 := by omega
      have hbf : Below w.heap.size w wr := hbw.trans (hbr.mono (by have := hbw.size; omega))
      have hexp : Hid (expF (byt key) (byt info) n = (outTo (byt key) (byt info) k).take n) := by simp only [Hid]; rw [expF, ← hkk]
      have hol := outTo_length (byt key) (byt info) k
      clear hkk
      rcases hrow with ⟨rfl, hz, _⟩ | ⟨g, cap, rfl, hrow⟩
      · have hn0 : n = 0 := by omega
        subst hn0
        have hk0 : k = 0 := by omega
        subst hk0
        have hcv := run_convert_bytes_nil (P := Tryd.prog) wr 22 5 Tryd.underlying22 Tryd.underlying5 0 0
        go_wp2
        go_ret2
        refine ⟨?_, hbf⟩
        show Ending.returned (.tuple #[.string ByteArray.empty, .bool true]) = _
        rw [hexp.out]; rfl
      · have hcv := run_convert_bytes_arg (P := Tryd.prog) wr 22 5 Tryd.underlying22 Tryd.underlying5 g 0 n cap ((outTo (byt key) (byt info) k).take n) (by rw [List.length_take, hol]; omega) (fun i h => by rw [Nat.zero_add, hrow.cell i (by omega)]; congr 2; rw [← lk_take _ n i h]; rfl) 9 Tryd.underlying9
        have hcap := hrow.le
        go_wp2
        go_ret2
        refine ⟨?_, hbf⟩
        show Ending.returned (.tuple #[.string (strOfNums ((outTo (byt key) (byt info) k).take n)), .bool true]) = _
        rw [hexp.out]
end Go.Proofs.YtigjoddbljjdnaaDoor
