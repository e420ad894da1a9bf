import Derived.Test.YtenggagjgmonoaaDoorSchedI
namespace Go.Proofs.YtenggagjgmonoaaDoor
open Go.RowKit
set_option linter.unusedVariables false
attribute [local go_sem ↓] Go.wp_at_zero Go.wp_at_succ

/-- w' is w but for new blocks and for the 74 cells from o on of block b -/
structure Upd (b o : Nat) (w w' : World) : Prop where
  os : w'.os = w.os
  tape : w'.tape = w.tape
  output : w'.output = w.output
  size : w.heap.size ≤ w'.heap.size
  block : ∀ k, k < w.heap.size → k ≠ b → w'.heap[k]? = w.heap[k]?
  cell : ∀ j, (j < o ∨ o + 74 ≤ j) → w'.cell? ⟨b, j, none⟩ = w.cell? ⟨b, j, none⟩
  frozen : ∀ j, w'.frozen? ⟨b, j, none⟩ = w.frozen? ⟨b, j, none⟩
  there : ∀ j, (w.cell? ⟨b, j, none⟩).isSome = true → (w'.cell? ⟨b, j, none⟩).isSome = true

theorem Upd.refl (b o : Nat) (w : World) : Upd b o w w := ⟨rfl, rfl, rfl, Nat.le_refl _, fun _ _ _ => rfl, fun _ _ => rfl, fun _ => rfl, fun _ h => h⟩
theorem Upd.trans {b o : Nat} {u v w : World} (h : Upd b o u v) (k : Upd b o v w) : Upd b o u w :=
  ⟨k.os.trans h.os, k.tape.trans h.tape, k.output.trans h.output, Nat.le_trans h.size k.size, fun q hq hne => (k.block q (Nat.lt_of_lt_of_le hq h.size) hne).trans (h.block q hq hne),
    fun j hj => (k.cell j hj).trans (h.cell j hj), fun j => (k.frozen j).trans (h.frozen j), fun j hj => k.there j (h.there j hj)⟩
theorem Upd.of_below {b o : Nat} {w w' : World} (h : Below w.heap.size w w') (hb : b < w.heap.size) : Upd b o w w' :=
  ⟨h.os, h.tape, h.output, h.size, fun k hk _ => h.block k hk, fun j _ => h.cell (p := ⟨b, j, none⟩) hb, fun j => h.frozen (p := ⟨b, j, none⟩) hb, fun j hj => by rw [h.cell (p := ⟨b, j, none⟩) hb]; exact hj⟩
theorem Upd.below {b o B : Nat} {w w' : World} (h : Upd b o w w') (hb : B ≤ b) (hB : B ≤ w.heap.size) : Below B w w' :=
  ⟨h.os, h.tape, h.output, h.size, fun k hk => h.block k (Nat.lt_of_lt_of_le hk hB) (by omega)⟩
theorem Upd.far {b o : Nat} {w w' : World} (h : Upd b o w w') {p : Addr} (hp : p.block < w.heap.size) (hne : p.block ≠ b) : w'.cell? p = w.cell? p := World.cell?_of_block (w := w) (h.block p.block hp hne)
theorem Upd.ok {b o : Nat} {w w' : World} (h : Upd b o w w') (ht : w.there b o 74) : w'.there b o 74 := fun j hj => ⟨h.there _ (ht j hj).1, by rw [h.frozen]; exact (ht j hj).2⟩
theorem Upd.set {b o : Nat} (w : World) (i : Nat) (v : Value) (hi : o ≤ i) (hi2 : i < o + 74) : Upd b o w (w.setCell ⟨b, i, none⟩ v) := by
  refine ⟨rfl, rfl, rfl, by simp, fun k hk hne => Below.heap_setCell w _ v k hne, fun j hj => ?_, fun j => by rw [World.frozen?_setCell], fun j hj => ?_⟩
  · rw [World.cell?_setCell_other _ _ _ _ (fun he => by have := congrArg Addr.off he; simp only at this; omega)]
  · obtain ⟨u, hu⟩ := Option.isSome_iff_exists.1 hj
    by_cases e : i = j
    · subst e; rw [World.cell?_setCell_same _ _ _ hu]; rfl
    · rw [World.cell?_setCell_other _ _ _ _ (fun he => e (congrArg Addr.off he))]; exact hj
theorem Upd.drew {b o : Nat} {u w : World} (h : Upd b o u w) : Upd b o u w.drew := ⟨h.os, h.tape, h.output, h.size, h.block, h.cell, h.frozen, h.there⟩

/-- the round constants, where the program keeps them -/
def TabK (w : World) : Prop := ∀ i, i < 64 → w.cell? ⟨2, i, none⟩ = some (.int .u32 (lk kTab i))

theorem index61 (ws : List Int) (hl : ws.length = 64) (k : Nat) (hk : k < 64) (w : World) : (Instr.index 142 (.agg (ws.map (Value.int .u32)).toArray) (.int .i64 (k : Int))).run Tryd.prog w = .ok (.int .u32 (lk ws k)) w := by
  have hs : ∀ w, (sizeOf 66).run Tryd.prog w = .ok 1 w := fun w => by kernel_rfl
  have hg : ∀ w, (isAgg 66).run Tryd.prog w = .ok false w := fun w => by kernel_rfl
  unfold lk
  rw [List.getD_eq_getElem?_getD, List.getElem?_eq_getElem (by omega)]
  simp [Instr.index, asIntOf, run_underlying Tryd.underlying142, hs, part, hg]
  rw [if_pos hk, List.getElem?_eq_getElem (by omega)]
  rfl
theorem index40L (ws : List Int) (hl : ws.length = 8) (k : Nat) (hk : k < 8) (w : World) : (Instr.index 96 (.agg (ws.map (Value.int .u32)).toArray) (.int .i64 (k : Int))).run Tryd.prog w = .ok (.int .u32 (lk ws k)) w := by
  have hs : ∀ w, (sizeOf 66).run Tryd.prog w = .ok 1 w := fun w => by kernel_rfl
  have hg : ∀ w, (isAgg 66).run Tryd.prog w = .ok false w := fun w => by kernel_rfl
  unfold lk
  rw [List.getD_eq_getElem?_getD, List.getElem?_eq_getElem (by omega)]
  simp [Instr.index, asIntOf, run_underlying Tryd.underlying96, hs, part, hg]
  rw [if_pos hk, List.getElem?_eq_getElem (by omega)]
  rfl
theorem index40 (a b c d e f g z : Int) (k : Nat) (hk : k < 8) (w : World) : (Instr.index 96 (.agg #[.int .u32 a, .int .u32 b, .int .u32 c, .int .u32 d, .int .u32 e, .int .u32 f, .int .u32 g, .int .u32 z]) (.int .i64 (k : Int))).run Tryd.prog w = .ok (.int .u32 (lk (stL ⟨a, b, c, d, e, f, g, z⟩) k)) w :=
  index40L (stL ⟨a, b, c, d, e, f, g, z⟩) rfl k hk w
theorem size40 : (Tryd.prog.info? 96).map (·.size) = some 8 := by kernel_rfl
def zeroSt : List Value := (List.replicate 8 (0 : Int)).map (Value.int .u32)
theorem zero40 (w : World) : (zeroValue 96).run Tryd.prog w = .ok (.agg zeroSt.toArray) w := by kernel_rfl
theorem ints_one (k : IntKind) (l : List Int) : ∀ v ∈ l.map (Value.int k), v.oneCell' = true := by
  intro v hv; simp only [List.mem_map] at hv; obtain ⟨x, _, rfl⟩ := hv; rfl
theorem range_part {w : World} {b o : Nat} {l m r : List Value} (h : w.rangeAt b o (l ++ m ++ r)) (n : Nat) (hn : l.length = n) : w.rangeAt b (o + n) m := fun j v hv => by
  have hj := (List.getElem?_eq_some_iff.1 hv).1
  have := h (n + j) v (by rw [List.getElem?_append_left (by simp; omega), List.getElem?_append_right (by omega), show n + j - l.length = j by omega]; exact hv)
  rwa [← Nat.add_assoc] at this
theorem range_cell {w : World} {b o : Nat} {k : IntKind} {l : List Int} (h : w.rangeAt b o (l.map (Value.int k))) (i : Nat) (hi : i < l.length) : w.cell? ⟨b, o + i, none⟩ = some (.int k (lk l i)) := by
  refine h i _ ?_
  unfold lk
  rw [List.getElem?_map, List.getElem?_eq_getElem hi, List.getD_eq_getElem?_getD, List.getElem?_eq_getElem hi]; rfl

theorem rhL_of {w wr : World} {b o : Nat} {st st' blk : List Int} {f z : Int} (hst : st.length = 8) (hr : w.rangeAt b o (rhL st blk f z))
    (hc8 : ∀ i, i < 8 → wr.cell? ⟨b, o + i, none⟩ = some (.int .u32 (lk st' i))) (hcr : ∀ i, 8 ≤ i → wr.cell? ⟨b, o + i, none⟩ = w.cell? ⟨b, o + i, none⟩) (hst' : st'.length = 8 := by rfl) : wr.rangeAt b o (rhL st' blk f z) := by
  intro j v hv
  unfold rhL at hv
  rw [List.append_assoc] at hv
  by_cases hj : j < 8
  · rw [List.getElem?_append_left (by simp; omega), List.getElem?_map, List.getElem?_eq_getElem (by omega)] at hv
    rw [hc8 j hj, ← hv]
    unfold lk
    rw [List.getD_eq_getElem?_getD, List.getElem?_eq_getElem (by omega)]; rfl
  · rw [hcr j (by omega)]
    refine hr j v ?_
    unfold rhL
    rw [List.append_assoc, List.getElem?_append_right (by simp; omega)]
    rw [List.getElem?_append_right (by simp; omega)] at hv
    simpa [hst, hst'] using hv

set_option maxRecDepth 100000 in
set_option maxHeartbeats 1000000 in
theorem mixI_any (b o : Nat) (st blk : List Int) (f z : Int) (w : World) (hok : (stOf st).ok) (hst : st.length = 8) (hbl : blk.length = 64) (hbb : ∀ i, 0 ≤ lk blk i ∧ lk blk i < 256)
    (hr : w.rangeAt b o (rhL st blk f z)) (ht : w.there b o 74) (hT : TabK w) (hb0 : b ≠ 2) :
    Calls Tryd.prog 86 #[.pointer (some ⟨b, o, none⟩)] w fun e w' => e = .returned (.tuple #[]) ∧ w'.rangeAt b o (rhL (blockF kTab st (wsTo blk 0 64)) blk f z) ∧ Upd b o w w' := by
  have hblkR : w.rangeAt b (o + 8) (blk.map (Value.int .u8)) := range_part hr 8 (by simp [hst])
  have hstR : w.rangeAt b o (st.map (Value.int .u32)) := by
    have := range_part (l := []) (m := st.map (Value.int .u32)) (r := blk.map (Value.int .u8) ++ [.int .i64 f, .int .u64 z]) (by rw [List.nil_append, ← List.append_assoc]; exact hr) 0 rfl
    exact this
  have hst0 : Hid (w.rangeAt b o (st.map (Value.int .u32))) := hstR
  have hbw : b < w.heap.size := by
    have := range_cell hstR 0 (by omega)
    exact World.block_lt_of_cell? w _ this
  have hgw : 2 < w.heap.size := World.block_lt_of_cell? w _ (hT 0 (by omega))
  have hz61 := zero61
  have hz40 := zero40
  go_enter Tryd.func86, Tryd.ntmps86
  go_wp2_with (refine wpList_load_mid rfl 97 _ rfl b (o + 8) rfl (blk.map (Value.int .u8)) _ hblkR Tryd.underlying97 rfl (by rw [size41]; simp [hbl]) ?_)
  refine (schedI_any blk hbl hbb w).mono ?_
  rintro e W1 ⟨rfl, hb1⟩
  have hs1 := hb1.size
  have hix := index61 (wsTo blk 0 64) (wsTo_length _ _ _)
  have hlen : ((wsTo blk 0 64).map (Value.int .u32)).length = 64 := by rw [List.length_map, wsTo_length]
  have hone := ints_one .u32 (wsTo blk 0 64)
  have hws := wsTo_lo32 blk 0 64
  generalize hwsd : wsTo blk 0 64 = ws at *
  have HW : Hid (ws = wsTo blk 0 64) := hwsd.symm
  clear hwsd
  go_wp2_with (first
    | (refine wpList_store_mid rfl 142 _ _ rfl W1.heap.size 0 (ws.map (Value.int .u32)).toArray rfl rfl (by simpa [hlen] using there_new W1 zeroWs.toArray 142 64 (by decide)) (by rw [size61]; simp [hlen]) (all_oneCell_toArray hone) ?_
       generalize hW2 : World.setCells _ _ _ _ = W2
       have hrw : W2.rangeAt W1.heap.size 0 (ws.map (Value.int .u32)) := by rw [← hW2]; exact World.rangeAt_setCells_same _ _ _ _ (by rw [hlen]; exact there_new W1 zeroWs.toArray 142 64 (by decide))
       have hs2 : W2.heap.size = W1.heap.size + 1 := by rw [← hW2, setCells_size]; simp
       have hb2 : Below W1.heap.size W1 W2 := by rw [← hW2]; exact below_setCells ((Below.refl _ _).alloc (Nat.le_refl _) _) (Nat.le_refl _) _ _
       clear hW2)
    | (refine wpList_load_mid rfl 96 _ rfl b o rfl (st.map (Value.int .u32)) _ (by exact fun j v hv => ((hb2.cell (p := ⟨b, o + j, none⟩) (by simp; omega)).trans (hb1.cell (p := ⟨b, o + j, none⟩) (by simp; omega))).trans (hstR j v hv)) Tryd.underlying96 rfl (by rw [size40]; simp [hst]) ?_)
    | (refine wpList_store_mid rfl 96 _ _ rfl (W1.heap.size + 1) 0 (st.map (Value.int .u32)).toArray rfl rfl (by have := there_new W2 zeroSt.toArray 96 8 (by decide); rw [hs2] at this; simpa [hst] using this) (by rw [size40]; simp [hst]) (all_oneCell_toArray (ints_one _ _)) ?_
       generalize hW3 : World.setCells _ _ _ _ = W3
       have hrs : W3.rangeAt (W1.heap.size + 1) 0 (st.map (Value.int .u32)) := by rw [← hW3]; exact World.rangeAt_setCells_same _ _ _ _ (by have := there_new W2 zeroSt.toArray 96 8 (by decide); rw [hs2] at this; simpa [hst] using this)
       have hs3 : W3.heap.size = W1.heap.size + 1 + 1 := by rw [← hW3, setCells_size, World.size_alloc, hs2]
       have hb3 : Below (W1.heap.size + 1) W2 W3 := by rw [← hW3, ← hs2]; exact below_setCells ((Below.refl _ _).alloc (Nat.le_refl _) _) (Nat.le_refl _) _ _
       clear hW3))
  have c0 := range_cell hrs 0 (by omega)
  have c1 := range_cell hrs 1 (by omega)
  have c2 := range_cell hrs 2 (by omega)
  have c3 := range_cell hrs 3 (by omega)
  have c4 := range_cell hrs 4 (by omega)
  have c5 := range_cell hrs 5 (by omega)
  have c6 := range_cell hrs 6 (by omega)
  have c7 := range_cell hrs 7 (by omega)
  rw [Nat.zero_add] at c0 c1 c2 c3 c4 c5 c6 c7
  go_quiet (fail)
  have hrw3 : W3.rangeAt W1.heap.size 0 (ws.map (Value.int .u32)) := fun j v hv => (hb3.cell (p := ⟨W1.heap.size, 0 + j, none⟩) (by simp)).trans (hrw j v hv)
  clear c0 c1 c2 c3 c4 c5 c6 c7
  go_wp2_with (refine wpList_load_mid rfl 142 _ rfl W1.heap.size 0 rfl (ws.map (Value.int .u32)) _ (by exact hrw3) Tryd.underlying142 rfl (by rw [size61, hlen]) ?_)
  have hB : Below w.heap.size w (W3.drewN nq) := below_drewN ((hb1.trans (hb2.mono hs1)).trans (hb3.mono (by omega))) nq
  clear hrs hrw hrw3 hb1 hb2 hb3 hblkR hstR hz61 hz40
  generalize W3.drewN nq = W4 at *
  go_loop [4, 5, 6, 7, 8, 9, 10, 11, 47] (fun a b c d e ff g z i => ∃ k : Nat, k ≤ 64 ∧ i = .int .i64 k ∧ a = .int .u32 (rndTo (stOf st) kTab ws k).a ∧ b = .int .u32 (rndTo (stOf st) kTab ws k).b ∧ c = .int .u32 (rndTo (stOf st) kTab ws k).c ∧ d = .int .u32 (rndTo (stOf st) kTab ws k).d ∧ e = .int .u32 (rndTo (stOf st) kTab ws k).e ∧ ff = .int .u32 (rndTo (stOf st) kTab ws k).f ∧ g = .int .u32 (rndTo (stOf st) kTab ws k).g ∧ z = .int .u32 (rndTo (stOf st) kTab ws k).z) (fun _ _ _ _ _ _ _ _ i => 64 - (intOf i).toNat)
  case atStart => exact ⟨0, by omega, rfl, rfl, rfl, rfl, rfl, rfl, rfl, rfl, rfl⟩
  case round =>
    obtain ⟨k, hk, rfl, rfl, rfl, rfl, rfl, rfl, rfl, rfl, rfl⟩ := hrel
    have hok2 := rndTo_ok (stOf st) kTab ws hok k
    by_cases hlt2 : k < 64
    · have hst2 : Hid (rndTo (stOf st) kTab ws (k + 1) = rnd (rndTo (stOf st) kTab ws k) (lk kTab k) (lk ws k)) := rfl
      have hck := (hB.cell (p := ⟨2, k, none⟩) hgw).trans (hT k hlt2)
      have hi := hix k hlt2
      clear hix
      generalize rndTo (stOf st) kTab ws k = s at *
      obtain ⟨a, b', c, d, e, f', g', z'⟩ := s
      obtain ⟨⟨oa, oa'⟩, ⟨ob, ob'⟩, ⟨oc, oc'⟩, ⟨od, od'⟩, ⟨oe, oe'⟩, ⟨of, of'⟩, ⟨og, og'⟩, ⟨oz, oz'⟩⟩ := hok2
      dsimp only at oa oa' ob ob' oc oc' od od' oe oe' of of' og og' oz oz'
      go_wp2_with (go_at_call 92; refine (rot_any _ _ _ _ (by omega) (by omega) (by omega) (by omega) rfl).mono ?_; rintro e w' ⟨rfl, rfl⟩)
      refine ⟨⟨k + 1, by omega, by go_num, ?_, ?_, ?_, ?_, ?_, ?_, ?_, ?_⟩, by simp [intOf]; omega⟩
      · rw [hst2.out]; exact congrArg (Value.int .u32) (rnd_a ⟨a, b', c, d, e, f', g', z'⟩ _ _)
      · rw [hst2.out]; rfl
      · rw [hst2.out]; rfl
      · rw [hst2.out]; rfl
      · rw [hst2.out]; exact congrArg (Value.int .u32) (rnd_e ⟨a, b', c, d, e, f', g', z'⟩ _ _)
      · rw [hst2.out]; rfl
      · rw [hst2.out]; rfl
      · rw [hst2.out]; rfl
    · obtain rfl : k = 64 := by omega
      have hnb := lk_blockF kTab st ws
      generalize rndTo (stOf st) kTab ws 64 = s at *
      obtain ⟨a, b', c, d, e, f', g', z'⟩ := s
      have hix8 := index40 a b' c d e f' g' z'
      have hls := fun i hi => lk_stL hok2 i hi
      have hlst := fun i hi => lk_stOf hok i hi
      have hcW : ∀ j, W4.cell? ⟨b, j, none⟩ = w.cell? ⟨b, j, none⟩ := fun j => hB.cell (p := ⟨b, j, none⟩) hbw
      have hfW : ∀ j, W4.frozen? ⟨b, j, none⟩ = w.frozen? ⟨b, j, none⟩ := fun j => hB.frozen (p := ⟨b, j, none⟩) hbw
      have hU0 : Upd b o w W4 := Upd.of_below hB hbw
      clear hB hix hk hlt2 hok2
      go_wp2
      go_loopw [121] (fun i wr => ∃ k : Nat, k ≤ 8 ∧ i = .int .i64 k ∧ Upd b o w wr ∧ (∀ i, i < 8 → wr.cell? ⟨b, o + i, none⟩ = some (.int .u32 (if i < k then lk (blockF kTab st ws) i else lk st i))) ∧ (∀ i, 8 ≤ i → wr.cell? ⟨b, o + i, none⟩ = w.cell? ⟨b, o + i, none⟩)) (fun i _ => 8 - (intOf i).toNat)
      case atStart =>
        refine ⟨0, by omega, rfl, hU0, fun i hi => ?_, fun i _ => hcW _⟩
        rw [if_neg (by omega), hcW]
        exact range_cell hst0.out i (by omega)
      case round =>
        obtain ⟨k, hk, rfl, hU, hc8, hcr⟩ := hrel
        by_cases hlt : k < 8
        · have hck := hc8 k hlt
          rw [if_neg (by omega)] at hck
          have hfk : wr.frozen? ⟨b, o + k, none⟩ = false := by rw [hU.frozen]; exact (ht k (by omega)).2
          have hi8 := hix8 k hlt
          have hl1 := hls k hlt
          have hl2 := hlst k hlt
          have hk0 : (0 : Int) ≤ (k : Int) := Int.natCast_nonneg _
          have hk8 : (k : Int) < 8 := by omega
          go_wp2
          go_region
          go_wp2
          refine ⟨⟨k + 1, by omega, by go_num, (hU.trans (Upd.set wr (o + k) _ (by omega) (by omega))).drew, ?_, ?_⟩, by simp [intOf]; omega⟩
          · intro i hi
            show (wr.setCell ⟨b, o + k, none⟩ _).cell? ⟨b, o + i, none⟩ = _
            by_cases e1 : k = i
            · subst e1
              rw [World.cell?_setCell_same _ _ _ hck, if_pos (by omega), hnb k hlt]
            · rw [World.cell?_setCell_other _ _ _ _ (fun he => e1 (by have := congrArg Addr.off he; simp only at this; omega)), hc8 i hi]
              by_cases e2 : i < k
              · rw [if_pos e2, if_pos (by omega)]
              · rw [if_neg e2, if_neg (by omega)]
          · intro i hi
            show (wr.setCell ⟨b, o + k, none⟩ _).cell? ⟨b, o + i, none⟩ = _
            rw [World.cell?_setCell_other _ _ _ _ (fun he => by have := congrArg Addr.off he; simp only at this; omega)]
            exact hcr i hi
        · obtain rfl : k = 8 := by omega
          go_wp2
          go_end0
          refine ⟨rfl, ?_, hU⟩
          rw [← HW.out]
          exact rhL_of hst hr (fun i hi => by rw [hc8 i hi, if_pos hi]) hcr
end Go.Proofs.YtenggagjgmonoaaDoor
