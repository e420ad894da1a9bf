import Derived.Test.YtenggagjgmonoaaDoorTakeI
namespace Go.Proofs.YtenggagjgmonoaaDoor
open Go.RowKit
set_option linter.unusedVariables false
attribute [local go_sem ↓] Go.wp_at_zero Go.wp_at_succ

def mesF : Option Value → Nat
  | some (.int _ f) => ((120 - f) % 64).toNat
  | _ => 0
theorem str_append (l r : List Int) : strOfNums l ++ strOfNums r = strOfNums (l ++ r) := by
  apply ByteArray.ext; simp [strOfNums]

theorem RH_filled {w : World} {b n k : Nat} {t : List Int} {z : Int} (hR : RH w b 0 t z) (hL : t.length = n + 1 + k) : w.cell? ⟨b, 72, none⟩ = some (.int .i64 (((n : Int) + 1 + (k : Int)) % 64)) := by
  obtain ⟨blk, _, _, _, hC⟩ := hR
  have := hC.filled
  rw [hL, Nat.zero_add] at this
  rw [this]; congr 2

set_option maxRecDepth 100000 in
set_option maxHeartbeats 1000000 in
theorem sumI_any (b o : Nat) (t : List Int) (w : World) (hR : RH w b o t (t.length : Int)) (hT : TabK w) (hlen : t.length ≤ 1000000000000) (htb : ∀ x ∈ t, 0 ≤ x ∧ x < 256) :
    Calls Tryd.prog 55 #[.pointer (some ⟨b, o, none⟩)] w fun e w' => e = .returned (.string (strOfNums (shaF t))) ∧ Below w.heap.size w w' := by
  have hz := zero44
  have hgw : 2 < w.heap.size := World.block_lt_of_cell? w _ (hT 0 (by omega))
  obtain ⟨blk, hbl, hbb, hbt, hC⟩ := hR
  have hbw : b < w.heap.size := World.block_lt_of_cell? w _ hC.filled
  have hsz := hC.size
  have hrg := hC.range (stateTo_length _ _) hbl
  have hrl : (rhL (stateTo t (t.length / 64)) blk ((t.length % 64 : Nat) : Int) (t.length : Int)).length = 74 := by simp [rhL, stateTo_length, hbl]
  have hro := rhL_one (stateTo t (t.length / 64)) blk ((t.length % 64 : Nat) : Int) (t.length : Int)
  have hth : (w.alloc (.cells zeroRh.toArray 99)).there w.heap.size 0 74 := there_new w _ _ 74 (by simp [zeroRh_len])
  have hend : ∀ W, W.rangeAt w.heap.size 0 (rhL (stateTo t (t.length / 64)) blk ((t.length % 64 : Nat) : Int) (t.length : Int)) → W.there w.heap.size 0 74 → RH W w.heap.size 0 t (t.length : Int) :=
    fun W h1 h2 => ⟨blk, hbl, hbb, hbt, RC.of_range (stateTo_length _ _) hbl h1 h2⟩
  generalize rhL (stateTo t (t.length / 64)) blk ((t.length % 64 : Nat) : Int) (t.length : Int) = L at *
  clear hC hbt hbb hbl
  go_enter Tryd.func55, Tryd.ntmps55
  go_wp2_with (first
    | (refine wpList_load_mid rfl 99 _ rfl b o rfl L _ hrg Tryd.underlying99 rfl (by rw [size44, hrl]) ?_)
    | (refine wpList_store_mid rfl 99 _ _ rfl w.heap.size 0 L.toArray rfl rfl (by simpa [hrl] using hth) (by rw [size44]; simp [hrl]) (all_oneCell_toArray hro) ?_
       generalize hW1 : World.setCells _ _ _ _ = W1
       have hR1 : RH W1 w.heap.size 0 t (t.length : Int) := by
         rw [← hW1]
         exact hend _ (World.rangeAt_setCells_same _ _ _ _ (by rw [hrl]; exact hth)) (World.there_setCells hth _ _ _)
       have hs1 : W1.heap.size = w.heap.size + 1 := by rw [← hW1, setCells_size]; simp
       have hb1 : Below w.heap.size w W1 := by rw [← hW1]; exact below_setCells ((Below.refl _ _).alloc (Nat.le_refl _) _) (Nat.le_refl _) _ _
       clear hW1))
  clear hend hth hro hrl hrg hz
  have hg0 : w.heap.size ≠ 2 := by omega
  have hT1 : TabK W1 := fun i hi => (hb1.cell (p := ⟨2, i, none⟩) hgw).trans (hT i hi)
  refine (takeI_any w.heap.size 0 t _ W1 hR1 hT1 hg0 (by simp [ByteArray.size]; omega)).mono ?_
  rintro e W2 ⟨rfl, hR2, hU2⟩
  have hb2 : Below w.heap.size w W2 := hb1.trans (hU2.below (Nat.le_refl _) (by omega))
  have hT2 : TabK W2 := fun i hi => (hb2.cell (p := ⟨2, i, none⟩) hgw).trans (hT i hi)
  rw [show byt { data := #[128] } = [128] from rfl] at hR2
  clear hU2 hR1 hT1 hb1
  go_wp2_with fail
  go_loopw [] (fun wr => ∃ z : Nat, z ≤ zeros t.length ∧ RH wr w.heap.size 0 (t ++ [128] ++ List.replicate z 0) ((t ++ [128] ++ List.replicate z 0).length : Int) ∧ Below w.heap.size w wr) (fun wr => mesF (wr.cell? ⟨w.heap.size, 0 + 72, none⟩))
  case atStart => exact ⟨0, Nat.zero_le _, by rw [List.replicate_zero, List.append_nil]; exact hR2, hb2⟩
  case round =>
    clear hR2 hb2 hT2
    obtain ⟨z, hz, hR, hb⟩ := hrel
    have hTr : TabK wr := fun i hi => (hb.cell (p := ⟨2, i, none⟩) hgw).trans (hT i hi)
    have hzl : zeros t.length < 64 := Nat.mod_lt _ (by omega)
    have hL : (t ++ [128] ++ List.replicate z 0).length = t.length + 1 + z := by simp; omega
    have c72 := RH_filled hR hL
    by_cases hlt : z < zeros t.length
    · have ht : (((t.length : Int) + 1 + (z : Int)) % 64 != 56) = true := by
        rw [bne_iff_ne]; unfold zeros at hlt; omega
      go_wp2_with fail
      refine (takeI_any w.heap.size 0 (t ++ [128] ++ List.replicate z 0) _ wr hR hTr hg0 (by rw [hL]; simp [ByteArray.size]; omega)).mono ?_
      rintro e W3 ⟨rfl, hR3, hU3⟩
      have hR3' : RH W3 w.heap.size 0 (t ++ [128] ++ List.replicate (z + 1) 0) ((t ++ [128] ++ List.replicate (z + 1) 0).length : Int) := by
        rw [List.replicate_succ', ← List.append_assoc]; exact hR3
      have c3 := RH_filled (n := t.length) (k := z + 1) hR3' (by simp; omega)
      have hb3 : Below w.heap.size w W3 := hb.trans (hU3.below (Nat.le_refl _) hb.size)
      clear hR3 hU3
      go_wp2
      go_roundw
      case rel =>
        first
          | exact ⟨z + 1, by omega, hR3', hb3⟩
          | ((repeat apply Exists.intro); exact ⟨⟨z + 1, by omega, hR3', hb3⟩, rfl⟩)
      case measure =>
        rw [Nat.zero_add, c72, c3]
        simp only [mesF]
        unfold zeros at hlt; omega
    · obtain rfl : z = zeros t.length := by omega
      have ht : (((t.length : Int) + 1 + (zeros t.length : Int)) % 64 != 56) = false := by
        rw [bne_eq_false_iff_eq]; unfold zeros; omega
      have h73 := (hb.cell (p := ⟨b, o + 73, none⟩) hbw).trans hsz
      have hm8 : (t.length : Int) * 8 < 18446744073709551616 := by omega
      go_wp2_with fail
      refine (beI_any ((t.length : Int) * 8) 8 wr (by omega) hm8 (by omega) (by omega)).mono ?_
      rintro e W4 ⟨rfl, hb4⟩
      have hs4 := hb.size
      have hlt4 : w.heap.size < wr.heap.size := World.block_lt_of_cell? wr _ c72
      have hR4 : RH W4 w.heap.size 0 (t ++ [128] ++ List.replicate (zeros t.length) 0) ((t ++ [128] ++ List.replicate (zeros t.length) 0).length : Int) := by
        obtain ⟨blk, h1, h2, h3, hC⟩ := hR
        exact ⟨blk, h1, h2, h3, hC.same (hb4.block _ hlt4)⟩
      have hb4' : Below w.heap.size w W4 := hb.trans (hb4.mono hs4)
      have hT4 : TabK W4 := fun i hi => (hb4'.cell (p := ⟨2, i, none⟩) hgw).trans (hT i hi)
      clear hR hb hb4 hTr c72 h73 hm8
      go_wp2_with fail
      refine (takeI_any w.heap.size 0 (t ++ [128] ++ List.replicate (zeros t.length) 0) _ W4 hR4 hT4 hg0 (by rw [hL, strOfNums_size, beTo_length]; omega)).mono ?_
      rintro e W5 ⟨rfl, hR5, hU5⟩
      have hp : t ++ [128] ++ List.replicate (zeros t.length) 0 ++ byt (strOfNums (beTo ((t.length : Int) * 8) 8)) = padF t := by
        rw [beTo8, byt_str _ (be8_lt _)]; rfl
      rw [hp] at hR5
      have hb5 : Below w.heap.size w W5 := hb4'.trans (hU5.below (Nat.le_refl _) (by have := hb4'.size; omega))
      clear hR4 hU5 hT4 hb4' hp
      have hsh : Hid (shaF t = digTo (stateTo (padF t) ((padF t).length / 64)) 8) := rfl
      obtain ⟨blk5, hbl5, _, _, hC5⟩ := hR5
      have hok5 := stateTo_ok (padF t) ((padF t).length / 64)
      have hl5 := stateTo_length (padF t) ((padF t).length / 64)
      have hrg5 := hC5.range hl5 hbl5
      generalize stateTo (padF t) ((padF t).length / 64) = H at *
      have hst5 : W5.rangeAt w.heap.size 0 (H.map (Value.int .u32)) := by
        have := range_part (l := []) (m := H.map (Value.int .u32)) (r := blk5.map (Value.int .u8) ++ [.int .i64 (((padF t).length % 64 : Nat) : Int), .int .u64 ((padF t).length : Int)]) (by rw [List.nil_append, ← List.append_assoc]; exact hrg5) 0 rfl
        exact this
      have hix := index40L H hl5
      clear hrg5 hC5
      go_wp2_with (refine wpList_load_mid rfl 96 _ rfl w.heap.size 0 rfl (H.map (Value.int .u32)) _ hst5 Tryd.underlying96 rfl (by rw [size40]; simp [hl5]) ?_)
      clear hst5
      go_loopw [4, 24] (fun v i wr => ∃ k : Nat, k ≤ 8 ∧ i = .int .i64 k ∧ v = .string (strOfNums (digTo H k)) ∧ Below w.heap.size w wr) (fun _ i _ => 8 - (intOf i).toNat)
      case atStart => exact ⟨0, by omega, rfl, rfl, hb5⟩
      case round =>
        clear hb5
        obtain ⟨k, hk, rfl, rfl, hbr⟩ := hrel
        by_cases hlt8 : k < 8
        · have hi8 := hix k hlt8
          have hw := lk_stOf hok5 k hlt8
          obtain ⟨hw0, hw1⟩ := hw
          have hdl := digTo_length H k
          have hcat : Hid (strOfNums (digTo H k) ++ strOfNums (beTo (lk H k) 4) = strOfNums (digTo H (k + 1))) := by
            simp only [Hid]; rw [str_append, beTo4, digTo]
          clear hix
          go_wp2_with fail
          refine (beI_any (lk H k) 4 wr hw0 (by omega) (by omega) (by omega)).mono ?_
          rintro e W6 ⟨rfl, hb6⟩
          have hb6' : Below w.heap.size w W6 := hbr.trans (hb6.mono hbr.size)
          clear hb6
          have hsm : (strOfNums (digTo H k)).size + (strOfNums (beTo (lk H k) 4)).size ≤ 100 := by rw [strOfNums_size, strOfNums_size, beTo_length, hdl]; omega
          go_wp2
          go_roundw
          case rel =>
            have R : Value.string (strOfNums (digTo H k) ++ strOfNums (beTo (lk H k) 4)) = Value.string (strOfNums (digTo H (k + 1))) := by rw [hcat.out]
            first
              | exact ⟨k + 1, by omega, by go_num, R, hb6'⟩
              | ((repeat apply Exists.intro); exact ⟨⟨k + 1, by omega, by go_num, R, hb6'⟩, rfl⟩)
          case measure => simp [intOf]; omega
        · obtain rfl : k = 8 := by omega
          go_wp2
          go_ret
          exact ⟨by rw [hsh.out]; rfl, hbr⟩
end Go.Proofs.YtenggagjgmonoaaDoor
