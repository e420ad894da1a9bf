import Derived.Test.YtenggagjgmonoaaDoorSchedS
namespace Go.Proofs.YtenggagjgmonoaaDoor
open Go.RowKit
set_option linter.unusedVariables false
set_option maxRecDepth 100000
attribute [local go_sem ↓] Go.wp_at_zero Go.wp_at_succ

set_option maxRecDepth 100000 in
set_option maxHeartbeats 1000000 in
theorem blockS_any (gh ch gk ck g cap n : Nat) (h ks m : List Int) (fr : Nat) (w : World)
    (hh : ∀ i, i < 8 → w.cell? ⟨gh, i, none⟩ = some (.int .u32 (lk h i))) (hhb : (stOf h).ok) (hgh : gh < w.heap.size)
    (hks : ∀ i, i < 64 → w.cell? ⟨gk, i, none⟩ = some (.int .u32 (lk ks i))) (hgk : gk < w.heap.size)
    (hm : ∀ i, i < n → w.cell? ⟨g, i, none⟩ = some (.int .u8 (lk m i)))
    (hb : ∀ i, 0 ≤ lk m i ∧ lk m i < 256) (hn : n ≤ 1099511627776) (hf : fr + 64 ≤ n) (hg : g < w.heap.size) :
    Calls Tryd.prog 32 #[.slice (some ⟨gh, 0, none⟩) 8 ch, .slice (some ⟨gk, 0, none⟩) 64 ck, .slice (some ⟨g, 0, none⟩) n cap, .int .i64 fr] w fun e w' =>
      ∃ g', e = .returned (.slice (some ⟨g', 0, none⟩) 8 8) ∧
      w'.ownsRow w.heap.size 66 1 (.slice (some ⟨g', 0, none⟩) 8 8) 8 ((blockF ks h (wsTo m fr 64)).map (Value.int .u32)) ∧ Below w.heap.size w w' := by
  obtain ⟨i0, hi, hz0, hz1, hz2⟩ := info_parts infoU32
  go_enter Tryd.func32, Tryd.ntmps32
  go_wp2_with fail
  refine (schedS_any g cap n m fr w hm hb hn hf hg).mono ?_
  rintro e w1 ⟨gw, cw, rfl, hown, hbl⟩
  have hlt := hown.lt gw rfl
  have h0 := (hbl.cell (p := ⟨gh, 0, none⟩) hgh).trans (hh 0 (by omega))
  have h1 := (hbl.cell (p := ⟨gh, 1, none⟩) hgh).trans (hh 1 (by omega))
  have h2 := (hbl.cell (p := ⟨gh, 2, none⟩) hgh).trans (hh 2 (by omega))
  have h3 := (hbl.cell (p := ⟨gh, 3, none⟩) hgh).trans (hh 3 (by omega))
  have h4 := (hbl.cell (p := ⟨gh, 4, none⟩) hgh).trans (hh 4 (by omega))
  have h5 := (hbl.cell (p := ⟨gh, 5, none⟩) hgh).trans (hh 5 (by omega))
  have h6 := (hbl.cell (p := ⟨gh, 6, none⟩) hgh).trans (hh 6 (by omega))
  have h7 := (hbl.cell (p := ⟨gh, 7, none⟩) hgh).trans (hh 7 (by omega))
  go_wp2
  go_loopw [10, 11, 12, 13, 14, 15, 16, 17, 18] (fun a b c d e f g z i wr => ∃ k : Nat, k ≤ 64 ∧ i = .int .i64 k ∧ a = .int .u32 (rndTo (stOf h) ks (wsTo m fr 64) k).a ∧ b = .int .u32 (rndTo (stOf h) ks (wsTo m fr 64) k).b ∧ c = .int .u32 (rndTo (stOf h) ks (wsTo m fr 64) k).c ∧ d = .int .u32 (rndTo (stOf h) ks (wsTo m fr 64) k).d ∧ e = .int .u32 (rndTo (stOf h) ks (wsTo m fr 64) k).e ∧ f = .int .u32 (rndTo (stOf h) ks (wsTo m fr 64) k).f ∧ g = .int .u32 (rndTo (stOf h) ks (wsTo m fr 64) k).g ∧ z = .int .u32 (rndTo (stOf h) ks (wsTo m fr 64) k).z ∧ Below w1.heap.size w1 wr) (fun _ _ _ _ _ _ _ _ i _ => 64 - (intOf i).toNat)
  case atStart => exact ⟨0, by omega, rfl, rfl, rfl, rfl, rfl, rfl, rfl, rfl, rfl, Below.refl _ _⟩
  case round =>
    obtain ⟨k, hk, rfl, rfl, rfl, rfl, rfl, rfl, rfl, rfl, rfl, hblr⟩ := hrel
    have hok := rndTo_ok (stOf h) ks (wsTo m fr 64) hhb k
    by_cases hlt2 : k < 64
    · have hst : Hid (rndTo (stOf h) ks (wsTo m fr 64) (k + 1) = rnd (rndTo (stOf h) ks (wsTo m fr 64) k) (lk ks k) (lk (wsTo m fr 64) k)) := rfl
      have hck := (hblr.cell (p := ⟨gk, k, none⟩) (by have := hbl.size; simp; omega)).trans ((hbl.cell (p := ⟨gk, k, none⟩) hgk).trans (hks k hlt2))
      have hcw := (hblr.cell (p := ⟨gw, k, none⟩) (by simp; omega)).trans (own_cell hown k hlt2)
      generalize rndTo (stOf h) ks (wsTo m fr 64) k = s at *
      obtain ⟨a, b, c, d, e, f, g', z⟩ := s
      obtain ⟨⟨oa, oa'⟩, ⟨ob, ob'⟩, ⟨oc, oc'⟩, ⟨od, od'⟩, ⟨oe, oe'⟩, ⟨of, of'⟩, ⟨og, og'⟩, ⟨oz, oz'⟩⟩ := hok
      dsimp only at oa oa' ob ob' oc oc' od od' oe oe' of of' og og' oz oz'
      go_wp2_with (go_at_call 52; refine (turn_any _ _ _ (by omega) (by omega) (by omega) (by omega)).mono ?_; rintro e w' ⟨rfl, rfl⟩)
      have hk0 : (0 : Int) ≤ (k : Int) := Int.natCast_nonneg _
      have hk64 : (k : Int) < 64 := by omega
      go_quiet (fail)
      go_wp2_with (go_at_call 52; refine (turn_any _ _ _ (by omega) (by omega) (by omega) (by omega)).mono ?_; rintro e w' ⟨rfl, rfl⟩)
      refine ⟨⟨k + 1, by omega, by go_num, ?_, ?_, ?_, ?_, ?_, ?_, ?_, ?_, below_drewN hblr _⟩, by simp [intOf]; omega⟩ <;> (rw [hst.out]; rfl)
    · obtain rfl : k = 64 := by omega
      have e0 := (hblr.cell (p := ⟨gh, 0, none⟩) (by have := hbl.size; simp; omega)).trans h0
      have e1 := (hblr.cell (p := ⟨gh, 1, none⟩) (by have := hbl.size; simp; omega)).trans h1
      have e2 := (hblr.cell (p := ⟨gh, 2, none⟩) (by have := hbl.size; simp; omega)).trans h2
      have e3 := (hblr.cell (p := ⟨gh, 3, none⟩) (by have := hbl.size; simp; omega)).trans h3
      have e4 := (hblr.cell (p := ⟨gh, 4, none⟩) (by have := hbl.size; simp; omega)).trans h4
      have e5 := (hblr.cell (p := ⟨gh, 5, none⟩) (by have := hbl.size; simp; omega)).trans h5
      have e6 := (hblr.cell (p := ⟨gh, 6, none⟩) (by have := hbl.size; simp; omega)).trans h6
      have e7 := (hblr.cell (p := ⟨gh, 7, none⟩) (by have := hbl.size; simp; omega)).trans h7
      clear h0 h1 h2 h3 h4 h5 h6 h7
      have hsz : w.heap.size ≤ wr.heap.size := Nat.le_trans hbl.size hblr.size
      have hB : Below w.heap.size w wr := hbl.trans (hblr.mono hbl.size)
      clear hblr hbl hown hok hlt
      go_wp2
      go_region_held3 (fun w' => w'.cell? ⟨gh, 0, none⟩ = some (.int .u32 (lk h 0)) ∧ w'.cell? ⟨gh, 1, none⟩ = some (.int .u32 (lk h 1)) ∧ w'.cell? ⟨gh, 2, none⟩ = some (.int .u32 (lk h 2)) ∧ w'.cell? ⟨gh, 3, none⟩ = some (.int .u32 (lk h 3)) ∧ w'.cell? ⟨gh, 4, none⟩ = some (.int .u32 (lk h 4)) ∧ w'.cell? ⟨gh, 5, none⟩ = some (.int .u32 (lk h 5)) ∧ w'.cell? ⟨gh, 6, none⟩ = some (.int .u32 (lk h 6)) ∧ w'.cell? ⟨gh, 7, none⟩ = some (.int .u32 (lk h 7))) (go_keep) (fail)
      go_wp2
      go_ret
      refine ⟨wr.heap.size, rfl, ?_, ?_⟩
      · exact (World.ownsRow_lit wr _ 8 hsz (by decide) rfl).drew
      · exact (hB.alloc hsz _).drew
end Go.Proofs.YtenggagjgmonoaaDoor
