import Derived.Test.YtenggagjgmonoaaDoorH2nG
import Derived.Laws.OwnMore
namespace Go.Proofs.YtenggagjgmonoaaDoor
open Go.RowKit
set_option linter.unusedVariables false

theorem infoW' : (Tryd.prog.info? 25).map (fun i => (i.zero, i.size, i.bytes)) = some (some (.int .u64 0), 1, 8) := by kernel_rfl
theorem cellsG_at (m : Int) : ∀ (H : List Int) (k : Nat), k < H.length → (cellsG m H)[2 * k]? = some (.int .u64 m) ∧ (cellsG m H)[2 * k + 1]? = some (.int .u64 (lk H k))
  | [], k, h => by simp at h
  | x :: r, 0, _ => ⟨rfl, rfl⟩
  | x :: r, k + 1, h => by
    have := cellsG_at m r k (by simpa using h)
    rw [show 2 * (k + 1) = 2 * k + 2 by omega, show 2 * k + 2 + 1 = 2 * k + 1 + 2 by omega]
    exact this
theorem lk_take_snoc (H : List Int) (k : Nat) (h : k < H.length) : H.take (k + 1) = H.take k ++ [lk H k] := by
  rw [List.take_succ_eq_append_getElem h]
  unfold lk
  rw [List.getD_eq_getElem?_getD, List.getElem?_eq_getElem h]
  rfl

set_option maxRecDepth 100000 in
set_option maxHeartbeats 2000000 in
theorem h2fI_yes (msg tag : ByteArray) (m c : Nat) (w : World) (hT : TabK w) (hm : m < 18446744073709551616) (h : okH msg tag m c) :
    Calls Tryd.prog 12 #[.string msg, .string tag, .int .u64 m, .int .i64 c] w fun e w' => ∃ g cap, e = .returned (.tuple #[.slice (some ⟨g, 0, none⟩) c cap, .bool true]) ∧ Row w' w.heap.size g c cap ((h2f (byt msg) (byt tag) m c).map (Value.int .u64)) ∧ Below w.heap.size w w' := by
  obtain ⟨i0, hi, hz0, hz1, hz2⟩ := info_parts infoW'
  have X := fun w hT => h2nG_yes msg tag m c w hT hm h
  obtain ⟨h1, h2, h3, h4⟩ := h
  have g3 : ((m : Int) == 0) = false := by simp; omega
  have hll := h2f_length (byt msg) (byt tag) m c
  generalize h2f (byt msg) (byt tag) m c = H at *
  go_enter Tryd.func12, Tryd.ntmps12
  go_wp2_with fail
  refine (X _ hT).mono ?_
  rintro e W1 ⟨v, rfl, hown0, hb0⟩
  clear X
  obtain ⟨g0, cap0, rfl⟩ : ∃ g0 cap0, v = .slice (some ⟨g0, 0, none⟩) c cap0 := by
    rcases hown0.2 with ⟨_, hc⟩ | ⟨g, cap, cur, hv, _⟩
    · omega
    · exact ⟨g, cap, hv⟩
  have hg0 := hown0.lt g0 rfl
  have hcm : ∀ k, k < c → W1.cell? ⟨g0, 2 * k, none⟩ = some (.int .u64 m) := fun k hk => by
    have := hown0.cells (g := g0) rfl (2 * k) _ (cellsG_at m H k (by omega)).1
    rwa [Addr.add_mid, Nat.zero_add] at this
  have hcx : ∀ k, k < c → W1.cell? ⟨g0, 2 * k + 1, none⟩ = some (.int .u64 (lk H k)) := fun k hk => by
    have := hown0.cells (g := g0) rfl (2 * k + 1) _ (cellsG_at m H k (by omega)).2
    rwa [Addr.add_mid, Nat.zero_add] at this
  have hcap0 : c ≤ cap0 := by
    rcases hown0.2 with ⟨_, hc⟩ | ⟨g, cap, cur, hv, _, _, hle, _⟩
    · omega
    · cases hv; exact hle
  clear hown0
  have hs1 := hb0.size
  go_wp2
  go_loopw [12, 14, 27] (fun ov _ iv wr => ∃ k : Nat, k ≤ c ∧ iv = .int .i64 (k : Int) ∧ wr.ownsRow W1.heap.size 25 1 ov k ((H.take k).map (Value.int .u64)) ∧ Below W1.heap.size W1 wr) (fun _ _ i _ => c - (intOf i).toNat)
  case atStart => exact ⟨0, by omega, rfl, World.ownsRow_nil _ _ _ _, Below.refl _ _⟩
  case round =>
    obtain ⟨k, hk, rfl, hown, hbl⟩ := hrel
    have hsz := hbl.size
    by_cases hlt : k < c
    · have hli : (k : Int) < (c : Int) := by omega
      have q0 : (0 : Int) ≤ (k : Int) := by omega
      have c1 := (hbl.cell (p := ⟨g0, 2 * k, none⟩) hg0.2).trans (hcm k hlt)
      have c2 := (hbl.cell (p := ⟨g0, 2 * k + 1, none⟩) hg0.2).trans (hcx k hlt)
      rw [Nat.mul_comm 2 k] at c1 c2
      have ht := lk_take_snoc H k (by omega)
      generalize lk H k = z at *
      have hnew : ((wr.alloc (.cells #[.int .u64 (m : Int), .int .u64 z] 58)).alloc (.cells #[.int .u64 z] 25)).heap[wr.heap.size + 1]? = some (.cells #[.int .u64 z] 25) := by
        have := heap_alloc_new (wr.alloc (.cells #[.int .u64 (m : Int), .int .u64 z] 58)) (.cells #[.int .u64 z] 25)
        rwa [show (wr.alloc (.cells #[.int .u64 (m : Int), .int .u64 z] 58)).heap.size = wr.heap.size + 1 by simp] at this
      go_wp2_with (first
        | (at_builtin; refine wpList_append_own _ rfl _ _ 29 rfl W1.heap.size 25 i0 (.int .u64 0) 1 8 Tryd.underlying29 hi hz0 hz1 hz2 rfl (by omega) _ k ((H.take k).map (Value.int .u64)) rfl ((hown.alloc _).alloc _) ⟨wr.heap.size + 1, 0, none⟩ 1 1 [.int .u64 z] rfl rfl (World.news_of_block (cs := #[.int .u64 z]) hnew) (by simp [Value.oneCell']) (by unfold maxLen; omega) (by omega) (by simp; omega) ?_; intro v2 w2 hown2 hgr2 _)
        | go_in)
      have R1 : w2.ownsRow W1.heap.size 25 1 v2 (k + 1) ((H.take (k + 1)).map (Value.int .u64)) := by rw [ht, List.map_append]; exact hown2
      have R2 : Below W1.heap.size W1 w2 := ((hbl.alloc hsz _).alloc (by simp; omega) _).grown hgr2 (by simp; omega) (fun r hr => (((hown.alloc (.cells #[.int .u64 (m : Int), .int .u64 z] 58)).alloc (.cells #[.int .u64 z] 25)).lt r hr).1)
      go_roundw
      case rel =>
        first
          | exact ⟨k + 1, by omega, by go_num, R1, R2⟩
          | ((repeat apply Exists.intro); exact ⟨⟨k + 1, by omega, by go_num, R1, R2⟩, rfl⟩)
      case measure => simp [intOf]; omega
    · obtain rfl : k = c := by omega
      rw [List.take_of_length_le (by omega)] at hown
      obtain ⟨g, cap, rfl⟩ : ∃ g cap, u12 = .slice (some ⟨g, 0, none⟩) k cap := by
        rcases hown.2 with ⟨_, hc⟩ | ⟨g, cap, cur, hv, _⟩
        · omega
        · exact ⟨g, cap, hv⟩
      have hrow := (Row.of_owns hown).mono hs1
      have hbf := hb0.trans (hbl.mono hs1)
      go_wp2
      go_ret2
      exact ⟨g, cap, rfl, hrow, hbf⟩

set_option maxRecDepth 100000 in
set_option maxHeartbeats 2000000 in
theorem h2fI_no (msg tag : ByteArray) (m : Nat) (c : Int) (w : World) (h : ¬ okH msg tag m c) :
    Calls Tryd.prog 12 #[.string msg, .string tag, .int .u64 m, .int .i64 c] w fun e w' => e = .returned (.tuple #[.slice none 0 0, .bool false]) ∧ Below w.heap.size w w' := by
  by_cases h3 : m = 0
  · subst h3
    go_enter Tryd.func12, Tryd.ntmps12
    go_wp2
    go_ret2
    exact ⟨rfl, Below.refl _ _⟩
  · have g3 : ((m : Int) == 0) = false := by simp; omega
    have X := fun w => h2nG_no msg tag m c w h3 h
    go_enter Tryd.func12, Tryd.ntmps12
    go_wp2_with fail
    refine (X _).mono ?_
    rintro e W1 ⟨rfl, hb0⟩
    go_wp2
    go_loopw [12, 14, 27] (fun ov _ iv wr => ov = .slice none 0 0 ∧ iv = .int .i64 0 ∧ wr = W1) (fun _ _ _ _ => 0)
    case atStart => exact ⟨rfl, rfl, rfl⟩
    case round =>
      obtain ⟨rfl, rfl, rfl⟩ := hrel
      go_wp2
      go_ret2
      exact ⟨rfl, hb0⟩
end Go.Proofs.YtenggagjgmonoaaDoor
