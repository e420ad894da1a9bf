import Derived.Test.YtjmhmajfkdglnaaDoorProg
import Derived.Laws.BytesArg
import Derived.Deep.RegionHeld3
import Derived.Lib.ConvBytes
import Derived.Deep.Strs
import Derived.Test.YtjmhmajfkdglnaaDoorMrg1
import Derived.Test.YtjmhmajfkdglnaaDoorMrg2
import Derived.Test.YtjmhmajfkdglnaaDoorMrg0
import Derived.Deep.AppendLies
import Derived.Deep.QuietTactic
import Derived.BigQuiet
import Derived.Deep.DrawnRows
namespace Go.Proofs.YtjmhmajfkdglnaaDoor
open Go.RowKit
set_option linter.unusedVariables false

theorem conv2 (w : World) (a b : Int) : (convert 30 9 (.slice (some ⟨w.heap.size, 0, none⟩) 2 2)).run Tryd.prog (w.alloc (Obj.cells #[.int .u8 a, .int .u8 b] 5)) = .ok (.string (strOfNums [a, b])) (w.alloc (Obj.cells #[.int .u8 a, .int .u8 b] 5)) :=
  run_convert_bytes_arg (P := Tryd.prog) (w.alloc (Obj.cells #[.int .u8 a, .int .u8 b] 5)) 30 5 Tryd.underlying30 Tryd.underlying5 w.heap.size 0 2 2 [a, b] rfl (fun i hi => by
    have hh := heap_alloc_new w (Obj.cells #[.int .u8 a, .int .u8 b] 5)
    generalize w.alloc (Obj.cells #[.int .u8 a, .int .u8 b] 5) = W at *
    rcases (show i = 0 ∨ i = 1 by omega) with rfl | rfl
    · simp [World.cell?, hh]
    · simp [World.cell?, hh]) 9 Tryd.underlying9
/-- a text with its size -/
def sizB (s : ByteArray) : ByteArray := strOfNums [((s.size / 256 % 256 : Nat) : Int), ((s.size % 256 : Nat) : Int)] ++ s
set_option maxRecDepth 100000 in
theorem sizS_any (s : ByteArray) (w : World) (h : s.size ≤ 65535) :
    Calls Tryd.prog 8 #[.string s] w fun e w' => e = .returned (.string (sizB s)) ∧ Below w.heap.size w w' := by
  have h2 : ((s.size / 256 % 256 : Nat) : Int) = (s.size : Int) / 256 := by omega
  have h3 : ((s.size % 256 : Nat) : Int) = (s.size : Int) % 256 := by omega
  have hcv := conv2 w ((s.size : Int) / 256) ((s.size : Int) % 256)
  unfold sizB
  rw [h2, h3]
  obtain ⟨T, hT⟩ : ∃ T, Hid (T = strOfNums [(s.size : Int) / 256, (s.size : Int) % 256]) := ⟨_, rfl⟩
  have hTs : T.size = 2 := by rw [hT.out, strOfNums_size]; rfl
  rw [← hT.out] at hcv ⊢
  go_enter Tryd.func8, Tryd.ntmps8
  go_wp2
  go_ret
  exact ⟨rfl, (Below.refl _ w).alloc (Nat.le_refl _) _⟩
/-- a word and the context of a mode -/
def tagB (word : ByteArray) (k : Nat) : ByteArray := word ++ ⟨#[84, 79, 89, 80, 82, 70, 45]⟩ ++ (⟨#[48, 49, 50]⟩ : ByteArray).extract k (k + 1) ++ ⟨#[45, 77, 54, 49]⟩
theorem tagB_size (word : ByteArray) (k : Nat) (h : k < 3) : (tagB word k).size = word.size + 12 := by
  rcases (show k = 0 ∨ k = 1 ∨ k = 2 by omega) with rfl | rfl | rfl <;> (unfold tagB; rw [ByteArray.size_append, ByteArray.size_append, ByteArray.size_append]; rfl)
set_option maxRecDepth 100000 in
theorem tagS_any (word : ByteArray) (k : Nat) (w : World) (hk : k < 3) (h : word.size ≤ 100) :
    Calls Tryd.prog 9 #[.string word, .int .i64 k] w fun e w' => e = .returned (.string (tagB word k)) ∧ Below w.heap.size w w' := by
  rcases (show k = 0 ∨ k = 1 ∨ k = 2 by omega) with rfl | rfl | rfl
  · go_enter Tryd.func9, Tryd.ntmps9
    go_wp2
    go_ret
    exact ⟨rfl, Below.refl _ _⟩
  · go_enter Tryd.func9, Tryd.ntmps9
    go_wp2
    go_ret
    exact ⟨rfl, Below.refl _ _⟩
  · go_enter Tryd.func9, Tryd.ntmps9
    go_wp2
    go_ret
    exact ⟨rfl, Below.refl _ _⟩
theorem sizB_size (s : ByteArray) : (sizB s).size = s.size + 2 := by
  unfold sizB
  rw [ByteArray.size_append, strOfNums_size]
  simp only [List.length_cons, List.length_nil]
  omega
/-- a number in two bytes -/
def numB (i : Nat) : ByteArray := strOfNums [((i / 256 % 256 : Nat) : Int), ((i % 256 : Nat) : Int)]
theorem numB_size (i : Nat) : (numB i).size = 2 := by unfold numB; rw [strOfNums_size]; rfl
end Go.Proofs.YtjmhmajfkdglnaaDoor

namespace Go.Proofs.YtjmhmajfkdglnaaDoor
open Go.RowKit
set_option linter.unusedVariables false
set_option maxRecDepth 100000
attribute [local go_sem ↓] Go.wp_at_zero Go.wp_at_succ

theorem infoU32 : (Tryd.prog.info? 86).map (fun i => (i.zero, i.size, i.bytes)) = some (some (.int .u32 0), 1, 4) := by kernel_rfl
theorem infoU8 : (Tryd.prog.info? 5).map (fun i => (i.zero, i.size, i.bytes)) = some (some (.int .u8 0), 1, 1) := by kernel_rfl

set_option maxHeartbeats 1000000 in
theorem schedS_any (g cap n : Nat) (m : List Int) (fr : Nat) (w : World) (hm : ∀ i, i < n → w.cell? ⟨g, i, none⟩ = some (.int .u8 (lk m i)))
    (hb : ∀ i, 0 ≤ lk m i ∧ lk m i < 256) (hn : n ≤ 1099511627776) (hf : fr + 64 ≤ n) (hg : g < w.heap.size) :
    Calls Tryd.prog 44 #[.slice (some ⟨g, 0, none⟩) n cap, .int .i64 fr] w fun e w' =>
      ∃ g' cap', e = .returned (.slice (some ⟨g', 0, none⟩) 64 cap') ∧
      w'.ownsRow w.heap.size 86 1 (.slice (some ⟨g', 0, none⟩) 64 cap') 64 ((wsTo m fr 64).map (Value.int .u32)) ∧ Below w.heap.size w w' := by
  obtain ⟨i0, hi, hz0, hz1, hz2⟩ := info_parts infoU32
  go_enter Tryd.func44, Tryd.ntmps44
  go_wp2
  go_loopw [5, 6] (fun v i wr => ∃ k : Nat, k ≤ 16 ∧ i = .int .i64 k ∧ wr.ownsRow w.heap.size 86 1 v k ((wsTo m fr k).map (Value.int .u32)) ∧ Below w.heap.size w wr) (fun _ i _ => 16 - (intOf i).toNat)
  case atStart => exact ⟨0, by omega, rfl, ⟨rfl, .inr ⟨w.heap.size, 0, #[], rfl, Nat.le_refl _, heap_alloc_new _ _, by omega, by decide, rfl, rfl⟩⟩, (Below.refl _ _).alloc (Nat.le_refl _) _⟩
  case round =>
    obtain ⟨k, hk, rfl, hown, hbl⟩ := hrel
    by_cases hlt : k < 16
    · obtain ⟨p, hp⟩ : ∃ p : Nat, p = fr + 4 * k := ⟨_, rfl⟩
      have hp' : (fr : Int) + 4 * (k : Int) = (p : Int) := by omega
      have c0 := (hbl.cell (p := ⟨g, p, none⟩) hg).trans (hm p (by omega))
      have c1 := (hbl.cell (p := ⟨g, p + 1, none⟩) hg).trans (hm (p + 1) (by omega))
      have c2 := (hbl.cell (p := ⟨g, p + 2, none⟩) hg).trans (hm (p + 2) (by omega))
      have c3 := (hbl.cell (p := ⟨g, p + 3, none⟩) hg).trans (hm (p + 3) (by omega))
      have b0 := hb p
      have b1 := hb (p + 1)
      have b2 := hb (p + 2)
      have b3 := hb (p + 3)
      have hnb : u5.ownBlock ≠ some g := by
        rcases hown.2 with ⟨rfl, _⟩ | ⟨g1, cap1, cur, rfl, hg1, _⟩
        · simp [Value.ownBlock]
        · simp only [Value.ownBlock, ne_eq, Option.some.injEq]; omega
      have hgr : g < wr.heap.size := Nat.lt_of_lt_of_le hg hbl.size
      have hszr : w.heap.size ≤ wr.heap.size := hbl.size
      have q0 : (0 : Int) ≤ (p : Int) := Int.natCast_nonneg _
      have q1 : (p : Int) < (n : Int) := by omega
      have q2 : (p : Int) + 1 < (n : Int) := by omega
      have q3 : (p : Int) + 2 < (n : Int) := by omega
      have q4 : (p : Int) + 3 < (n : Int) := by omega
      have q5 : (0 : Int) ≤ (p : Int) + 1 := by omega
      have q6 : (0 : Int) ≤ (p : Int) + 2 := by omega
      have q7 : (0 : Int) ≤ (p : Int) + 3 := by omega
      have e1 := i64_in ((p : Int) + 1) (by omega) (by omega)
      have e2 := i64_in ((p : Int) + 2) (by omega) (by omega)
      have e3 := i64_in ((p : Int) + 3) (by omega) (by omega)
      have f0 := u32_in (lk m p) (by omega) (by omega)
      have f1 := u32_in (lk m (p + 1)) (by omega) (by omega)
      have f2 := u32_in (lk m (p + 2)) (by omega) (by omega)
      have f3 := u32_in (lk m (p + 3)) (by omega) (by omega)
      have f4 := u32_in (lk m p * 16777216) (by omega) (by omega)
      have f5 := u32_in (lk m (p + 1) * 65536) (by omega) (by omega)
      have f6 := u32_in (lk m (p + 2) * 256) (by omega) (by omega)
      have t1 : ((p : Int) + 1).toNat = p + 1 := by omega
      have t2 : ((p : Int) + 2).toNat = p + 2 := by omega
      have t3 : ((p : Int) + 3).toNat = p + 3 := by omega
      have Hp : Hid (p = fr + 4 * k) := hp
      have hpn : p + 64 ≤ n + 4 * k := by omega
      clear hp
      go_wp2
      go_region_held3 (fun w' => w'.cell? ⟨g, p, none⟩ = some (.int .u8 (lk m p)) ∧ w'.cell? ⟨g, p + 1, none⟩ = some (.int .u8 (lk m (p + 1))) ∧
          w'.cell? ⟨g, p + 2, none⟩ = some (.int .u8 (lk m (p + 2))) ∧ w'.cell? ⟨g, p + 3, none⟩ = some (.int .u8 (lk m (p + 3))))
        (first
          | go_keep
          | (go_split_ands
             refine ⟨?_, ?_, ?_, ?_⟩
             · (rw [hgrow.cell_far _ (by simp; omega) (Ne.symm hnb)]; assumption)
             · (rw [hgrow.cell_far _ (by simp; omega) (Ne.symm hnb)]; assumption)
             · (rw [hgrow.cell_far _ (by simp; omega) (Ne.symm hnb)]; assumption)
             · (rw [hgrow.cell_far _ (by simp; omega) (Ne.symm hnb)]; assumption)))
        ((refine step_append_lies _ (by rfl) _ _ _ (by rfl) w.heap.size 86 i0 _ 1 4 Tryd.underlying87 hi hz0 hz1 hz2 rfl (by omega) u5 k ((wsTo m fr k).map (Value.int .u32)) (by rfl) ((hown.alloc _).drew)
            ⟨wr.heap.size, 0, none⟩ 1 1 [.int .u32 (word m p)] (by rfl) (by rfl) (World.news_of_block (cs := #[.int .u32 (word m p)]) (t := 86) (fr := (0, 0)) (heap_alloc_new wr _)) (by simp [Value.oneCell'])
            (by omega) (by unfold maxLen; omega) (by omega) (by simp; omega) (wr.heap.size + 1) (by simp) ?_; intro gg cap w1 hown1 hgrow hat hglt))
      go_wp2
      refine ⟨⟨k + 1, by omega, by go_num, ?_, ?_⟩, by simp [intOf]; omega⟩
      · rw [wsTo_lo m fr k hlt, ← Hp.out]; exact hown1
      · exact (((hbl.alloc hszr _).drew).grown hgrow (by simp; omega) (fun r hr => (hown.lt r hr).1))
    · obtain rfl : k = 16 := by omega
      go_wp2
      go_loopw [5, 8] (fun v i wr => ∃ k : Nat, 16 ≤ k ∧ k ≤ 64 ∧ i = .int .i64 k ∧ wr.ownsRow w.heap.size 86 1 v k ((wsTo m fr k).map (Value.int .u32)) ∧ Below w.heap.size w wr) (fun _ i _ => 64 - (intOf i).toNat)
      case atStart => exact ⟨16, by omega, by omega, rfl, hown, hbl⟩
      case round =>
        clear hown hbl
        obtain ⟨k, hk16, hk, rfl, hown, hbl⟩ := hrel
        by_cases hlt : k < 64
        · obtain ⟨g1, cap1, rfl, hg1, hlt1⟩ := hown.form (by omega)
          have c15 := own_cell hown (k - 15) (by omega)
          have c2 := own_cell hown (k - 2) (by omega)
          have c16 := own_cell hown (k - 16) (by omega)
          have c7 := own_cell hown (k - 7) (by omega)
          have b15 := wsTo_lo32 m fr k (k - 15)
          have b2 := wsTo_lo32 m fr k (k - 2)
          have b16 := wsTo_lo32 m fr k (k - 16)
          have b7 := wsTo_lo32 m fr k (k - 7)
          go_wp2_with (go_at_call 45; refine (turn_any _ _ _ (by omega) (by omega) (by omega) (by omega)).mono ?_; rintro e w' ⟨rfl, rfl⟩)
          have hszr : w.heap.size ≤ wr.heap.size := hbl.size
          have hn1 : g1 ≠ wr.heap.size := by omega
          have q0 : (0 : Int) ≤ (k : Int) - 16 := by omega
          have q1 : (k : Int) - 16 < (k : Int) := by omega
          have q2 : (0 : Int) ≤ (k : Int) - 7 := by omega
          have q3 : (k : Int) - 7 < (k : Int) := by omega
          have q4 : (16 : Int) ≤ (k : Int) := by omega
          have q5 : (7 : Int) ≤ (k : Int) := by omega
          have e1 := i64_in ((k : Int) - 16) (by omega) (by omega)
          have e2 := i64_in ((k : Int) - 7) (by omega) (by omega)
          have t1 : ((k : Int) - 16).toNat = k - 16 := by omega
          have t2 : ((k : Int) - 7).toNat = k - 7 := by omega
          have hL16 := own_get hown (k - 16) (by omega)
          have hL7 := own_get hown (k - 7) (by omega)
          go_region_held3 (fun w' => w'.cell? ⟨g1, k - 16, none⟩ = some (.int .u32 (lk (wsTo m fr k) (k - 16))) ∧ w'.cell? ⟨g1, k - 7, none⟩ = some (.int .u32 (lk (wsTo m fr k) (k - 7))))
            (first
              | go_keep
              | exact ⟨hkeep _ _ hL16, hkeep _ _ hL7⟩)
            ((refine step_append_keeps (by rfl) _ _ _ (by rfl) w.heap.size 86 i0 _ 4 Tryd.underlying87 hi hz0 hz1 hz2 rfl g1 k cap1 ((wsTo m fr k).map (Value.int .u32)) (by rfl) ((hown.alloc _).drew)
                ⟨wr.heap.size, 0, none⟩ 1 1 [.int .u32 (nextw (wsTo m fr k) k)] (by rfl) (by rfl) (World.news_of_block (cs := #[.int .u32 (nextw (wsTo m fr k) k)]) (t := 86) (fr := (0, 0)) (heap_alloc_new wr _)) (by simp [Value.oneCell'])
                (by omega) (by unfold maxLen; omega) (by omega) (by simp; omega) (wr.heap.size + 1) (by simp) ?_; intro gg cap w1 hown1 hgrow hat hglt hkeep))
          go_wp2
          go_roundw
          case rel =>
            have R1 : w1.ownsRow w.heap.size 86 1 (.slice (some ⟨gg, 0, none⟩) (k + 1) cap) (k + 1) ((wsTo m fr (k + 1)).map (Value.int .u32)) := by
              rw [wsTo_hi m fr k hk16]; exact hown1
            have R2 : Below w.heap.size w w1 := (((hbl.alloc hszr _).drew).grown hgrow (by simp; omega) (fun r hr => by simp at hr; omega))
            first
              | exact ⟨k + 1, by omega, by omega, by go_num, R1, R2⟩
              | ((repeat apply Exists.intro); exact ⟨⟨k + 1, by omega, by omega, by go_num, R1, R2⟩, rfl⟩)
          case measure => simp [intOf]; omega
        · obtain rfl : k = 64 := by omega
          obtain ⟨g1, cap1, rfl, hg1, hlt1⟩ := hown.form (by omega)
          go_wp2
          go_ret
          exact ⟨g1, cap1, rfl, hown, hbl⟩
end Go.Proofs.YtjmhmajfkdglnaaDoor
