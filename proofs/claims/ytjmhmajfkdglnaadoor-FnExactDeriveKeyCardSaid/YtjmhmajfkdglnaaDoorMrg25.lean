import Derived.Test.YtjmhmajfkdglnaaDoorMrg24
import Derived.Test.YtjmhmajfkdglnaaDoorMrg9
import Derived.Test.YtjmhmajfkdglnaaDoorMrg14
import Derived.Test.YtjmhmajfkdglnaaDoorChecked
import Derived.WalkKit
import Derived.ProofKit
import Derived.WalkSpells
import Derived.WalkLawsBesides
import Derived.Outline
import Derived.Lib.BitFns
import Derived.Lib.Mul64
import Derived.Laws.Bits64b
namespace Go.Proofs.YtjmhmajfkdglnaaDoor
open Go.RowKit
set_option linter.unusedVariables false
attribute [local go_sem ↓] Go.wp_at_zero Go.wp_at_succ

set_option maxRecDepth 100000 in
theorem exmI_no (msg tag : ByteArray) (n : Int) (w : World) (h : ¬ okM msg tag n) :
    Calls Tryd.prog 34 #[.string msg, .string tag, .int .i64 n] w fun e w' => e = .returned (.tuple #[.string ⟨#[]⟩, .bool false]) ∧ Below w.heap.size w w' := by
  by_cases h1 : tag.size < 1
  · have g1 : (tag.size : Int) < 1 := by omega
    go_enter Tryd.func34, Tryd.ntmps34
    go_wp2
    go_ret2
    exact ⟨rfl, Below.refl _ _⟩
  · have g1 : ¬ (tag.size : Int) < 1 := by omega
    by_cases h2 : 255 < tag.size
    · have g2 : (255 : Int) < (tag.size : Int) := by omega
      go_enter Tryd.func34, Tryd.ntmps34
      go_wp2
      go_ret2
      exact ⟨rfl, Below.refl _ _⟩
    · have g2 : ¬ (255 : Int) < (tag.size : Int) := by omega
      by_cases h3 : n < 1
      · go_enter Tryd.func34, Tryd.ntmps34
        go_wp2
        go_ret2
        exact ⟨rfl, Below.refl _ _⟩
      · by_cases h4 : 8160 < n
        · go_enter Tryd.func34, Tryd.ntmps34
          go_wp2
          go_ret2
          exact ⟨rfl, Below.refl _ _⟩
        · by_cases h5 : 65535 < msg.size
          · have g5 : (65535 : Int) < (msg.size : Int) := by omega
            go_enter Tryd.func34, Tryd.ntmps34
            go_wp2
            go_ret2
            exact ⟨rfl, Below.refl _ _⟩
          · exact absurd ⟨by omega, by omega, by omega, by omega, by omega⟩ h

theorem cf_cls (args : Array Value) (w : World) : (callFunc 52 args).run Tryd.prog w = .ok (.enter 52 args) w := by kernel_rfl
theorem Row0.same {w w' : World} {base n : Nat} {v : Value} {xs : List Value} (h : Row0 w base v n xs) (hb : ∀ b, base ≤ b → b < w.heap.size → w'.heap[b]? = w.heap[b]?) (hs : w.heap.size ≤ w'.heap.size) : Row0 w' base v n xs := by
  rcases h with h | ⟨g, cap, rfl, hr⟩
  · exact .inl h
  · exact .inr ⟨g, cap, rfl, hr.same (hb g hr.lo hr.hi) hs⟩
theorem Cls.below {W W' : World} {B bc bs bl be : Nat} {F Tl : List Int} {T : ByteArray} {k : Nat} (h : Cls W bc bs bl be F Tl T k) (hb : Below B W W') (h1 : bc < B) (h2 : bs < B) (h3 : bl < B) (h4 : be < B) : Cls W' bc bs bl be F Tl T k :=
  ⟨(hb.block _ h1).trans h.c, (hb.block _ h2).trans h.s, (hb.block _ h3).trans h.l, (hb.block _ h4).trans h.e⟩
set_option maxRecDepth 100000 in
set_option maxHeartbeats 4000000 in
theorem exmI_yes (msg tag : ByteArray) (n : Nat) (w : World) (hT0 : TabK w) (h : okM msg tag n) :
    Calls Tryd.prog 34 #[.string msg, .string tag, .int .i64 n] w fun e w' => e = .returned (.tuple #[.string (strOfNums (expM (byt msg) (byt tag) n)), .bool true]) ∧ Below w.heap.size w w' := by
  obtain ⟨i0, hi0, hz0, hz1, hz2⟩ := info_parts infoU8'
  have hgw : 9 < w.heap.size := World.block_lt_of_cell? w _ (hT0 0 (by omega))
  obtain ⟨E, hE0⟩ : ∃ E, Hid (E = expM (byt msg) (byt tag) n) := ⟨_, rfl⟩
  rw [← hE0.out]
  obtain ⟨h1, h2, h3, h4, h5⟩ := h
  have g1 : ¬ (tag.size : Int) < 1 := by omega
  have g2 : ¬ (255 : Int) < (tag.size : Int) := by omega
  have g3 : ¬ (n : Int) < 1 := by omega
  have g4 : ¬ (8160 : Int) < (n : Int) := by omega
  have g5 : ¬ (65535 : Int) < (msg.size : Int) := by omega
  have ecl := cf_cls
  go_enter Tryd.func34, Tryd.ntmps34
  go_wp2_with fail
  refine (blocksI msg tag n w hT0 h1 h2 (by omega) h5).mono ?_
  rintro e W1 ⟨bc, bs, bl, be, T, rfl, hC, hTb, hTs, hls, hle, hlc, hll, hb1⟩
  have hE : Hid (E = (mOut (mFirst (byt msg) (byt tag) n) (mTag (byt tag)) ((n + 31) / 32)).take n) := by simp only [Hid]; rw [hE0.out, expM]
  have hFl := mFirst_length (byt msg) (byt tag) n
  have hFb := mFirst_lt (byt msg) (byt tag) n
  generalize mFirst (byt msg) (byt tag) n = F at *
  generalize mTag (byt tag) = Tl at *
  clear hE0
  have lc := hC.c.lt
  have ls := hC.s.lt
  have ll := hC.l.lt
  have le := hC.e.lt
  go_wp2
  go_loopw [9] (fun ov wr => ∃ k : Nat, 32 * k ≤ n + 31 ∧ Row0 wr W1.heap.size ov (32 * k) ((mOut F Tl k).map (Value.int .u8)) ∧ Cls wr bc bs bl be F Tl T k ∧ W1.heap.size ≤ wr.heap.size ∧ Below w.heap.size w wr) (fun v _ => n + 32 - lenV v)
  case atStart => exact ⟨0, by omega, .inl ⟨rfl, rfl, rfl⟩, hC, Nat.le_refl _, hb1⟩
  case round =>
    clear hC hb1
    obtain ⟨k, hkn, hrow, hC, hsz, hbr⟩ := hrel
    obtain ⟨ao, cap, rfl⟩ : ∃ ao cap, u9 = .slice ao (32 * k) cap := by
      rcases hrow with ⟨rfl, h, _⟩ | ⟨g, cap, rfl, _⟩
      · exact ⟨none, 0, by rw [h]⟩
      · exact ⟨_, _, rfl⟩
    by_cases hltk : 32 * k < n
    · have hk255 : k < 255 := by omega
      have hTr : TabK wr := fun i hi => (hbr.cell (p := ⟨9, i, none⟩) hgw).trans (hT0 i hi)
      have hli : ((32 * k : Nat) : Int) < (n : Int) := by omega
      have HR : Hid (Row0 wr W1.heap.size (.slice ao (32 * k) cap) (32 * k) ((mOut F Tl k).map (Value.int .u8))) := hrow
      clear hrow
      go_wp2_with fail
      refine (nextI w.heap.size bc bs bl be F Tl T k wr hC hTr hls hle hgw hlc hll hk255 hFl hFb hTb hTs).mono ?_
      rintro e W2 ⟨rfl, hC2, hb2, ho2⟩
      have hs2 := hb2.size
      have hrow2 := HR.out.same (fun b h1 h2 => ho2 b h2 (by omega) (by omega)) hs2
      have hbr2 : Below w.heap.size w W2 := hbr.trans hb2
      have hsz32 : (strOfNums (mBlk F Tl (k + 1))).size = 32 := by rw [strOfNums_size, mBlk_length]
      have hbt : Hid ((mOut F Tl k).map (Value.int .u8) ++ (byt (strOfNums (mBlk F Tl (k + 1)))).map (Value.int .u8) = (mOut F Tl (k + 1)).map (Value.int .u8)) := by
        simp only [Hid]; rw [byt_str _ (mBlk_lt _ _ _), ← List.map_append, mOut]
      clear hC hbr HR ho2 hb2 hTr
      go_wp2_with (first
        | (refine wpList_append_str rfl _ _ 30 9 rfl W1.heap.size 5 i0 (.int .u8 0) Tryd.underlying30 Tryd.underlying9 hi0 hz0 hz1 hz2 rfl (.slice ao (32 * k) cap) (32 * k) ((mOut F Tl k).map (Value.int .u8)) rfl hrow2 (strOfNums (mBlk F Tl (k + 1))) rfl (by rw [hsz32]; omega) (by rw [hsz32]; omega) (by omega) ?_
           intro g3 cap3 w3 hrow3 hb8
           rw [hbt.out, hsz32] at hrow3))
      have R1 : Row0 w3 W1.heap.size (.slice (some ⟨g3, 0, none⟩) (32 * k + 32) cap3) (32 * (k + 1)) ((mOut F Tl (k + 1)).map (Value.int .u8)) := by
        rw [Nat.mul_add]; exact .inr ⟨g3, cap3, rfl, hrow3⟩
      have R2 := hC2.below hb8 lc ls ll le
      have R3 : Below w.heap.size w w3 := hbr2.trans (hb8.mono (by omega))
      have R4 : W1.heap.size ≤ w3.heap.size := by have := hb8.size; omega
      go_roundw
      case rel =>
        first
          | exact ⟨k + 1, by omega, R1, R2, R4, R3⟩
          | ((repeat apply Exists.intro); exact ⟨⟨k + 1, by omega, R1, R2, R4, R3⟩, rfl⟩)
      case measure => simp [lenV]; omega
    · have hkk : k = (n + 31) / 32 := by omega
      have hexp : Hid (E = (mOut F Tl k).take n) := by simp only [Hid]; rw [hE.out, ← hkk]
      have hol := mOut_length F Tl k
      clear hkk
      rcases hrow with ⟨_, hz, _⟩ | ⟨g, cap', hsl, hrow⟩
      · omega
      · cases hsl
        have hcv := run_convert_bytes_arg (P := Tryd.prog) wr 30 5 Tryd.underlying30 Tryd.underlying5 g 0 n cap ((mOut F Tl k).take n) (by rw [List.length_take, hol]; omega) (fun i h => by rw [Nat.zero_add, hrow.cell i (by omega)]; congr 2; rw [← lk_take _ n i h]; rfl) 9 Tryd.underlying9
        have hcap := hrow.le
        have hli : ¬ ((32 * k : Nat) : Int) < (n : Int) := by omega
        go_wp2
        go_ret2
        refine ⟨?_, hbr⟩
        show Ending.returned (.tuple #[.string (strOfNums ((mOut F Tl k).take n)), .bool true]) = _
        rw [hexp.out]
end Go.Proofs.YtjmhmajfkdglnaaDoor

namespace Go.Proofs.YtjmhmajfkdglnaaDoor.Dv
/-- an 'or' of parts that do not meet -/
theorem or_add (h t s : Nat) (ht : t < 2 ^ s) : h * 2 ^ s ||| t = h * 2 ^ s + t := by
  rw [Nat.mul_comm, Nat.two_pow_add_eq_or_of_lt ht]
end Go.Proofs.YtjmhmajfkdglnaaDoor.Dv
namespace Go.Proofs.YtjmhmajfkdglnaaDoor
open Go.RowKit
theorem orN (a b : Nat) (ha : a < 18446744073709551616) (hb : b < 18446744073709551616) : bits .or .u64 (a : Int) (b : Int) = ((a ||| b : Nat) : Int) := bits_or_u64_nat a b ha hb
end Go.Proofs.YtjmhmajfkdglnaaDoor
