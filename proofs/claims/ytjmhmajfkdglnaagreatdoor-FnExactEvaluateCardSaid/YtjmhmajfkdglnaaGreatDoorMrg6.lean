import Derived.Test.YtjmhmajfkdglnaaGreatDoorMrg0
import Derived.Test.YtjmhmajfkdglnaaGreatDoorChecked
import Derived.WalkKit
import Derived.ProofKit
import Derived.WalkSpells
import Derived.WalkLawsBesides
import Derived.Outline
import Derived.Laws.BytesArg
import Derived.Laws.BitsAllLaws
import Derived.Deep.RegionHeld3
set_option linter.unusedVariables false
set_option maxRecDepth 100000
set_option maxHeartbeats 16000000
namespace Go.Proofs.YtjmhmajfkdglnaaGreatDoor
theorem be4_lt (n : Int) : ∀ x ∈ be4 n, 0 ≤ x ∧ x < 256 := by
  intro x hx
  simp only [be4, List.mem_cons, List.not_mem_nil, or_false] at hx
  rcases hx with rfl | rfl | rfl | rfl <;> omega
theorem digTo_lt (h : List Int) : ∀ i, ∀ x ∈ digTo h i, 0 ≤ x ∧ x < 256
  | 0, x, hx => by simp [digTo] at hx
  | i + 1, x, hx => by
    rw [digTo, List.mem_append] at hx
    rcases hx with hx | hx
    · exact digTo_lt h i x hx
    · exact be4_lt _ x hx
theorem shaF_lt (t : List Int) : ∀ x ∈ shaF t, 0 ≤ x ∧ x < 256 := digTo_lt _ 8
theorem shaF_length (t : List Int) : (shaF t).length = 32 := digTo_length _ 8
theorem rep_lt (n : Nat) : ∀ x ∈ List.replicate n (0 : Int), 0 ≤ x ∧ x < 256 := by
  intro x hx; have := List.eq_of_mem_replicate hx; omega
theorem str_take (l : List Int) (n : Nat) : (strOfNums l).extract 0 n = strOfNums (l.take n) := by
  apply ByteArray.ext
  simp [strOfNums, List.map_take]
theorem str_append' (l r : List Int) : strOfNums l ++ strOfNums r = strOfNums (l ++ r) := by
  apply ByteArray.ext; simp [strOfNums]
theorem byt_one (k : Nat) (h : k < 255) : byt (strOfNums [(k : Int) + 1]) = [(k : Int) + 1] := byt_str _ (fun x hx => by simp at hx; omega)
def xorB (l m : List Int) : List Int := List.zipWith (fun x y => ((x.toNat ^^^ y.toNat : Nat) : Int)) l m
theorem xorB_length (l m : List Int) : (xorB l m).length = min l.length m.length := by simp [xorB]
theorem xorB_lt (l m : List Int) (hl : ∀ x ∈ l, 0 ≤ x ∧ x < 256) (hm : ∀ x ∈ m, 0 ≤ x ∧ x < 256) : ∀ x ∈ xorB l m, 0 ≤ x ∧ x < 256 := by
  intro x hx
  obtain ⟨i, hi, rfl⟩ := List.mem_iff_getElem.1 hx
  have hi' := hi
  rw [xorB_length] at hi'
  have h1 := hl _ (List.getElem_mem (show i < l.length by omega))
  have h2 := hm _ (List.getElem_mem (show i < m.length by omega))
  simp only [xorB, List.getElem_zipWith]
  have := Nat.xor_lt_two_pow (n := 8) (x := l[i].toNat) (y := m[i].toNat) (by omega) (by omega)
  omega
def mTag (tag : List Int) : List Int := tag ++ [(tag.length : Int)]
def mFirst (msg tag : List Int) (n : Nat) : List Int := shaF (List.replicate 64 0 ++ msg ++ [((n / 256 : Nat) : Int), ((n % 256 : Nat) : Int), 0] ++ mTag tag)
def mBlk (f t : List Int) : Nat → List Int
  | 0 => List.replicate 32 0
  | k + 1 => shaF (xorB f (mBlk f t k) ++ [(k : Int) + 1] ++ t)
def mOut (f t : List Int) : Nat → List Int
  | 0 => []
  | k + 1 => mOut f t k ++ mBlk f t (k + 1)
theorem mBlk_length (f t : List Int) : ∀ k, (mBlk f t k).length = 32
  | 0 => by simp [mBlk]
  | _ + 1 => shaF_length _
theorem mBlk_lt (f t : List Int) : ∀ k, ∀ x ∈ mBlk f t k, 0 ≤ x ∧ x < 256
  | 0 => rep_lt 32
  | _ + 1 => shaF_lt _
theorem mOut_length (f t : List Int) : ∀ k, (mOut f t k).length = 32 * k
  | 0 => rfl
  | k + 1 => by rw [mOut, List.length_append, mOut_length f t k, mBlk_length]; omega
theorem mOut_lt (f t : List Int) : ∀ k, ∀ x ∈ mOut f t k, 0 ≤ x ∧ x < 256
  | 0, x, h => by simp [mOut] at h
  | k + 1, x, h => by
    rw [mOut, List.mem_append] at h
    rcases h with h | h
    · exact mOut_lt f t k x h
    · exact mBlk_lt f t (k + 1) x h
theorem mFirst_length (m t : List Int) (n : Nat) : (mFirst m t n).length = 32 := shaF_length _
theorem mFirst_lt (m t : List Int) (n : Nat) : ∀ x ∈ mFirst m t n, 0 ≤ x ∧ x < 256 := shaF_lt _
def expM (msg tag : List Int) (n : Nat) : List Int := (mOut (mFirst msg tag n) (mTag tag) ((n + 31) / 32)).take n
theorem expM_length (msg tag : List Int) (n : Nat) : (expM msg tag n).length = n := by
  rw [expM, List.length_take, mOut_length]; omega
theorem expM_lt (msg tag : List Int) (n : Nat) : ∀ x ∈ expM msg tag n, 0 ≤ x ∧ x < 256 := fun x h => mOut_lt _ _ _ x (List.mem_of_mem_take h)
def piece (l : List Int) (i : Nat) : List Int := (l.drop (24 * i)).take 24
end Go.Proofs.YtjmhmajfkdglnaaGreatDoor
namespace Go.Proofs.YtjmhmajfkdglnaaGreatDoor
open Go.RowKit
theorem infoU8x : (Tryz.prog.info? 5).map (fun i => (i.zero, i.size, i.bytes)) = some (some (.int .u8 0), 1, 1) := by kernel_rfl
theorem xorB_take (a b : ByteArray) (j : Nat) (ha : j < a.size) (hb : j < b.size) : (xorB (byt a) (byt b)).take (j + 1) = (xorB (byt a) (byt b)).take j ++ [((a[j].toNat ^^^ b[j].toNat : Nat) : Int)] := by
  rw [List.take_succ_eq_append_getElem (by rw [xorB_length, byt_length, byt_length]; omega)]
  simp [xorB, byt]
  rfl
theorem bothS_any (a b : ByteArray) (w : World) (ha : a.size ≤ 1000) (hab : a.size ≤ b.size) :
    Calls Tryz.prog 183 #[.string a, .string b] w fun e w' => e = .returned (.string (strOfNums (xorB (byt a) (byt b)))) ∧ Below w.heap.size w w' := by
  obtain ⟨i0, hi, hz0, hz1, hz2⟩ := info_parts infoU8x
  have hlen : (xorB (byt a) (byt b)).length = a.size := by rw [xorB_length, byt_length, byt_length]; omega
  have htk := xorB_take a b
  generalize xorB (byt a) (byt b) = L at *
  go_enter Tryz.func183, Tryz.ntmps183
  go_wp2
  go_loopw [5, 6] (fun v i wr => ∃ j g cap : Nat, j ≤ a.size ∧ i = .int .i64 (j : Int) ∧ v = .slice (some ⟨g, 0, none⟩) j cap ∧ Row wr w.heap.size g j cap ((L.take j).map (Value.int .u8)) ∧ Below w.heap.size w wr) (fun _ i _ => a.size - (intOf i).toNat)
  case atStart => exact ⟨0, w.heap.size, 0, by omega, rfl, rfl, Row.of_block (n := 0) (cs := #[]) (heap_alloc_new w _) (Nat.le_refl _) (by simp) (by simp), (Below.refl _ _).alloc (Nat.le_refl _) _⟩
  case round =>
    obtain ⟨j, g1, cap1, hj, rfl, rfl, hrow, hbl⟩ := hrel
    have hsz1 : w.heap.size ≤ wr.heap.size := hbl.size
    by_cases hlt : j < a.size
    · have hlt2 : j < b.size := by omega
      have hlti : (j : Int) < (a.size : Int) := by omega
      have hlti2 : (j : Int) < (b.size : Int) := by omega
      have ex := u8_xor_nat a[j].toNat b[j].toNat a[j].toNat_lt b[j].toNat_lt
      have ht := htk j hlt hlt2
      generalize a[j].toNat ^^^ b[j].toNat = z at *
      have tj : ((j : Int)).toNat = j := by omega
      go_wp2
      go_region_held3 (fun _ => True) (trivial)
        ((refine step_append_row (by rfl) _ _ _ (by rfl) w.heap.size 5 i0 _ 1 Tryz.underlying61 hi hz0 hz1 hz2 rfl g1 j cap1 ((L.take j).map (Value.int .u8)) (by rfl) (hrow.alloc _).drew ⟨wr.heap.size, 0, none⟩ 1 1 [.int .u8 z] (by rfl) (by rfl) (World.news_of_block (cs := #[.int .u8 z]) (t := 5) (fr := (0, 0)) (heap_alloc_new wr _)) (by simp [Value.oneCell']) (by unfold maxLen; omega) (by omega) (by simp; omega) (wr.heap.size + 1) (by simp) ?_; intro g3 cap3 w3 hrow3 hgr3 _ _))
      all_goals go_wp2
      all_goals
        have R1 : Row w3 w.heap.size g3 (j + 1) cap3 ((L.take (j + 1)).map (Value.int .u8)) := by rw [ht, List.map_append]; exact hrow3
        have R2 : Below w.heap.size w w3 := ((hbl.alloc hsz1 _).drew).grown hgr3 (by simp; omega) (fun r hr => by simp at hr; have := hrow.lo; omega)
        exact ⟨⟨j + 1, g3, cap3, by omega, by go_num, rfl, R1, R2⟩, by simp [intOf]; omega⟩
    · obtain rfl : j = a.size := by omega
      rw [List.take_of_length_le (by omega)] at hrow
      have hcv := run_convert_bytes_arg (P := Tryz.prog) wr 61 5 Tryz.underlying61 Tryz.underlying5 g1 0 a.size cap1 L hlen (fun i h => by rw [Nat.zero_add]; exact hrow.cell i h) 9 Tryz.underlying9
      go_wp2
      go_ret
      exact ⟨rfl, hbl⟩
end Go.Proofs.YtjmhmajfkdglnaaGreatDoor
