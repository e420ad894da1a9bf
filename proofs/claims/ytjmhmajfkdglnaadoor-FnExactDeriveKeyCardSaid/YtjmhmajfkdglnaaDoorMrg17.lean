import Derived.Test.YtjmhmajfkdglnaaDoorMrg16
import Derived.Test.YtjmhmajfkdglnaaDoorMrg12
import Derived.Test.YtjmhmajfkdglnaaDoorMrg14
import Derived.Below
import Derived.Laws.AppendOwn
namespace Go.Proofs.YtjmhmajfkdglnaaDoor
open Go.RowKit
set_option linter.unusedVariables false

theorem red_bit0 (q v j m r : Nat) (hj : j < 8) (hr : r = (q * 2 ^ (8 - (j + 1)) + v / 2 ^ (j + 1)) % m) (h : v / 2 ^ j % 2 = 0) : (r + r) % m = (q * 2 ^ (8 - j) + v / 2 ^ j) % m := by
  have e1 := shr_succ v j
  rw [h] at e1
  have e2 : 8 - j = 8 - (j + 1) + 1 := by omega
  rw [e1, e2, hr]
  generalize 8 - (j + 1) = k
  generalize v / 2 ^ (j + 1) = z
  rw [← Nat.add_mod, Nat.pow_succ]
  congr 1
  grobner
theorem red_bit1 (q v j m r : Nat) (hj : j < 8) (hr : r = (q * 2 ^ (8 - (j + 1)) + v / 2 ^ (j + 1)) % m) (h : v / 2 ^ j % 2 = 1) : ((r + r) % m + 1 % m) % m = (q * 2 ^ (8 - j) + v / 2 ^ j) % m := by
  have e1 := shr_succ v j
  rw [h] at e1
  have e2 : 8 - j = 8 - (j + 1) + 1 := by omega
  rw [e1, e2, hr]
  generalize 8 - (j + 1) = k
  generalize v / 2 ^ (j + 1) = z
  rw [← Nat.add_mod, ← Nat.mod_add_mod, ← Nat.add_mod, Nat.mod_add_mod, Nat.pow_succ]
  congr 1
  grobner

set_option maxRecDepth 100000 in
set_option maxHeartbeats 1000000 in
theorem redS_any (s : ByteArray) (m : Nat) (w : World) (hs : s.size ≤ 65535) (hm : m < 18446744073709551616) (h0 : m ≠ 0) :
    Calls Tryd.prog 20 #[.string s, .int .u64 m] w fun e w' => e = .returned (.int .u64 (numL (byt s) % m : Nat)) ∧ w = w' := by
  obtain ⟨c, hc⟩ : ∃ c, Hid (c = numL (byt s) % m) := ⟨_, rfl⟩
  rw [← hc.out]
  have z0 : ((m : Int) == 0) = false := by simp; omega
  have z1 : ¬ ((65535 : Int) < (s.size : Int)) := by omega
  go_enter Tryd.func20, Tryd.ntmps20
  go_wp2
  go_loop [5, 6] (fun rv iv => ∃ (k r : Nat), k ≤ s.size ∧ r < m ∧ iv = .int .i64 (k : Int) ∧ rv = .int .u64 (r : Int) ∧ Hid (r = numL ((byt s).take k) % m)) (fun _ i => s.size - (intOf i).toNat)
  case atStart => exact ⟨0, 0, by omega, by omega, rfl, rfl, by simp [Hid, numL]⟩
  case round =>
    obtain ⟨k, r0, hk, hr0m, rfl, rfl, hr0⟩ := hrel
    by_cases hlt : k < s.size
    · obtain ⟨q, hq⟩ : ∃ q, Hid (q = numL ((byt s).take k)) := ⟨_, rfl⟩
      have hn : Hid (numL ((byt s).take (k + 1)) = q * 256 + s[k].toNat) := by simp only [Hid]; rw [hq.out, numL_take s k hlt]
      rw [← hq.out] at hr0
      have hv := s[k].toNat_lt
      go_wp2
      go_loop [5, 7] (fun rv jv => ∃ (j : Nat) (x : Int) (r : Nat), x = (j : Int) - 1 ∧ j ≤ 8 ∧ r < m ∧ jv = .int .i64 x ∧ rv = .int .u64 (r : Int) ∧ Hid (r = (q * 2 ^ (8 - j) + s[k].toNat / 2 ^ j) % m)) (fun _ i => (intOf i + 1).toNat)
      case atStart =>
        refine ⟨8, 7, r0, rfl, by omega, hr0m, rfl, rfl, ?_⟩
        simp only [Hid]
        rw [hr0.out, Nat.div_eq_of_lt (show s[k].toNat < 2 ^ 8 by omega)]
        simp
      case round =>
        obtain ⟨j, x, r, hx, hj, hrm, rfl, rfl, hr⟩ := hrel
        rcases j with _ | j
        · have hneg : ¬ ((0 : Int) ≤ x) := by omega
          clear hx
          go_wp2
          go_round
          case rel =>
            have R : Hid (r = numL ((byt s).take (k + 1)) % m) := by simp only [Hid]; rw [hn.out, hr.out]; simp
            exact ⟨k + 1, r, by omega, hrm, by go_num, rfl, R⟩
          case measure => simp [intOf]; omega
        · obtain rfl : x = (j : Int) := by omega
          clear hx
          have hd := Nat.mod_lt (r + r) (show m > 0 by omega)
          have hd2 := Nat.mod_lt ((r + r) % m + 1 % m) (show m > 0 by omega)
          have hm0 : Hid (s[k].toNat / 2 ^ j % 2 = 0 → (r + r) % m = (q * 2 ^ (8 - j) + s[k].toNat / 2 ^ j) % m) := red_bit0 q s[k].toNat j m r (by omega) hr.out
          have hm1 : Hid (s[k].toNat / 2 ^ j % 2 = 1 → ((r + r) % m + 1 % m) % m = (q * 2 ^ (8 - j) + s[k].toNat / 2 ^ j) % m) := red_bit1 q s[k].toNat j m r (by omega) hr.out
          by_cases hbit : s[k].toNat / 2 ^ j % 2 = 1
          · have ht := bit1 _ s[k].toNat j rfl hbit
            have hm1' := hm1.out hbit
            clear hm0 hm1 hbit
            go_wp2_with fail
            refine (l2add_any r r m _ hrm hrm hm).mono ?_
            rintro e w' ⟨rfl, rfl⟩
            have L := fun w => l2add_int ((r + r) % m : Nat) ((1 : Int) % (m : Int)) ((r + r) % m) (1 % m) m rfl (by simp) w hd (Nat.mod_lt _ (by omega)) hm
            generalize (r + r) % m = d at *
            generalize (d + 1 % m) % m = d2 at *
            have hm1'' : Hid (d2 = (q * 2 ^ (8 - j) + s[k].toNat / 2 ^ j) % m) := hm1'
            clear hm1' hd
            go_wp2_with fail
            refine (L _).mono ?_
            rintro e w' ⟨rfl, rfl⟩
            clear L
            go_wp2
            go_round
            case rel => exact ⟨j, (j : Int) - 1, d2, rfl, by omega, hd2, rfl, rfl, hm1''⟩
            case measure => simp [intOf]
          · have hb0 : s[k].toNat / 2 ^ j % 2 = 0 := by omega
            have ht := bit0 _ s[k].toNat j rfl hb0
            have hm0' := hm0.out hb0
            clear hm0 hm1 hbit hb0 hd2
            go_wp2_with fail
            refine (l2add_any r r m _ hrm hrm hm).mono ?_
            rintro e w' ⟨rfl, rfl⟩
            generalize (r + r) % m = d at *
            have hm0'' : Hid (d = (q * 2 ^ (8 - j) + s[k].toNat / 2 ^ j) % m) := hm0'
            clear hm0'
            go_wp2
            go_round
            case rel => exact ⟨j, (j : Int) - 1, d, rfl, by omega, hd, rfl, rfl, hm0''⟩
            case measure => simp [intOf]
    · obtain rfl : k = s.size := by omega
      rw [List.take_of_length_le (by rw [byt_length]; omega)] at hr0
      go_wp2
      go_ret
      refine ⟨ret_u64 ?_, rfl⟩
      rw [hc.out, hr0.out]
end Go.Proofs.YtjmhmajfkdglnaaDoor

namespace Go.Proofs.YtjmhmajfkdglnaaDoor
open Go.RowKit
set_option linter.unusedVariables false

/-- numbers below m made of a message -/
def h2f (msg tag : List Int) (m c : Nat) : List Int := (List.range c).map (fun i => ((numL (piece (expM msg tag (24 * c)) i) % m : Nat) : Int))
theorem h2f_length (msg tag : List Int) (m c : Nat) : (h2f msg tag m c).length = c := by simp [h2f]
theorem h2f_take (msg tag : List Int) (m c k : Nat) (hk : k < c) : (h2f msg tag m c).take (k + 1) = (h2f msg tag m c).take k ++ [((numL (piece (expM msg tag (24 * c)) k) % m : Nat) : Int)] := by
  rw [List.take_succ_eq_append_getElem (by rw [h2f_length]; exact hk)]
  simp [h2f]
theorem str_piece (l : List Int) (k : Nat) : (strOfNums l).extract (24 * k) (24 * k + 24) = strOfNums (piece l k) := by
  apply ByteArray.ext
  simp [strOfNums, piece, List.map_take, List.map_drop]
theorem piece_lt {l : List Int} (h : ∀ x ∈ l, 0 ≤ x ∧ x < 256) (k : Nat) : ∀ x ∈ piece l k, 0 ≤ x ∧ x < 256 := fun x hx => h x (List.mem_of_mem_drop (List.mem_of_mem_take hx))
theorem piece_length {l : List Int} {c : Nat} (h : l.length = 24 * c) (k : Nat) (hk : k < c) : (piece l k).length = 24 := by
  rw [piece, List.length_take, List.length_drop]; omega
/-- what is asked of the arguments -/
def okH (msg tag : ByteArray) (m : Nat) (c : Int) : Prop := 1 ≤ c ∧ c ≤ 340 ∧ m ≠ 0 ∧ okM msg tag (24 * c)
theorem own_keep {w w' : World} {base : Nat} {e : TypeId} {size : Nat} {v : Value} {n : Nat} {xs : List Value} (h : w.ownsRow base e size v n xs) (hb : Below w.heap.size w w') : w'.ownsRow base e size v n xs := by
  obtain ⟨h1, h2⟩ := h
  refine ⟨h1, ?_⟩
  rcases h2 with h | ⟨g, cap, cur, rfl, hbg, hg, h3⟩
  · exact .inl h
  · exact .inr ⟨g, cap, cur, rfl, hbg, (hb.block g (Array.getElem?_eq_some_iff.1 hg).1).trans hg, h3⟩
end Go.Proofs.YtjmhmajfkdglnaaDoor
