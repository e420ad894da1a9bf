import Derived.Test.YtagnikeaellbiaaGreatDoorMrg10
import Derived.Test.YtagnikeaellbiaaGreatDoorMrg19
import Derived.Test.YtagnikeaellbiaaGreatDoorMrg9
import Derived.Test.YtagnikeaellbiaaGreatDoorMrg1
import Derived.Test.YtagnikeaellbiaaGreatDoorMrg16
import Derived.Test.YtagnikeaellbiaaGreatDoorMrg25
namespace Go.Proofs.YtagnikeaellbiaaGreatDoor
open Go.RowKit
set_option linter.unusedVariables false

theorem numL_lt (l : List Int) (h : ∀ x ∈ l, 0 ≤ x ∧ x < 256) : numL l < 256 ^ l.length := by
  suffices ∀ (l : List Int) (a n : Nat), (∀ x ∈ l, 0 ≤ x ∧ x < 256) → a < 256 ^ n → l.foldl (fun r x => r * 256 + x.toNat) a < 256 ^ (n + l.length) by
    have := this l 0 0 h (by decide)
    rwa [Nat.zero_add] at this
  intro l
  induction l with
  | nil => intro a n _ h; simpa using h
  | cons x l ih =>
    intro a n hx ha
    have := ih (a * 256 + x.toNat) (n + 1) (fun y hy => hx y (List.mem_cons_of_mem _ hy)) (by
      have := hx x List.mem_cons_self
      rw [Nat.pow_succ]; omega)
    rw [List.foldl_cons, List.length_cons, show n + (l.length + 1) = n + 1 + l.length by omega]
    exact this
theorem numL_take_lt (s : ByteArray) (k : Nat) (hk : k < 8) : numL ((byt s).take k) < 72057594037927936 := by
  have h1 := numL_lt ((byt s).take k) (fun x hx => byt_lt s x (List.mem_of_mem_take hx))
  have h2 : (256 : Nat) ^ ((byt s).take k).length ≤ 256 ^ 7 := Nat.pow_le_pow_right (by decide) (by rw [List.length_take]; omega)
  have : (256 : Nat) ^ 7 = 72057594037927936 := by decide
  omega
theorem numL_8 (s : ByteArray) (h : s.size = 8) : numL (byt s) < 18446744073709551616 := by
  have h1 := numL_lt (byt s) (byt_lt s)
  rw [byt_length, h] at h1
  have : (256 : Nat) ^ 8 = 18446744073709551616 := by decide
  omega

/-- a byte behind a word that is moved up -/
theorem or_byte (z : Nat) (v : UInt8) : bits .or .u64 (IntKind.u64.wrap ((z : Int) * 256)) ((v.toNat : Nat) : Int) = ((z * 256 % 18446744073709551616 + v.toNat : Nat) : Int) := by
  have hv := v.toNat_lt
  have e : IntKind.u64.wrap ((z : Int) * 256) = ((z * 256 % 18446744073709551616 : Nat) : Int) := by rw [IntKind.wrap_u64]; omega
  rw [e, orN _ _ (Nat.mod_lt _ (by decide)) (by omega)]
  have e2 : z * 256 % 18446744073709551616 = z % 72057594037927936 * 2 ^ 8 := by omega
  rw [e2, Dv.or_add _ _ 8 (by omega)]
end Go.Proofs.YtagnikeaellbiaaGreatDoor

namespace Go.Proofs.YtagnikeaellbiaaGreatDoor
open Go.RowKit
set_option linter.unusedVariables false


set_option maxRecDepth 100000 in
set_option maxHeartbeats 1000000 in
/-- the program's word of eight bytes -/
theorem wdI_any (s : ByteArray) (w : World) (hs : s.size = 8) :
    Calls Tryz.prog 69 #[.string s] w fun e w' => e = .returned (.int .u64 (numL (byt s) : Nat)) ∧ w = w' := by
  obtain ⟨c, hc⟩ : ∃ c, Hid (c = numL (byt s)) := ⟨_, rfl⟩
  rw [← hc.out]
  go_enter Tryz.func69, Tryz.ntmps69
  go_wp2
  go_loop [3, 7] (fun rv iv => ∃ (k r : Nat), k ≤ 8 ∧ iv = .int .i64 (k : Int) ∧ rv = .int .u64 (r : Int) ∧ Hid (r = numL ((byt s).take k))) (fun _ i => 8 - (intOf i).toNat)
  case atStart => exact ⟨0, 0, by omega, rfl, rfl, by simp [Hid, numL]⟩
  case round =>
    obtain ⟨k, r, hk, rfl, rfl, hr⟩ := hrel
    by_cases hlt : k < 8
    · have hlt' : k < s.size := by omega
      have hlti : (k : Int) < (s.size : Int) := by omega
      have hv := s[k].toNat_lt
      have hl := numL_take_lt s k hlt
      rw [← hr.out] at hl
      have e0 : IntKind.u64.wrap (s[k].toNat : Int) = (s[k].toNat : Int) := by simp only [IntKind.wrap_u64]; omega
      have e1 := or_byte r s[k]
      rw [Nat.mod_eq_of_lt (show r * 256 < 18446744073709551616 by omega)] at e1
      have hn : Hid (r * 256 + s[k].toNat = numL ((byt s).take (k + 1))) := by simp only [Hid]; rw [numL_take s k hlt', ← hr.out]
      generalize r * 256 + s[k].toNat = r' at *
      clear hl hv
      go_wp2
      go_round
      case rel => exact ⟨k + 1, r', by omega, by go_num, rfl, hn⟩
      case measure => simp [intOf]; omega
    · obtain rfl : k = 8 := by omega
      rw [List.take_of_length_le (by rw [byt_length]; omega)] at hr
      go_wp2
      go_ret
      exact ⟨ret_u64 (by rw [hc.out, hr.out]), rfl⟩

set_option maxRecDepth 100000 in
theorem putI_any (n : Nat) (w : World) (hn : n < 18446744073709551616) :
    Calls Tryz.prog 45 #[.int .u64 n] w fun e w' => e = .returned (.string (strOfNums (be8 n))) ∧ Below w.heap.size w w' := by
  have L := fun w => beI_any (n : Int) 8 w (by omega) (by omega) (by omega) (by omega)
  rw [beTo8] at L
  clear hn
  go_enter Tryz.func45, Tryz.ntmps45
  go_wp2_with fail
  refine (L _).mono ?_
  rintro e w' ⟨rfl, hb⟩
  go_wp2
  go_ret
  exact ⟨rfl, hb⟩
end Go.Proofs.YtagnikeaellbiaaGreatDoor

namespace Go.Proofs.YtagnikeaellbiaaGreatDoor
open Go.RowKit M
set_option linter.unusedVariables false


theorem rep_point {X Y Z : Fp} : ∀ {p : Pt}, rep X Y Z p → (p = none ∧ Z = 0) ∨ (Z ≠ 0 ∧ p = some (X * fi Z, Y * fi Z))
  | none, ⟨l, _, _, _, hZ⟩ => .inl ⟨rfl, by rw [hZ]; show l * 0 = 0; grobner⟩
  | some (x, y), ⟨l, hl, hX, hY, hZ⟩ => by
    have e : Z = l := by rw [hZ]; show l * 1 = l; grobner
    subst e
    have hf := fi_mul hl
    refine .inr ⟨hl, ?_⟩
    have h1 : X * fi Z = x := by
      have : X = Z * x := hX
      grobner
    have h2 : Y * fi Z = y := by
      have : Y = Z * y := hY
      grobner
    rw [h1, h2]
theorem pntV {X Y Z : Fp} {p : Pt} (h : rep X Y Z p) (w : World) :
    Calls Tryz.prog 73 #[.agg #[.int .u64 (fv X), .int .u64 (fv Y), .int .u64 (fv Z)]] w fun e w' => e = .returned (ptW p) ∧ Below w.heap.size w w' := by
  rcases rep_point h with ⟨rfl, hz⟩ | ⟨hz, rfl⟩
  · exact pntP_no X Y Z w (by rw [fv_zero]; simp [hz])
  · exact pntP_yes X Y Z w (by rw [fv_zero]; simp [hz])
theorem cplV {p q : Pt} (hp : on p) (hq : on q) (w : World) :
    Calls Tryz.prog 67 #[ptW p, ptW q] w fun e w' => e = .returned (ptW (ad p q)) ∧ Below w.heap.size w w' := by
  have K1 := triV p
  have K2 := triV q
  have K4 := pntV (rep_ad hp hq)
  rw [ptW_eq] at K1 K2 K4 ⊢
  rw [ptW_eq q, ptW_eq (ad p q)]
  exact cplus_of _ _ _ _ _ _ _ _ _ _ _ _ _ _ _ _ _ _ w K1 K2 (trV _ _ _ _ _ _) K4
end Go.Proofs.YtagnikeaellbiaaGreatDoor
