import Derived.Test.YtdaobioomoajfaaGreatMrg0
import Derived.Test.YtdaobioomoajfaaGreatMrg7
import Derived.Test.YtdaobioomoajfaaGreatMrg2
import Derived.Test.YtdaobioomoajfaaGreatMrg3
import Derived.Test.YtdaobioomoajfaaGreatMrg1
set_option linter.unusedVariables false
set_option maxRecDepth 100000
set_option maxHeartbeats 16000000
namespace Go.Proofs.YtdaobioomoajfaaGreat
def numL (l : List Int) : Nat := l.foldl (fun r x => r * 256 + x.toNat) 0
theorem numL_snoc (l : List Int) (x : Int) : numL (l ++ [x]) = numL l * 256 + x.toNat := by simp [numL]
theorem byt_take (s : ByteArray) (k : Nat) (h : k < s.size) : (byt s).take (k + 1) = (byt s).take k ++ [(s[k].toNat : Int)] := by
  rw [List.take_succ_eq_append_getElem (by rw [byt_length]; exact h)]
  simp [byt]
  rfl
theorem numL_take (s : ByteArray) (k : Nat) (h : k < s.size) : numL ((byt s).take (k + 1)) = numL ((byt s).take k) * 256 + s[k].toNat := by
  rw [byt_take s k h, numL_snoc]; simp
end Go.Proofs.YtdaobioomoajfaaGreat
namespace Go.Proofs.YtdaobioomoajfaaGreat
open Go.RowKit
theorem numL_lt (l : List Int) (h : ∀ x ∈ l, 0 ≤ x ∧ x < 256) : numL l < 256 ^ l.length := by
  suffices ∀ (l : List Int) (a n : Nat), (∀ x ∈ l, 0 ≤ x ∧ x < 256) → a < 256 ^ n → l.foldl (fun r x => r * 256 + x.toNat) a < 256 ^ (n + l.length) by
    have := this l 0 0 h (by decide)
    rwa [Nat.zero_add] at this
  intro l
  induction l with
  | nil => intro a n _ h; simpa using h
  | cons x l ih =>
    intro a n hx ha
    have := ih (a * 256 + x.toNat) (n + 1) (fun y hy => hx y (List.mem_cons_of_mem _ hy)) (by
      have := hx x List.mem_cons_self
      rw [Nat.pow_succ]; omega)
    rw [List.foldl_cons, List.length_cons, show n + (l.length + 1) = n + 1 + l.length by omega]
    exact this
theorem numL_take_lt (s : ByteArray) (k : Nat) (hk : k < 8) : numL ((byt s).take k) < 72057594037927936 := by
  have h1 := numL_lt ((byt s).take k) (fun x hx => byt_lt s x (List.mem_of_mem_take hx))
  have h2 : (256 : Nat) ^ ((byt s).take k).length ≤ 256 ^ 7 := Nat.pow_le_pow_right (by decide) (by rw [List.length_take]; omega)
  have : (256 : Nat) ^ 7 = 72057594037927936 := by decide
  omega
theorem numL_8 (s : ByteArray) (h : s.size = 8) : numL (byt s) < 18446744073709551616 := by
  have h1 := numL_lt (byt s) (byt_lt s)
  rw [byt_length, h] at h1
  have : (256 : Nat) ^ 8 = 18446744073709551616 := by decide
  omega
theorem or_byte (z : Nat) (v : UInt8) : bits .or .u64 (IntKind.u64.wrap ((z : Int) * 256)) ((v.toNat : Nat) : Int) = ((z * 256 % 18446744073709551616 + v.toNat : Nat) : Int) := by
  have hv := v.toNat_lt
  have e : IntKind.u64.wrap ((z : Int) * 256) = ((z * 256 % 18446744073709551616 : Nat) : Int) := by rw [IntKind.wrap_u64]; omega
  rw [e, orN _ _ (Nat.mod_lt _ (by decide)) (by omega)]
  have e2 : z * 256 % 18446744073709551616 = z % 72057594037927936 * 2 ^ 8 := by omega
  rw [e2, Dv.or_add _ _ 8 (by omega)]
end Go.Proofs.YtdaobioomoajfaaGreat
namespace Go.Proofs.YtdaobioomoajfaaGreat
open Go.RowKit
theorem wdS_any (s : ByteArray) (w : World) (hs : s.size = 8) :
    Calls Tryz.prog 38 #[.string s] w fun e w' => e = .returned (.int .u64 (numL (byt s) : Nat)) ∧ w = w' := by
  obtain ⟨c, hc⟩ : ∃ c, Hid (c = numL (byt s)) := ⟨_, rfl⟩
  rw [← hc.out]
  go_enter Tryz.func38, Tryz.ntmps38
  go_wp2
  go_loop [3, 4] (fun rv iv => ∃ (k r : Nat), k ≤ 8 ∧ iv = .int .i64 (k : Int) ∧ rv = .int .u64 (r : Int) ∧ Hid (r = numL ((byt s).take k))) (fun _ i => 8 - (intOf i).toNat)
  case atStart => exact ⟨0, 0, by omega, rfl, rfl, by simp [Hid, numL]⟩
  case round =>
    obtain ⟨k, r, hk, rfl, rfl, hr⟩ := hrel
    by_cases hlt : k < 8
    · have hlt' : k < s.size := by omega
      have hlti : (k : Int) < (s.size : Int) := by omega
      have hv := s[k].toNat_lt
      have hl := numL_take_lt s k hlt
      rw [← hr.out] at hl
      have e0 : IntKind.u64.wrap (s[k].toNat : Int) = (s[k].toNat : Int) := by simp only [IntKind.wrap_u64]; omega
      have e1 : IntKind.u64.wrap (IntKind.u64.wrap ((r : Int) * 256) + (s[k].toNat : Int)) = ((r * 256 + s[k].toNat : Nat) : Int) := by simp only [IntKind.wrap_u64]; omega
      have hn : Hid (r * 256 + s[k].toNat = numL ((byt s).take (k + 1))) := by simp only [Hid]; rw [numL_take s k hlt', ← hr.out]
      generalize r * 256 + s[k].toNat = r' at *
      clear hl hv
      go_wp2
      go_round
      case rel => exact ⟨k + 1, r', by omega, by go_num, rfl, hn⟩
      case measure => simp [intOf]; omega
    · obtain rfl : k = 8 := by omega
      rw [List.take_of_length_le (by rw [byt_length]; omega)] at hr
      go_wp2
      go_ret
      exact ⟨ret_u64 (by rw [hc.out, hr.out]), rfl⟩
end Go.Proofs.YtdaobioomoajfaaGreat
namespace Go.Proofs.YtdaobioomoajfaaGreat
open Go.RowKit
theorem dword_any (v : Value) (p : Nat) (w : World) (hv : Cod w v) (hp : p ≤ 50000) :
    Calls Tryz.prog 26 #[v, .int .i64 p] w fun e w' => (∃ x : Nat, x < 18446744073709551616 ∧ e = .returned (.tuple #[.int .u64 x, .int .i64 (p + 10 : Nat)])) ∧ Below w.heap.size w w' := by
  have T1 := take_any v p 12 w hv (by omega) (by omega) (by omega)
  have T2 := take_any v (p + 1) 5 w hv (by omega) (by omega) (by omega)
  have T3 := byt_any v (p + 2) 8 w hv (by omega) (by omega)
  have e1 : ((p + 1 : Nat) : Int) = (p : Int) + 1 := by omega
  have e2 : ((p + 2 : Nat) : Int) = (p : Int) + 1 + 1 := by omega
  have e3 : ((8 : Nat) : Int) = 8 := rfl
  rw [e1] at T2
  rw [e2, e3] at T3
  clear e1 e2 e3
  go_enter Tryz.func26, Tryz.ntmps26
  go_wp2_with fail
  refine T1.mono ?_
  rintro e w1 ⟨⟨z, hz, rfl⟩, rfl⟩
  go_wp2_with fail
  refine T2.mono ?_
  rintro e w1 ⟨⟨y, hy, rfl⟩, rfl⟩
  go_wp2_with fail
  refine T3.mono ?_
  rintro e w1 ⟨⟨s, hs, rfl⟩, hb⟩
  have W := wdS_any s w1 hs
  have hl := numL_8 s hs
  obtain ⟨x, hx0, hx1⟩ : ∃ x : Int, 0 ≤ x ∧ x ≤ 18446744073709551615 ∧ x = (numL (byt s) : Nat) := ⟨_, by omega, by omega, rfl⟩
  rw [← hx1.2] at W
  have hx2 := hx1.1
  clear T1 T2 T3 hl hx1
  go_wp2_with fail
  refine W.mono ?_
  rintro e w2 ⟨rfl, rfl⟩
  clear W
  rcases (show z = 0 ∨ z = 1 ∨ z = 2 ∨ (3 ≤ z ∧ z < 9) ∨ 9 ≤ z by omega) with rfl | rfl | rfl | h | h
  · go_wp2
    go_ret2
    exact ⟨⟨2305843009213693951 + y - 2, by omega, ret_ui (by omega) (by omega)⟩, hb⟩
  · go_wp2
    go_ret2
    exact ⟨⟨2305843010818082053 + y - 2, by omega, ret_ui (by omega) (by omega)⟩, hb⟩
  · go_wp2
    go_ret2
    exact ⟨⟨y, by omega, ret_ui (by omega) (by omega)⟩, hb⟩
  · have h0 : ((z : Int) == 0) = false := by simp; omega
    have h1 : ((z : Int) == 1) = false := by simp; omega
    have h2 : ((z : Int) == 2) = false := by simp; omega
    have h3 : (z : Int) < 9 := by omega
    go_wp2
    go_ret2
    exact ⟨⟨(x % 2305843009213693951).toNat, by omega, ret_ui (by omega) (by omega)⟩, hb⟩
  · have h0 : ((z : Int) == 0) = false := by simp; omega
    have h1 : ((z : Int) == 1) = false := by simp; omega
    have h2 : ((z : Int) == 2) = false := by simp; omega
    have h3 : ¬ ((z : Int) < 9) := by omega
    go_wp2
    go_ret2
    exact ⟨⟨x.toNat, by omega, ret_ui (by omega) (by omega)⟩, hb⟩
end Go.Proofs.YtdaobioomoajfaaGreat
