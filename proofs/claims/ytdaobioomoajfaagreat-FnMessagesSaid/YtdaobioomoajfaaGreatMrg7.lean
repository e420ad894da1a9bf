import Derived.Test.YtdaobioomoajfaaGreatMrg6
import Derived.Test.YtdaobioomoajfaaGreatMrg5
import Derived.Test.YtdaobioomoajfaaGreatChecked
import Derived.WalkKit
import Derived.ProofKit
import Derived.WalkSpells
import Derived.WalkLawsBesides
import Derived.Outline
import Derived.Lib.BitFns
import Derived.Lib.Mul64
import Derived.Laws.Bits64b
set_option linter.unusedVariables false
set_option maxRecDepth 100000
set_option maxHeartbeats 16000000
namespace Go.Proofs.YtdaobioomoajfaaGreat
open Go.RowKit M
theorem nt_none : ∀ k, nt k none = none
  | 0 => rfl
  | k + 1 => by rw [nt, nt_none k]; rfl
theorem timS_any (k x y : Nat) (b : Bool) (w : World) (hk : k < 18446744073709551616) :
    Calls Tryz.prog 48 #[.int .u64 k, .agg #[.int .u64 x, .int .u64 y, .bool b]] w fun e w' => e = .returned (ptW (nt k (asPt x y b))) ∧ Below w.heap.size w w' := by
  have O := onS_any x y b
  cases h : toPt x y b with
  | none =>
    rw [h] at O
    have := timS_no k x y b w O
    have e : asPt x y b = none := by unfold asPt; rw [h]; rfl
    rw [e, nt_none]; exact this
  | some p =>
    rw [h] at O
    have e := toPt_W h
    rw [ptW_eq] at e
    rw [e] at O ⊢
    rw [asPt_some h, ptW_eq]
    exact timS_yes k p w hk (toPt_on h) O
end Go.Proofs.YtdaobioomoajfaaGreat
namespace Go.Proofs.YtdaobioomoajfaaGreat
open Go.RowKit M
theorem R3.keep {W W' : World} {b : Nat} {x y : Int} {c : Bool} (h : R3 W b x y c) (hb : Below W.heap.size W W') : R3 W' b x y c := h.below hb h.lt
theorem kpB {n : Nat} {w0 w1 w2 : World} (h : Below n w0 w1) (hn : n ≤ w1.heap.size) (b : Below w1.heap.size w1 w2) : Below n w0 w2 := h.trans (b.mono hn)
theorem negS_no (x y : Int) (c o1 : Bool) (w : World) (hok : o1 = false ∨ (o1 = true ∧ c = true))
    (F1 : ∀ w, Calls Tryz.prog 41 #[.agg #[.int .u64 x, .int .u64 y, .bool c]] w fun e w' => e = .returned (.bool o1) ∧ Below w.heap.size w w') :
    Calls Tryz.prog 46 #[.agg #[.int .u64 x, .int .u64 y, .bool c]] w fun e w' => e = .returned (.agg #[.int .u64 0, .int .u64 0, .bool true]) ∧ Below w.heap.size w w' := by
  obtain ⟨X, hX⟩ : ∃ X, X = (w.alloc (Obj.cells #[.int .u64 x, .int .u64 y, .bool c] 25)).alloc (Obj.cells #[.int .u64 0, .int .u64 0, .bool false] 25) := ⟨_, rfl⟩
  have hp : R3 X w.heap.size x y c := by rw [hX]; exact (R3.new w x y c).alloc _
  have hr : R3 X (w.heap.size + 1) 0 0 false := by rw [hX]; exact (R3.new _ 0 0 false).at (by simp)
  have hb : Below w.heap.size w X := by rw [hX]; exact ((Below.refl _ w).alloc (Nat.le_refl _) _).alloc (by simp) _
  rw [hX] at hp hr hb
  clear hX
  rcases hok with rfl | ⟨rfl, rfl⟩
  · go_enter Tryz.func46, Tryz.ntmps46
    go_wp2_with fail
    refine (F1 _).mono ?_
    rintro e w1 ⟨rfl, b1⟩
    replace hr := hr.keep b1
    replace hb := kpB hb hb.size b1
    clear b1 F1 hp
    go_wp2_with fail
    refine (zeroS _).mono ?_
    rintro e w3 ⟨rfl, rfl⟩
    replace hr := hr.alloc (Obj.cells #[.int .u64 0, .int .u64 0, .bool true] 25)
    replace hb := hb.alloc hb.size (Obj.cells #[.int .u64 0, .int .u64 0, .bool true] 25)
    have c0 := hr.c0
    have c1 := hr.c1
    have c2 := hr.c2
    have f0 := hr.frz 0
    have f1 := hr.frz 1
    have f2 := hr.frz 2
    go_wp2
    exact bodyPost_ret (v := .agg #[.int .u64 0, .int .u64 0, .bool true]) (point_res (fn := Tryz.f46) (p := 2) Tryz.results46 _ rfl (hr.set _ _ _)) rfl ⟨rfl, set3_below hb (by omega)⟩
  · go_enter Tryz.func46, Tryz.ntmps46
    go_wp2_with fail
    refine (F1 _).mono ?_
    rintro e w1 ⟨rfl, b1⟩
    replace hp := hp.keep b1
    replace hr := hr.keep b1
    replace hb := kpB hb hb.size b1
    clear b1 F1
    have d2 := hp.c2
    go_wp2_with fail
    refine (zeroS _).mono ?_
    rintro e w3 ⟨rfl, rfl⟩
    replace hr := hr.alloc (Obj.cells #[.int .u64 0, .int .u64 0, .bool true] 25)
    replace hb := hb.alloc hb.size (Obj.cells #[.int .u64 0, .int .u64 0, .bool true] 25)
    clear d2
    have c0 := hr.c0
    have c1 := hr.c1
    have c2 := hr.c2
    have f0 := hr.frz 0
    have f1 := hr.frz 1
    have f2 := hr.frz 2
    go_wp2
    exact bodyPost_ret (v := .agg #[.int .u64 0, .int .u64 0, .bool true]) (point_res (fn := Tryz.f46) (p := 2) Tryz.results46 _ rfl (hr.set _ _ _)) rfl ⟨rfl, set3_below hb (by omega)⟩
theorem negS_yes (x y z : Int) (w : World) (hy : IntKind.u64.wrap (2305843009213693951 - y) = 2305843009213693951 - y) (hz : (2305843009213693951 - y).tmod 2305843009213693951 = z)
    (F1 : ∀ w, Calls Tryz.prog 41 #[.agg #[.int .u64 x, .int .u64 y, .bool false]] w fun e w' => e = .returned (.bool true) ∧ Below w.heap.size w w') :
    Calls Tryz.prog 46 #[.agg #[.int .u64 x, .int .u64 y, .bool false]] w fun e w' => e = .returned (.agg #[.int .u64 x, .int .u64 z, .bool false]) ∧ Below w.heap.size w w' := by
  obtain ⟨X, hX⟩ : ∃ X, X = (w.alloc (Obj.cells #[.int .u64 x, .int .u64 y, .bool false] 25)).alloc (Obj.cells #[.int .u64 0, .int .u64 0, .bool false] 25) := ⟨_, rfl⟩
  have hp : R3 X w.heap.size x y false := by rw [hX]; exact (R3.new w x y false).alloc _
  have hr : R3 X (w.heap.size + 1) 0 0 false := by rw [hX]; exact (R3.new _ 0 0 false).at (by simp)
  have hb : Below w.heap.size w X := by rw [hX]; exact ((Below.refl _ w).alloc (Nat.le_refl _) _).alloc (by simp) _
  rw [hX] at hp hr hb
  clear hX
  go_enter Tryz.func46, Tryz.ntmps46
  go_wp2_with fail
  refine (F1 _).mono ?_
  rintro e w1 ⟨rfl, b1⟩
  replace hp := hp.keep b1
  replace hr := hr.keep b1
  replace hb := kpB hb hb.size b1
  clear b1 F1
  have d0 := hp.c0
  have d1 := hp.c1
  have d2 := hp.c2
  have c0 := hr.c0
  have c1 := hr.c1
  have c2 := hr.c2
  have f0 := hr.frz 0
  have f1 := hr.frz 1
  have f2 := hr.frz 2
  go_wp2
  exact bodyPost_ret (v := .agg #[.int .u64 x, .int .u64 z, .bool false]) (point_res (fn := Tryz.f46) (p := 2) Tryz.results46 _ rfl (hr.set _ _ _)) rfl ⟨rfl, set3_below hb (by omega)⟩
theorem fv_neg (y : Fp) : (2305843009213693951 - fv y).tmod 2305843009213693951 = fv (-y) := by
  have hy := val_lt y
  have e : (-y).val = (2305843009213693951 - y.val) % 2305843009213693951 := by
    rw [Fin.val_neg]
    split
    · rename_i h; subst h; rfl
    · rename_i h
      have : y.val ≠ 0 := fun e => h (Fin.ext e)
      omega
  unfold fv
  rw [e, Int.tmod_eq_emod_of_nonneg (by omega)]
  generalize y.val = Y at *
  omega
theorem negS_any (x y : Nat) (c : Bool) (w : World) :
    Calls Tryz.prog 46 #[.agg #[.int .u64 x, .int .u64 y, .bool c]] w fun e w' => e = .returned (ptW (ng (asPt x y c))) ∧ Below w.heap.size w w' := by
  have F1 := onS_any x y c
  cases h1 : toPt x y c with
  | none =>
    rw [h1] at F1
    have e : asPt x y c = none := by unfold asPt; rw [h1]; rfl
    rw [e]
    exact negS_no _ _ _ _ w (.inl rfl) F1
  | some p =>
    rw [h1] at F1
    rw [asPt_some h1]
    obtain ⟨e1, e2, e3⟩ := fields_of h1
    rcases p with _ | ⟨X, Y⟩
    · subst e3
      exact negS_no _ _ _ _ w (.inr ⟨rfl, rfl⟩) F1
    · subst e3
      have hY := val_lt Y
      have hy : (y : Int) = fv Y := e2
      have hx : (x : Int) = fv X := e1
      have := negS_yes x y (fv (-Y)) w (by rw [IntKind.wrap_u64, hy]; unfold fv; omega) (by rw [hy]; exact fv_neg Y) F1
      rw [hx] at this ⊢
      exact this
end Go.Proofs.YtdaobioomoajfaaGreat
namespace Go.Proofs.YtdaobioomoajfaaGreat.Dv
theorem or_add (h t s : Nat) (ht : t < 2 ^ s) : h * 2 ^ s ||| t = h * 2 ^ s + t := by
  rw [Nat.mul_comm, Nat.two_pow_add_eq_or_of_lt ht]
end Go.Proofs.YtdaobioomoajfaaGreat.Dv
namespace Go.Proofs.YtdaobioomoajfaaGreat
open Go.RowKit
theorem orN (a b : Nat) (ha : a < 18446744073709551616) (hb : b < 18446744073709551616) : bits .or .u64 (a : Int) (b : Int) = ((a ||| b : Nat) : Int) := bits_or_u64_nat a b ha hb
end Go.Proofs.YtdaobioomoajfaaGreat
namespace Go.Proofs.YtdaobioomoajfaaGreat
open Go.RowKit
theorem len_le (x : Nat) (hx : x < 2 ^ 64) : Lib.bitLen x ≤ 64 := Lib.bitLen_le x 64 (Nat.le_refl _) hx
theorem len_up : ∀ (f x : Nat), x < 2 ^ f → x < 2 ^ (Lib.bitLenAux f x)
  | 0, x, h => by simpa [Lib.bitLenAux] using h
  | f + 1, x, h => by
    unfold Lib.bitLenAux
    split
    · subst_vars; simp
    · have := len_up f (x / 2) (by rw [Nat.pow_succ] at h; omega)
      rw [Nat.add_comm, Nat.pow_succ]; omega
theorem len_lo : ∀ (f x : Nat), x ≠ 0 → x < 2 ^ f → 1 ≤ Lib.bitLenAux f x ∧ 2 ^ (Lib.bitLenAux f x - 1) ≤ x
  | 0, x, h0, h => by simp at h; omega
  | f + 1, x, h0, h => by
    unfold Lib.bitLenAux
    rw [if_neg h0]
    refine ⟨by omega, ?_⟩
    rw [Nat.add_sub_cancel_left]
    by_cases h2 : x / 2 = 0
    · rw [h2]
      have : Lib.bitLenAux f 0 = 0 := by cases f <;> simp [Lib.bitLenAux]
      rw [this]; omega
    · obtain ⟨q1, q2⟩ := len_lo f (x / 2) h2 (by rw [Nat.pow_succ] at h; omega)
      have : Lib.bitLenAux f (x / 2) = (Lib.bitLenAux f (x / 2) - 1) + 1 := by omega
      rw [this, Nat.pow_succ]; omega
theorem ret_i64 {a b : Int} (h : a = b) : Ending.returned (.int .i64 a) = .returned (.int .i64 b) := by rw [h]
theorem get8 (i : Nat) (h : i < Lib.len8tab.size) : ((Lib.len8tab[i]'h).toNat : Int) = Lib.bitLen i := by
  have hs := Lib.len8tab_size
  have := Lib.len8_of (i : Int) (by omega) (by omega)
  rw [Int.toNat_natCast] at this
  rw [← this, Lib.len8, Int.toNat_natCast, getElem?_pos _ i h]; rfl
theorem get8_sh (k x : Nat) (i : Nat) (h : i < Lib.len8tab.size) (hE : i = x / 2 ^ k) (hk : k = 0 ∨ 2 ^ k ≤ x) (hx : x < 2 ^ 64) : (k : Int) + ((Lib.len8tab[i]'h).toNat : Int) = (Lib.bitLen x : Int) := by
  rw [get8, hE]
  rcases hk with rfl | hk
  · simp
  · rw [Lib.bitLen_shift k x hk hx]; omega
theorem wrap64_small (z : Int) (h0 : 0 ≤ z) (h1 : z ≤ 9223372036854775807) : wrap64 z = z := by unfold wrap64; omega
theorem sh_wrap (k x : Nat) (i : Nat) (h : i < Lib.len8tab.size) (hE : i = x / 2 ^ k) (hk : k = 0 ∨ 2 ^ k ≤ x) (hx : x < 2 ^ 64) (hk64 : k ≤ 64) : wrap64 ((k : Int) + wrap64 ((Lib.len8tab[i]'h).toNat : Int)) = (Lib.bitLen x : Int) := by
  have e := get8_sh k x i h hE hk hx
  have l := (Lib.len8tab[i]'h).toNat_lt
  generalize (Lib.len8tab[i]'h).toNat = q at *
  rw [wrap64_small q (by omega) (by omega), wrap64_small _ (by omega) (by omega)]
  exact e
theorem sh_wrap0 (x : Nat) (i : Nat) (h : i < Lib.len8tab.size) (hE : i = x) (hx : x < 2 ^ 64) : wrap64 (wrap64 ((Lib.len8tab[i]'h).toNat : Int)) = (Lib.bitLen x : Int) := by
  have := sh_wrap 0 x i h (by rw [hE, Nat.pow_zero, Nat.div_one]) (.inl rfl) hx (by omega)
  simpa using this
theorem len_int (x : Int) (w : World) (h0 : 0 ≤ x) (h1 : x ≤ 18446744073709551615) :
    Calls Tryz.prog 94 #[.int .u64 x] w fun e w' => e = .returned (.int .i64 (Lib.bitLen x.toNat)) ∧ w = w' := by
  go_enter Tryz.func94, Tryz.ntmps94
  go_wp2
  all_goals first
    | (go_ret; refine ⟨ret_i64 ?_, rfl⟩)
    | (exfalso; have hs := Lib.len8tab_size; omega)
  all_goals have hs := Lib.len8tab_size
  · exact sh_wrap 56 x.toNat _ _ (by omega) (.inr (by omega)) (by omega) (by omega)
  · exact sh_wrap 48 x.toNat _ _ (by omega) (.inr (by omega)) (by omega) (by omega)
  · exact sh_wrap 40 x.toNat _ _ (by omega) (.inr (by omega)) (by omega) (by omega)
  · exact sh_wrap 32 x.toNat _ _ (by omega) (.inr (by omega)) (by omega) (by omega)
  · exact sh_wrap 24 x.toNat _ _ (by omega) (.inr (by omega)) (by omega) (by omega)
  · exact sh_wrap 16 x.toNat _ _ (by omega) (.inr (by omega)) (by omega) (by omega)
  · exact sh_wrap 8 x.toNat _ _ (by omega) (.inr (by omega)) (by omega) (by omega)
  · exact sh_wrap0 x.toNat _ _ rfl (by omega)
theorem len_nat (x : Nat) (hx : x < 18446744073709551616) (w : World) :
    Calls Tryz.prog 94 #[.int .u64 x] w fun e w' => e = .returned (.int .i64 (Lib.bitLen x)) ∧ w = w' := by
  have := len_int (x : Int) w (by omega) (by omega)
  rwa [Int.toNat_natCast] at this
theorem lead_any (x : Nat) (hx : x < 18446744073709551616) (w : World) :
    Calls Tryz.prog 92 #[.int .u64 x] w fun e w' => e = .returned (.int .i64 ((64 - Lib.bitLen x : Nat) : Int)) ∧ w = w' := by
  have L := len_nat x hx
  have hl := len_le x (by omega)
  generalize Lib.bitLen x = q at *
  clear hx
  go_enter Tryz.func92, Tryz.ntmps92
  go_wp2_with fail
  refine (L _).mono ?_
  rintro e w' ⟨rfl, rfl⟩
  go_wp2
  go_ret
  exact ⟨ret_i64 (by omega), rfl⟩
theorem maskN (a : Nat) (ha : a < 18446744073709551616) : bits .and .u64 (a : Int) 4294967295 = ((a % 4294967296 : Nat) : Int) := by
  have h := bits_and_u64_nat a 4294967295 ha (by omega)
  rwa [show a &&& 4294967295 = a % 4294967296 from Nat.and_two_pow_sub_one_eq_mod a 32] at h
theorem maskW (z : Int) : bits .and .u64 (IntKind.u64.wrap z) 4294967295 = IntKind.u64.wrap z % 4294967296 := by
  obtain ⟨n, hn⟩ : ∃ n : Nat, IntKind.u64.wrap z = n := ⟨(IntKind.u64.wrap z).toNat, by rw [IntKind.wrap_u64]; omega⟩
  have hl : n < 18446744073709551616 := by rw [IntKind.wrap_u64] at hn; omega
  rw [hn, maskN n hl]; omega
theorem ret_two {k l : IntKind} {a b c d : Int} (h : a = c) (h2 : b = d) : Ending.returned (.tuple #[.int k a, .int l b]) = .returned (.tuple #[.int k c, .int l d]) := by rw [h, h2]
theorem wrapM (a : Nat) : IntKind.u64.wrap (a : Int) = ((a % 18446744073709551616 : Nat) : Int) := by rw [IntKind.wrap_u64]; omega
theorem mul64_any (x y : Nat) (hx : x < 18446744073709551616) (hy : y < 18446744073709551616) (w : World) :
    Calls Tryz.prog 87 #[.int .u64 x, .int .u64 y] w fun e w' => e = .returned (.tuple #[.int .u64 ((x * y / 18446744073709551616 : Nat) : Int), .int .u64 ((x * y % 18446744073709551616 : Nat) : Int)]) ∧ w = w' := by
  go_enter Tryz.func87, Tryz.ntmps87
  go_wp2
  go_ret2
  refine ⟨ret_two ?_ ?_, rfl⟩
  · obtain ⟨b1, b2, b3, hh⟩ := Lib.mul64_hi x y hx hy
    have ba := Lib.half_mul_le (a := x / 4294967296) (b := y / 4294967296) (by omega) (by omega)
    have bb := Lib.half_mul_le (a := x / 4294967296) (b := y % 4294967296) (by omega) (by omega)
    have bc := Lib.half_mul_le (a := x % 4294967296) (b := y / 4294967296) (by omega) (by omega)
    have d0 : (x : Int) / 4294967296 = ((x / 4294967296 : Nat) : Int) := by omega
    have d1 : (y : Int) / 4294967296 = ((y / 4294967296 : Nat) : Int) := by omega
    rw [maskN x hx, maskN y hy, d0, d1]
    simp only [maskW, ← Int.natCast_mul]
    simp only [IntKind.wrap_u64]
    rw [← hh]
    generalize x / 4294967296 * (y / 4294967296) = p3 at *
    generalize x / 4294967296 * (y % 4294967296) = p2 at *
    generalize x % 4294967296 * (y / 4294967296) = p1 at *
    generalize x % 4294967296 * (y % 4294967296) = p0 at *
    clear d0 d1 hh hx hy
    omega
  · rw [← Int.natCast_mul, wrapM]
end Go.Proofs.YtdaobioomoajfaaGreat
namespace Go.Proofs.YtdaobioomoajfaaGreat.Dv
structure Half (Y a b U d : Nat) : Prop where
  y : Y = a * 4294967296 + b
  b : b < 4294967296
  a0 : 2147483648 ≤ a
  a1 : a < 4294967296
  u : U < Y
  d : d < 4294967296
variable {Y a b U d q r : Nat}
theorem Half.ypos (h : Half Y a b U d) : 0 < Y := by have := h.u; omega
theorem Half.small (h : Half Y a b U d) : (U * 4294967296 + d) / Y < 4294967296 := by
  rw [Nat.div_lt_iff_lt_mul h.ypos]
  have := h.u; have := h.d
  have : (U + 1) * 4294967296 ≤ Y * 4294967296 := Nat.mul_le_mul_right _ (by omega)
  omega
theorem Half.less (h : Half Y a b U d) (e : q * a + r = U) : ((U * 4294967296 + d) / Y < q ↔ 4294967296 * r + d < q * b) := by
  rw [Nat.div_lt_iff_lt_mul h.ypos, h.y, Nat.mul_add, ← Nat.mul_assoc]
  generalize q * a = m at *
  generalize q * b = n at *
  omega
theorem Half.start (h : Half Y a b U d) : (U * 4294967296 + d) / Y ≤ U / a ∧ U / a ≤ 4294967297 := by
  have h0 := h.a0; have h1 := h.u; have h2 := h.d; have h3 := h.b; have hy := h.y
  constructor
  · apply Nat.le_of_lt_succ
    rw [Nat.div_lt_iff_lt_mul h.ypos, hy]
    have e := Nat.lt_mul_div_succ U (show 0 < a by omega)
    have e2 : U + 1 ≤ (U / a + 1) * a := by rw [Nat.mul_comm]; exact e
    have e3 : (U + 1) * 4294967296 ≤ (U / a + 1) * a * 4294967296 := Nat.mul_le_mul_right _ e2
    rw [Nat.mul_add, ← Nat.mul_assoc]
    generalize (U / a).succ * b = z
    generalize hz : (U / a + 1) * a = t at *
    omega
  · apply Nat.le_of_lt_succ
    rw [Nat.div_lt_iff_lt_mul (by omega)]
    omega
theorem Half.over (h : Half Y a b U d) (e : q * a + r = U) (hq : q ≤ 4294967296) (hr : 4294967296 ≤ r) : q ≤ (U * 4294967296 + d) / Y := by
  rw [Nat.le_div_iff_mul_le h.ypos, h.y, Nat.mul_add, ← Nat.mul_assoc]
  have h1 : q * b ≤ 4294967296 * r := Nat.mul_le_mul hq (by have := h.b; omega)
  generalize q * a = m at *
  generalize q * b = n at *
  omega
theorem two (Y U d0 d1 : Nat) (hY : 0 < Y) : ((U * 4294967296 + d1) % Y * 4294967296 + d0) % Y = (U * 18446744073709551616 + d1 * 4294967296 + d0) % Y := by
  have e : U * 18446744073709551616 + d1 * 4294967296 + d0 = (U * 4294967296 + d1) * 4294967296 + d0 := by omega
  rw [e, Nat.add_mod, Nat.mod_mul_mod, ← Nat.add_mod]
theorem left (z Y : Nat) (hY : Y < 18446744073709551616) (h0 : 0 < Y) : (((z : Int) % 18446744073709551616) - (((z / Y) * Y : Nat) : Int) % 18446744073709551616) % 18446744073709551616 = ((z % Y : Nat) : Int) := by
  have e := Nat.div_add_mod z Y
  rw [Nat.mul_comm] at e
  have l := Nat.mod_lt z h0
  generalize z / Y * Y = t at *
  generalize z % Y = u at *
  omega
theorem shifted (x y s : Nat) : (x * 2 ^ s) % (y * 2 ^ s) / 2 ^ s = x % y := by
  rw [Nat.mul_mod_mul_right, Nat.mul_div_cancel _ (Nat.two_pow_pos s)]
theorem words (hi lo y s : Nat) (hs : s ≤ 63) (hlo : lo < 18446744073709551616) (hh : hi < y) (hy : y * 2 ^ s < 18446744073709551616) :
    hi * 2 ^ s < 18446744073709551616 ∧ lo / 2 ^ (64 - s) < 2 ^ s ∧ hi * 2 ^ s + lo / 2 ^ (64 - s) < y * 2 ^ s ∧
    (hi * 2 ^ s + lo / 2 ^ (64 - s)) * 18446744073709551616 + lo * 2 ^ s % 18446744073709551616 = (hi * 18446744073709551616 + lo) * 2 ^ s := by
  have hp := Nat.two_pow_pos s
  have e1 : (hi + 1) * 2 ^ s ≤ y * 2 ^ s := Nat.mul_le_mul_right _ hh
  rw [Nat.add_mul, Nat.one_mul] at e1
  have e2 : (2 : Nat) ^ (64 - s) * 2 ^ s = 18446744073709551616 := by rw [← Nat.pow_add, show 64 - s + s = 64 by omega]
  have e3 : lo / 2 ^ (64 - s) < 2 ^ s := by
    rw [Nat.div_lt_iff_lt_mul (Nat.two_pow_pos _), Nat.mul_comm, e2]; exact hlo
  have e4 : lo * 2 ^ s / 18446744073709551616 = lo / 2 ^ (64 - s) := by
    rw [← e2, Nat.mul_div_mul_right _ _ hp]
  refine ⟨by omega, e3, by omega, ?_⟩
  rw [← e4, Nat.add_mul, Nat.add_mul, Nat.mul_right_comm hi]
  have := Nat.div_add_mod (lo * 2 ^ s) 18446744073709551616
  generalize hi * 2 ^ s = t at *
  generalize lo * 2 ^ s = u at *
  omega
end Go.Proofs.YtdaobioomoajfaaGreat.Dv
namespace Go.Proofs.YtdaobioomoajfaaGreat
open Go.RowKit
theorem div_zero (lo y : Nat) (w : World) (hy : 0 < y) :
    Calls Tryz.prog 88 #[.int .u64 0, .int .u64 lo, .int .u64 y] w fun e w' => (∃ z : Int, e = .returned (.tuple #[.int .u64 z, .int .u64 ((lo % y : Nat) : Int)])) ∧ (w' = w ∨ w' = w.drew) := by
  have z0 : ((y : Int) == 0) = false := by simp; omega
  have z1 : ¬ ((y : Int) ≤ 0) := by omega
  go_enter Tryz.func88, Tryz.ntmps88
  go_wp2
  go_region
  go_wp2
  go_ret2
  exact ⟨⟨IntKind.u64.wrap ((lo : Int) / (y : Int)), by simp⟩, .inr rfl⟩
theorem prep (hi lo y s : Nat) (h0 : 0 < hi) (hh : hi < y) (hy : y < 18446744073709551616) (hlo : lo < 18446744073709551616) (hs : s = 64 - Lib.bitLen y) :
    s ≤ 63 ∧ ∃ Y a b H T U X d1 d0 : Nat, IntKind.u64.wrap ((y : Int) * 2 ^ s) = Y ∧ (Y : Int) / 4294967296 = a ∧ bits .and .u64 (Y : Int) 4294967295 = b ∧
      IntKind.u64.wrap ((hi : Int) * 2 ^ s) = H ∧ (lo : Int) / 2 ^ (64 - s) = T ∧ bits .or .u64 (H : Int) (T : Int) = U ∧ IntKind.u64.wrap ((lo : Int) * 2 ^ s) = X ∧
      (X : Int) / 4294967296 = d1 ∧ bits .and .u64 (X : Int) 4294967295 = d0 ∧ Dv.Half Y a b U d1 ∧ Y < 18446744073709551616 ∧ d0 < 4294967296 ∧
      (U * 18446744073709551616 + d1 * 4294967296 + d0) % Y / 2 ^ s = (hi * 18446744073709551616 + lo) % y := by
  obtain ⟨b1, b2⟩ := len_lo 64 y (by omega) (by omega)
  have b3 := len_up 64 y (by omega)
  have b4 := len_le y (by omega)
  change 1 ≤ Lib.bitLen y at b1
  change 2 ^ (Lib.bitLen y - 1) ≤ y at b2
  change y < 2 ^ (Lib.bitLen y) at b3
  generalize Lib.bitLen y = L at *
  have hs63 : s ≤ 63 := by omega
  have p1 : (2 : Nat) ^ L * 2 ^ s = 18446744073709551616 := by rw [← Nat.pow_add, show L + s = 64 by omega]
  have p2 : (2 : Nat) ^ (L - 1) * 2 ^ s = 9223372036854775808 := by rw [← Nat.pow_add, show L - 1 + s = 63 by omega]
  have q1 : y * 2 ^ s < 18446744073709551616 := by rw [← p1]; exact Nat.mul_lt_mul_of_pos_right b3 (Nat.two_pow_pos s)
  have q2 : 9223372036854775808 ≤ y * 2 ^ s := by rw [← p2]; exact Nat.mul_le_mul_right _ b2
  obtain ⟨w1, w2, w3, w4⟩ := Dv.words hi lo y s hs63 hlo hh q1
  have c : ∀ n : Nat, (n : Int) * 2 ^ s = ((n * 2 ^ s : Nat) : Int) := fun n => by simp
  have c2 : (lo : Int) / 2 ^ (64 - s) = ((lo / 2 ^ (64 - s) : Nat) : Int) := by simp
  have e6 := orN (hi * 2 ^ s) (lo / 2 ^ (64 - s)) w1 (by omega)
  rw [Dv.or_add _ _ _ w2] at e6
  have e1 : IntKind.u64.wrap ((y : Int) * 2 ^ s) = ((y * 2 ^ s : Nat) : Int) := by rw [c, wrapM, Nat.mod_eq_of_lt q1]
  have e4 : IntKind.u64.wrap ((hi : Int) * 2 ^ s) = ((hi * 2 ^ s : Nat) : Int) := by rw [c, wrapM, Nat.mod_eq_of_lt w1]
  have e7 : IntKind.u64.wrap ((lo : Int) * 2 ^ s) = ((lo * 2 ^ s % 18446744073709551616 : Nat) : Int) := by rw [c, wrapM]
  have e3 := maskN (y * 2 ^ s) q1
  have e9 := maskN (lo * 2 ^ s % 18446744073709551616) (Nat.mod_lt _ (by decide))
  have sh := Dv.shifted (hi * 18446744073709551616 + lo) y s
  rw [← w4] at sh
  refine ⟨hs63, y * 2 ^ s, y * 2 ^ s / 4294967296, y * 2 ^ s % 4294967296, hi * 2 ^ s, lo / 2 ^ (64 - s), hi * 2 ^ s + lo / 2 ^ (64 - s), lo * 2 ^ s % 18446744073709551616, lo * 2 ^ s % 18446744073709551616 / 4294967296, lo * 2 ^ s % 18446744073709551616 % 4294967296, e1, ?_, e3, e4, c2, e6, e7, ?_, e9, ⟨?_, ?_, ?_, ?_, ?_, ?_⟩, q1, ?_, ?_⟩
  · generalize y * 2 ^ s = Y at *; omega
  · generalize lo * 2 ^ s % 18446744073709551616 = Y at *; omega
  · generalize y * 2 ^ s = Y at *; omega
  · generalize y * 2 ^ s = Y at *; omega
  · generalize y * 2 ^ s = Y at *; omega
  · generalize y * 2 ^ s = Y at *; omega
  · exact w3
  · have := Nat.mod_lt (lo * 2 ^ s) (show 0 < 18446744073709551616 by decide)
    clear e1 e3 e4 e6 e7 e9 c c2 sh w4
    generalize lo * 2 ^ s % 18446744073709551616 = Y at *; omega
  · generalize lo * 2 ^ s % 18446744073709551616 = Y at *; omega
  · rw [← sh]
    clear e1 e3 e4 e6 e7 e9 c c2 sh w4
    generalize hi * 2 ^ s + lo / 2 ^ (64 - s) = U
    generalize lo * 2 ^ s % 18446744073709551616 = X
    have : U * 18446744073709551616 + X / 4294967296 * 4294967296 + X % 4294967296 = U * 18446744073709551616 + X := by omega
    rw [this]
theorem turn {Y a b U d q r : Nat} (h : Dv.Half Y a b U d) (i1 : q * a + r = U) (i2 : (U * 4294967296 + d) / Y ≤ q) (i3 : q ≤ 4294967297) (i4 : r < 4294967296) :
    (∃ n z v : Nat, ¬ ((4294967296 : Int) ≤ q) ∧ IntKind.u64.wrap ((q : Int) * (b : Int)) = n ∧ IntKind.u64.wrap (4294967296 * (r : Int)) = z ∧ IntKind.u64.wrap ((z : Int) + (d : Int)) = v ∧
      (¬ ((v : Int) < (n : Int)) ∧ q = (U * 4294967296 + d) / Y ∨ (v : Int) < (n : Int) ∧ (U * 4294967296 + d) / Y < q)) ∨ ((4294967296 : Int) ≤ q ∧ (U * 4294967296 + d) / Y < q) := by
  have hb := h.b; have hd := h.d
  by_cases k1 : 4294967296 ≤ q
  · exact .inr ⟨by omega, by have := h.small; omega⟩
  · refine .inl ⟨q * b, 4294967296 * r, 4294967296 * r + d, by omega, ?_, ?_, ?_, ?_⟩
    · rw [← Int.natCast_mul, wrapM, Nat.mod_eq_of_lt]
      have : q * b ≤ 4294967295 * 4294967295 := Nat.mul_le_mul (by omega) (by omega)
      omega
    · rw [IntKind.wrap_u64]; omega
    · rw [IntKind.wrap_u64]; omega
    · have e := h.less (q := q) (r := r) i1
      by_cases k2 : 4294967296 * r + d < q * b
      · exact .inr ⟨by omega, e.2 k2⟩
      · refine .inl ⟨by omega, ?_⟩
        have : ¬ (U * 4294967296 + d) / Y < q := fun h => k2 (e.1 h)
        omega
theorem turned {Y a b U d q r : Nat} (h : Dv.Half Y a b U d) (i1 : q * a + r = U) (i3 : q ≤ 4294967297) (i4 : r < 4294967296) (k : (U * 4294967296 + d) / Y < q) :
    ∃ p t : Nat, IntKind.u64.wrap ((q : Int) - 1) = p ∧ IntKind.u64.wrap ((r : Int) + (a : Int)) = t ∧ p < q ∧
      ((4294967296 : Int) ≤ t ∧ p = (U * 4294967296 + d) / Y ∨ ¬ ((4294967296 : Int) ≤ t) ∧ (p * a + t = U ∧ (U * 4294967296 + d) / Y ≤ p ∧ p ≤ 4294967297 ∧ t < 4294967296)) := by
  have ha := h.a1
  have ho : ∀ p t, p * a + t = U → p ≤ 4294967296 → 4294967296 ≤ t → p ≤ (U * 4294967296 + d) / Y := fun p t => h.over
  generalize (U * 4294967296 + d) / Y = Q at *
  obtain ⟨p, rfl⟩ : ∃ p, q = p + 1 := ⟨q - 1, by omega⟩
  have e : p * a + (r + a) = U := by rw [← i1, Nat.add_mul, Nat.one_mul]; omega
  refine ⟨p, r + a, by rw [IntKind.wrap_u64]; omega, by rw [IntKind.wrap_u64]; omega, by omega, ?_⟩
  by_cases k3 : 4294967296 ≤ r + a
  · refine .inl ⟨by omega, ?_⟩
    have := ho _ _ e (by omega) k3
    omega
  · exact .inr ⟨by omega, e, by omega, by omega, by omega⟩
theorem rest {Y a b U d k : Nat} (h : Dv.Half Y a b U d) (hY : Y < 18446744073709551616) (hk : k = (U * 4294967296 + d) / Y) :
    ∃ A1 A2 A3 V : Nat, IntKind.u64.wrap ((U : Int) * 4294967296) = A1 ∧ IntKind.u64.wrap ((A1 : Int) + (d : Int)) = A2 ∧ IntKind.u64.wrap ((k : Int) * (Y : Int)) = A3 ∧ IntKind.u64.wrap ((A2 : Int) - (A3 : Int)) = V ∧ V = (U * 4294967296 + d) % Y := by
  have e := Dv.left (U * 4294967296 + d) Y hY h.ypos
  rw [← hk] at e
  refine ⟨U * 4294967296 % 18446744073709551616, (U * 4294967296 + d) % 18446744073709551616, k * Y % 18446744073709551616, (U * 4294967296 + d) % Y, ?_, ?_, ?_, ?_, rfl⟩
  · rw [IntKind.wrap_u64]; omega
  · rw [IntKind.wrap_u64]; omega
  · rw [← Int.natCast_mul, wrapM]
  · rw [IntKind.wrap_u64, ← e]; generalize k * Y = z; omega
theorem guess {Y a b U d : Nat} (hf : Dv.Half Y a b U d) (hY : Y < 18446744073709551616) :
    ∃ q r m : Nat, (U : Int) / (a : Int) = q ∧ IntKind.u64.wrap (q : Int) = q ∧ IntKind.u64.wrap ((q : Int) * (a : Int)) = m ∧ IntKind.u64.wrap ((U : Int) - (m : Int)) = r ∧
      (q * a + r = U ∧ (U * 4294967296 + d) / Y ≤ q ∧ q ≤ 4294967297 ∧ r < 4294967296) := by
  have ha0 := hf.a0
  have ha1 := hf.a1
  have hu := hf.u
  have hst := hf.start
  have hd := Nat.div_add_mod U a
  have hl := Nat.mod_lt U (show 0 < a by omega)
  have hql : U / a ≤ U := Nat.div_le_self _ _
  refine ⟨U / a, U % a, U / a * a, by simp, ?_, ?_, ?_, ?_, hst.1, hst.2, by omega⟩
  · rw [wrapM, Nat.mod_eq_of_lt (by omega)]
  · rw [← Int.natCast_mul, wrapM, Nat.mod_eq_of_lt]
    rw [Nat.mul_comm]
    generalize a * (U / a) = z at *
    omega
  · rw [Nat.mul_comm a] at hd
    generalize U / a * a = z at *
    rw [IntKind.wrap_u64]; omega
  · rw [Nat.mul_comm a] at hd; exact hd
theorem div_more (hi lo y : Nat) (w : World) (h0 : 0 < hi) (hh : hi < y) (hy : y < 18446744073709551616) (hlo : lo < 18446744073709551616) :
    Calls Tryz.prog 88 #[.int .u64 hi, .int .u64 lo, .int .u64 y] w fun e w' => (∃ z : Int, e = .returned (.tuple #[.int .u64 z, .int .u64 (((hi * 18446744073709551616 + lo) % y : Nat) : Int)])) ∧ (w' = w ∨ w' = w.drew) := by
  have z0 : ((y : Int) == 0) = false := by simp; omega
  have z1 : ¬ ((y : Int) ≤ (hi : Int)) := by omega
  have z2 : ((hi : Int) == 0) = false := by simp; omega
  have L := lead_any y hy
  obtain ⟨s, hs⟩ : ∃ s, s = 64 - Lib.bitLen y := ⟨_, rfl⟩
  obtain ⟨hs63, Y, a, b, H, T, U, X, d1, d0, e1, e2, e3, e4, e5, e6, e7, e8, e9, hf, hY, hd0, hres⟩ := prep hi lo y s h0 hh hy hlo hs
  rw [← hs] at L
  obtain ⟨res, hr'⟩ : ∃ res, res = (hi * 18446744073709551616 + lo) % y := ⟨_, rfl⟩
  rw [← hr'] at hres ⊢
  clear hr'
  have hres : Hid ((U * 18446744073709551616 + d1 * 4294967296 + d0) % Y / 2 ^ s = res) := hres
  have z4 : ¬ (a = 0) := by have := hf.a0; omega
  obtain ⟨q, r, m, f1, f2, f3, f4, f5⟩ := guess hf hY
  have hF : Hid (q * a + r = U ∧ (U * 4294967296 + d1) / Y ≤ q ∧ q ≤ 4294967297 ∧ r < 4294967296) := f5
  have hHf : Hid (Dv.Half Y a b U d1 ∧ Y < 18446744073709551616 ∧ d0 < 4294967296) := ⟨hf, hY, hd0⟩
  clear hs hh h0 hlo hy hY hd0 hf f5
  go_enter Tryz.func88, Tryz.ntmps88
  go_wp2_with fail
  refine (L _).mono ?_
  rintro e w' ⟨rfl, rfl⟩
  clear L
  go_wp2
  go_loop [15, 16] (fun qv rv => ∃ q r : Nat, qv = .int .u64 (q : Int) ∧ rv = .int .u64 (r : Int) ∧ Hid (q * a + r = U ∧ (U * 4294967296 + d1) / Y ≤ q ∧ q ≤ 4294967297 ∧ r < 4294967296)) (fun qv _ => (intOf qv).toNat)
  case atStart => exact ⟨q, r, rfl, rfl, hF⟩
  case round =>
    clear f1 f2 f3 f4 hF
    obtain ⟨g, x, rfl, rfl, hI⟩ := hrel
    obtain ⟨i1, i2, i3, i4⟩ := hI.out
    rcases turn hHf.out.1 i1 i2 i3 i4 with ⟨n, z, v, j1, j2, j3, j4, ⟨j5, j6⟩ | ⟨j5, j6⟩⟩ | ⟨j1, j6⟩
    case inl.inl =>
      have hx : Hid (g = (U * 4294967296 + d1) / Y) := j6
      clear hI i1 i2 i3 i4 j6
      obtain ⟨A1, A2, A3, V, n1, n2, n3, n4, n5⟩ := rest hHf.out.1 hHf.out.2.1 hx.out
      have hg : Hid (Dv.Half Y a b V d0 ∧ Y < 18446744073709551616 ∧ V = (U * 4294967296 + d1) % Y) := ⟨⟨hHf.out.1.y, hHf.out.1.b, hHf.out.1.a0, hHf.out.1.a1, by rw [n5]; exact Nat.mod_lt _ hHf.out.1.ypos, hHf.out.2.2⟩, hHf.out.2.1, n5⟩
      obtain ⟨q2, r2, m2, g1, g2, g3, g4, g5⟩ := guess hg.out.1 hg.out.2.1
      have hG : Hid (q2 * a + r2 = V ∧ (V * 4294967296 + d0) / Y ≤ q2 ∧ q2 ≤ 4294967297 ∧ r2 < 4294967296) := g5
      clear hx n5 hHf g5
      go_wp2
      go_loop [18, 16] (fun qv rv => ∃ q r : Nat, qv = .int .u64 (q : Int) ∧ rv = .int .u64 (r : Int) ∧ Hid (q * a + r = V ∧ (V * 4294967296 + d0) / Y ≤ q ∧ q ≤ 4294967297 ∧ r < 4294967296)) (fun qv _ => (intOf qv).toNat)
      case atStart => exact ⟨q2, r2, rfl, rfl, hG⟩
      case round =>
        clear g1 g2 g3 g4 hG n1 n2 n3 n4
        obtain ⟨g', x', rfl, rfl, hI⟩ := hrel
        obtain ⟨i1, i2, i3, i4⟩ := hI.out
        rcases turn hg.out.1 i1 i2 i3 i4 with ⟨n', z', v', j1, j2, j3, j4, ⟨j5, j6⟩ | ⟨j5, j6⟩⟩ | ⟨j1, j6⟩
        case inl.inl =>
          have hx : Hid (g' = (V * 4294967296 + d0) / Y) := j6
          clear hI i1 i2 i3 i4 j6
          obtain ⟨C1, C2, C3, R, s1, s2, s3, s4, s5⟩ := rest hg.out.1 hg.out.2.1 hx.out
          have s6 : (R : Int) / 2 ^ s = ((R / 2 ^ s : Nat) : Int) := by simp
          have s7 : R / 2 ^ s = res := by rw [s5, hg.out.2.2, Dv.two _ _ _ _ hg.out.1.ypos]; exact hres.out
          rw [s7] at s6
          clear s5 hx s7
          go_wp2
          go_ret2
          exact ⟨⟨_, ret_two rfl rfl⟩, .inl rfl⟩
        case inl.inr =>
          obtain ⟨p', t', j7, j8, j9, ⟨j10, j11⟩ | ⟨j10, j11⟩⟩ := turned hg.out.1 i1 i3 i4 j6
          · have hx : Hid (p' = (V * 4294967296 + d0) / Y) := j11
            clear hI i1 i2 i3 i4 j11 j9 j6
            obtain ⟨C1, C2, C3, R, s1, s2, s3, s4, s5⟩ := rest hg.out.1 hg.out.2.1 hx.out
            have s6 : (R : Int) / 2 ^ s = ((R / 2 ^ s : Nat) : Int) := by simp
            have s7 : R / 2 ^ s = res := by rw [s5, hg.out.2.2, Dv.two _ _ _ _ hg.out.1.ypos]; exact hres.out
            rw [s7] at s6
            clear s5 hx s7
            go_wp2
            go_ret2
            exact ⟨⟨_, ret_two rfl rfl⟩, .inl rfl⟩
          · have hx : Hid (p' * a + t' = V ∧ (V * 4294967296 + d0) / Y ≤ p' ∧ p' ≤ 4294967297 ∧ t' < 4294967296) := j11
            clear hI i1 i2 i3 i4 j11 j6
            go_wp2
            go_round
            case rel => exact ⟨p', t', rfl, rfl, hx⟩
            case measure => simp [intOf]; omega
        case inr =>
          obtain ⟨p', t', j7, j8, j9, ⟨j10, j11⟩ | ⟨j10, j11⟩⟩ := turned hg.out.1 i1 i3 i4 j6
          · have hx : Hid (p' = (V * 4294967296 + d0) / Y) := j11
            clear hI i1 i2 i3 i4 j11 j9 j6
            obtain ⟨C1, C2, C3, R, s1, s2, s3, s4, s5⟩ := rest hg.out.1 hg.out.2.1 hx.out
            have s6 : (R : Int) / 2 ^ s = ((R / 2 ^ s : Nat) : Int) := by simp
            have s7 : R / 2 ^ s = res := by rw [s5, hg.out.2.2, Dv.two _ _ _ _ hg.out.1.ypos]; exact hres.out
            rw [s7] at s6
            clear s5 hx s7
            go_wp2
            go_ret2
            exact ⟨⟨_, ret_two rfl rfl⟩, .inl rfl⟩
          · have hx : Hid (p' * a + t' = V ∧ (V * 4294967296 + d0) / Y ≤ p' ∧ p' ≤ 4294967297 ∧ t' < 4294967296) := j11
            clear hI i1 i2 i3 i4 j11 j6
            go_wp2
            go_round
            case rel => exact ⟨p', t', rfl, rfl, hx⟩
            case measure => simp [intOf]; omega
    case inl.inr =>
      obtain ⟨p, t, j7, j8, j9, ⟨j10, j11⟩ | ⟨j10, j11⟩⟩ := turned hHf.out.1 i1 i3 i4 j6
      · have hx : Hid (p = (U * 4294967296 + d1) / Y) := j11
        clear hI i1 i2 i3 i4 j11 j9 j6
        obtain ⟨A1, A2, A3, V, n1, n2, n3, n4, n5⟩ := rest hHf.out.1 hHf.out.2.1 hx.out
        have hg : Hid (Dv.Half Y a b V d0 ∧ Y < 18446744073709551616 ∧ V = (U * 4294967296 + d1) % Y) := ⟨⟨hHf.out.1.y, hHf.out.1.b, hHf.out.1.a0, hHf.out.1.a1, by rw [n5]; exact Nat.mod_lt _ hHf.out.1.ypos, hHf.out.2.2⟩, hHf.out.2.1, n5⟩
        obtain ⟨q2, r2, m2, g1, g2, g3, g4, g5⟩ := guess hg.out.1 hg.out.2.1
        have hG : Hid (q2 * a + r2 = V ∧ (V * 4294967296 + d0) / Y ≤ q2 ∧ q2 ≤ 4294967297 ∧ r2 < 4294967296) := g5
        clear hx n5 hHf g5
        go_wp2
        go_loop [18, 16] (fun qv rv => ∃ q r : Nat, qv = .int .u64 (q : Int) ∧ rv = .int .u64 (r : Int) ∧ Hid (q * a + r = V ∧ (V * 4294967296 + d0) / Y ≤ q ∧ q ≤ 4294967297 ∧ r < 4294967296)) (fun qv _ => (intOf qv).toNat)
        case atStart => exact ⟨q2, r2, rfl, rfl, hG⟩
        case round =>
          clear g1 g2 g3 g4 hG n1 n2 n3 n4
          obtain ⟨g', x', rfl, rfl, hI⟩ := hrel
          obtain ⟨i1, i2, i3, i4⟩ := hI.out
          rcases turn hg.out.1 i1 i2 i3 i4 with ⟨n', z', v', j1, j2, j3, j4, ⟨j5, j6⟩ | ⟨j5, j6⟩⟩ | ⟨j1, j6⟩
          case inl.inl =>
            have hx : Hid (g' = (V * 4294967296 + d0) / Y) := j6
            clear hI i1 i2 i3 i4 j6
            obtain ⟨C1, C2, C3, R, s1, s2, s3, s4, s5⟩ := rest hg.out.1 hg.out.2.1 hx.out
            have s6 : (R : Int) / 2 ^ s = ((R / 2 ^ s : Nat) : Int) := by simp
            have s7 : R / 2 ^ s = res := by rw [s5, hg.out.2.2, Dv.two _ _ _ _ hg.out.1.ypos]; exact hres.out
            rw [s7] at s6
            clear s5 hx s7
            go_wp2
            go_ret2
            exact ⟨⟨_, ret_two rfl rfl⟩, .inl rfl⟩
          case inl.inr =>
            obtain ⟨p', t', j7, j8, j9, ⟨j10, j11⟩ | ⟨j10, j11⟩⟩ := turned hg.out.1 i1 i3 i4 j6
            · have hx : Hid (p' = (V * 4294967296 + d0) / Y) := j11
              clear hI i1 i2 i3 i4 j11 j9 j6
              obtain ⟨C1, C2, C3, R, s1, s2, s3, s4, s5⟩ := rest hg.out.1 hg.out.2.1 hx.out
              have s6 : (R : Int) / 2 ^ s = ((R / 2 ^ s : Nat) : Int) := by simp
              have s7 : R / 2 ^ s = res := by rw [s5, hg.out.2.2, Dv.two _ _ _ _ hg.out.1.ypos]; exact hres.out
              rw [s7] at s6
              clear s5 hx s7
              go_wp2
              go_ret2
              exact ⟨⟨_, ret_two rfl rfl⟩, .inl rfl⟩
            · have hx : Hid (p' * a + t' = V ∧ (V * 4294967296 + d0) / Y ≤ p' ∧ p' ≤ 4294967297 ∧ t' < 4294967296) := j11
              clear hI i1 i2 i3 i4 j11 j6
              go_wp2
              go_round
              case rel => exact ⟨p', t', rfl, rfl, hx⟩
              case measure => simp [intOf]; omega
          case inr =>
            obtain ⟨p', t', j7, j8, j9, ⟨j10, j11⟩ | ⟨j10, j11⟩⟩ := turned hg.out.1 i1 i3 i4 j6
            · have hx : Hid (p' = (V * 4294967296 + d0) / Y) := j11
              clear hI i1 i2 i3 i4 j11 j9 j6
              obtain ⟨C1, C2, C3, R, s1, s2, s3, s4, s5⟩ := rest hg.out.1 hg.out.2.1 hx.out
              have s6 : (R : Int) / 2 ^ s = ((R / 2 ^ s : Nat) : Int) := by simp
              have s7 : R / 2 ^ s = res := by rw [s5, hg.out.2.2, Dv.two _ _ _ _ hg.out.1.ypos]; exact hres.out
              rw [s7] at s6
              clear s5 hx s7
              go_wp2
              go_ret2
              exact ⟨⟨_, ret_two rfl rfl⟩, .inl rfl⟩
            · have hx : Hid (p' * a + t' = V ∧ (V * 4294967296 + d0) / Y ≤ p' ∧ p' ≤ 4294967297 ∧ t' < 4294967296) := j11
              clear hI i1 i2 i3 i4 j11 j6
              go_wp2
              go_round
              case rel => exact ⟨p', t', rfl, rfl, hx⟩
              case measure => simp [intOf]; omega
      · have hx : Hid (p * a + t = U ∧ (U * 4294967296 + d1) / Y ≤ p ∧ p ≤ 4294967297 ∧ t < 4294967296) := j11
        clear hI i1 i2 i3 i4 j11 j6
        go_wp2
        go_round
        case rel => exact ⟨p, t, rfl, rfl, hx⟩
        case measure => simp [intOf]; omega
    case inr =>
      obtain ⟨p, t, j7, j8, j9, ⟨j10, j11⟩ | ⟨j10, j11⟩⟩ := turned hHf.out.1 i1 i3 i4 j6
      · have hx : Hid (p = (U * 4294967296 + d1) / Y) := j11
        clear hI i1 i2 i3 i4 j11 j9 j6
        obtain ⟨A1, A2, A3, V, n1, n2, n3, n4, n5⟩ := rest hHf.out.1 hHf.out.2.1 hx.out
        have hg : Hid (Dv.Half Y a b V d0 ∧ Y < 18446744073709551616 ∧ V = (U * 4294967296 + d1) % Y) := ⟨⟨hHf.out.1.y, hHf.out.1.b, hHf.out.1.a0, hHf.out.1.a1, by rw [n5]; exact Nat.mod_lt _ hHf.out.1.ypos, hHf.out.2.2⟩, hHf.out.2.1, n5⟩
        obtain ⟨q2, r2, m2, g1, g2, g3, g4, g5⟩ := guess hg.out.1 hg.out.2.1
        have hG : Hid (q2 * a + r2 = V ∧ (V * 4294967296 + d0) / Y ≤ q2 ∧ q2 ≤ 4294967297 ∧ r2 < 4294967296) := g5
        clear hx n5 hHf g5
        go_wp2
        go_loop [18, 16] (fun qv rv => ∃ q r : Nat, qv = .int .u64 (q : Int) ∧ rv = .int .u64 (r : Int) ∧ Hid (q * a + r = V ∧ (V * 4294967296 + d0) / Y ≤ q ∧ q ≤ 4294967297 ∧ r < 4294967296)) (fun qv _ => (intOf qv).toNat)
        case atStart => exact ⟨q2, r2, rfl, rfl, hG⟩
        case round =>
          clear g1 g2 g3 g4 hG n1 n2 n3 n4
          obtain ⟨g', x', rfl, rfl, hI⟩ := hrel
          obtain ⟨i1, i2, i3, i4⟩ := hI.out
          rcases turn hg.out.1 i1 i2 i3 i4 with ⟨n', z', v', j1, j2, j3, j4, ⟨j5, j6⟩ | ⟨j5, j6⟩⟩ | ⟨j1, j6⟩
          case inl.inl =>
            have hx : Hid (g' = (V * 4294967296 + d0) / Y) := j6
            clear hI i1 i2 i3 i4 j6
            obtain ⟨C1, C2, C3, R, s1, s2, s3, s4, s5⟩ := rest hg.out.1 hg.out.2.1 hx.out
            have s6 : (R : Int) / 2 ^ s = ((R / 2 ^ s : Nat) : Int) := by simp
            have s7 : R / 2 ^ s = res := by rw [s5, hg.out.2.2, Dv.two _ _ _ _ hg.out.1.ypos]; exact hres.out
            rw [s7] at s6
            clear s5 hx s7
            go_wp2
            go_ret2
            exact ⟨⟨_, ret_two rfl rfl⟩, .inl rfl⟩
          case inl.inr =>
            obtain ⟨p', t', j7, j8, j9, ⟨j10, j11⟩ | ⟨j10, j11⟩⟩ := turned hg.out.1 i1 i3 i4 j6
            · have hx : Hid (p' = (V * 4294967296 + d0) / Y) := j11
              clear hI i1 i2 i3 i4 j11 j9 j6
              obtain ⟨C1, C2, C3, R, s1, s2, s3, s4, s5⟩ := rest hg.out.1 hg.out.2.1 hx.out
              have s6 : (R : Int) / 2 ^ s = ((R / 2 ^ s : Nat) : Int) := by simp
              have s7 : R / 2 ^ s = res := by rw [s5, hg.out.2.2, Dv.two _ _ _ _ hg.out.1.ypos]; exact hres.out
              rw [s7] at s6
              clear s5 hx s7
              go_wp2
              go_ret2
              exact ⟨⟨_, ret_two rfl rfl⟩, .inl rfl⟩
            · have hx : Hid (p' * a + t' = V ∧ (V * 4294967296 + d0) / Y ≤ p' ∧ p' ≤ 4294967297 ∧ t' < 4294967296) := j11
              clear hI i1 i2 i3 i4 j11 j6
              go_wp2
              go_round
              case rel => exact ⟨p', t', rfl, rfl, hx⟩
              case measure => simp [intOf]; omega
          case inr =>
            obtain ⟨p', t', j7, j8, j9, ⟨j10, j11⟩ | ⟨j10, j11⟩⟩ := turned hg.out.1 i1 i3 i4 j6
            · have hx : Hid (p' = (V * 4294967296 + d0) / Y) := j11
              clear hI i1 i2 i3 i4 j11 j9 j6
              obtain ⟨C1, C2, C3, R, s1, s2, s3, s4, s5⟩ := rest hg.out.1 hg.out.2.1 hx.out
              have s6 : (R : Int) / 2 ^ s = ((R / 2 ^ s : Nat) : Int) := by simp
              have s7 : R / 2 ^ s = res := by rw [s5, hg.out.2.2, Dv.two _ _ _ _ hg.out.1.ypos]; exact hres.out
              rw [s7] at s6
              clear s5 hx s7
              go_wp2
              go_ret2
              exact ⟨⟨_, ret_two rfl rfl⟩, .inl rfl⟩
            · have hx : Hid (p' * a + t' = V ∧ (V * 4294967296 + d0) / Y ≤ p' ∧ p' ≤ 4294967297 ∧ t' < 4294967296) := j11
              clear hI i1 i2 i3 i4 j11 j6
              go_wp2
              go_round
              case rel => exact ⟨p', t', rfl, rfl, hx⟩
              case measure => simp [intOf]; omega
      · have hx : Hid (p * a + t = U ∧ (U * 4294967296 + d1) / Y ≤ p ∧ p ≤ 4294967297 ∧ t < 4294967296) := j11
        clear hI i1 i2 i3 i4 j11 j6
        go_wp2
        go_round
        case rel => exact ⟨p, t, rfl, rfl, hx⟩
        case measure => simp [intOf]; omega
theorem div_any (hi lo y : Nat) (w : World) (hh : hi < y) (hy : y < 18446744073709551616) (hlo : lo < 18446744073709551616) :
    Calls Tryz.prog 88 #[.int .u64 hi, .int .u64 lo, .int .u64 y] w fun e w' => (∃ z : Int, e = .returned (.tuple #[.int .u64 z, .int .u64 (((hi * 18446744073709551616 + lo) % y : Nat) : Int)])) ∧ (w' = w ∨ w' = w.drew) := by
  by_cases h0 : hi = 0
  · subst h0
    rw [Nat.zero_mul, Nat.zero_add]
    exact div_zero lo y w hh
  · exact div_more hi lo y w (by omega) hh hy hlo
end Go.Proofs.YtdaobioomoajfaaGreat
