import Derived.Test.YtaeanelfpaphiabDrwQ
import Derived.Test.YtaeanelfpaphiabGetB
namespace Go.Proofs.Ytaeanelfpaphiab
open Go.RowKit M
set_option linter.unusedVariables false

theorem put_back {text : ByteArray} {r : Option Pt} (h : ∀ p, r = some p → on p ∧ p ≠ none ∧ strOfNums (be8 (putN p : Nat)) = text) (p : Pt) (hp : r = some p) (w : World) :
    Calls Try.prog 27 #[.agg #[.int .u64 (px p), .int .u64 (py p), .bool (pb p)]] w fun e w' => e = .returned (.string text) ∧ Below w.heap.size w w' := by
  obtain ⟨hon, hne, hs⟩ := h p hp
  rcases p with _ | ⟨X, Y⟩
  · exact absurd rfl hne
  · have := putI_pt X.val Y.val false w
    rw [asPt_some (toPt_self hon), hs] at this
    exact this

theorem putN_0 {p : Pt} (h : putN p = 0) : p = none := by
  rcases p with _ | ⟨X, Y⟩
  · rfl
  · rw [putN_some] at h; omega
/-- what is no point but zero has a text that nobody reads -/
theorem get_0 {r : Option Pt} (h : GetIs (strOfNums (be8 (0 : Nat))) r) : r = none := by
  cases r with
  | none => rfl
  | some p =>
    obtain ⟨-, hne, hs⟩ := h.2.2.1 p rfl
    have h8 := size8 (0 : Nat)
    have e1 := (str8 _ h8 (putN p) (putN_lt p)).1 hs
    have e2 := (str8 _ h8 0 (by decide)).1 rfl
    exact absurd (putN_0 (e1.trans e2.symm)) hne
set_option maxRecDepth 100000 in
set_option maxHeartbeats 8000000 in
theorem pointsW (q : Option Addr) (len cap : Nat) (w : World) (hv : Cod w (.slice q len cap)) (hl : len ≤ 1048576) :
    Calls Try.prog 6 #[.slice q len cap] w fun e w' => e = .returned (.bool true) ∧ Below w.heap.size w w' := by
  have T := dput_any (.slice q len cap) w hv
  have hli : (len : Int) ≤ 1048576 := by omega
  have T2 := fun w hv => dget_any (.slice q len cap) w hv
  go_enter Try.func6, Try.ntmps6
  go_wp2_with fail
  refine T.mono ?_
  rintro e w2 ⟨⟨x, y, c, hx, hy, rfl⟩, hb⟩
  clear T hx hy
  have PI := putI_pt x y c
  have PS := putS_any x y c
  have OS := onS_any x y c
  obtain ⟨r, GS, GI, g3, g4⟩ := get_any (strOfNums (be8 (putN (asPt x y c) : Nat)))
  have g0 : asPt x y c = none → r = none := fun h => get_0 (by rw [h] at GS GI g3 g4; exact ⟨GS, GI, g3, g4⟩)
  clear GS g3
  cases h1 : toPt x y c with
  | none =>
    have ha : asPt x y c = none := by unfold asPt; rw [h1]; rfl
    obtain rfl := g0 ha
    rw [h1] at OS
    clear g0 g4 ha h1
    simp only [Option.getD_none, Option.isSome_none] at GI OS
    generalize strOfNums (be8 (putN (asPt x y c) : Nat)) = s at *
    have GI : ∀ w, Calls Try.prog 13 #[.string s] w fun e w' => e = .returned (.tuple #[.agg #[.int .u64 0, .int .u64 0, .bool true], .bool false]) ∧ Below w.heap.size w w' := GI
    replace hv := (hv.below hb).below ((Below.refl w2.heap.size w2).alloc (Nat.le_refl _) (Obj.cells #[.int .u64 x, .int .u64 y, .bool c] 25))
    have hv1 := hv
    clear hv
    replace hb := hb.alloc hb.size (Obj.cells #[.int .u64 x, .int .u64 y, .bool c] 25)
    have hp := K3.new w2 25 x y c
    go_wp2_with fail
    refine (PI _).mono ?_
    rintro e w3 ⟨rfl, b3⟩
    replace hb := keepB hb hb.size b3
    replace hp := hp.keep b3
    replace hv1 := hv1.below b3
    clear b3 PI
    have c0 := hp.c0
    have c1 := hp.c1
    have c2 := hp.c2
    go_wp2_with fail
    refine (PS _).mono ?_
    rintro e w4 ⟨rfl, b3⟩
    replace hb := keepB hb hb.size b3
    replace hp := hp.keep b3
    replace hv1 := hv1.below b3
    clear b3 PS c0 c1 c2
    go_wp2_with fail
    refine (GI _).mono ?_
    rintro e w5 ⟨rfl, b3⟩
    replace hv1 := (hv1.below b3).below ((Below.refl w5.heap.size w5).alloc (Nat.le_refl _) (Obj.cells #[.int .u64 0, .int .u64 0, .bool true] 25))
    replace hb := keepB hb hb.size b3
    replace hb := hb.alloc hb.size (Obj.cells #[.int .u64 0, .int .u64 0, .bool true] 25)
    replace hp := (hp.keep b3).alloc (Obj.cells #[.int .u64 0, .int .u64 0, .bool true] 25)
    have hq := K3.new w5 25 0 0 true
    clear b3 GI
    have c0 := hp.c0
    have c1 := hp.c1
    have c2 := hp.c2
    go_wp2_with fail
    refine (OS _).mono ?_
    rintro e w6 ⟨rfl, b3⟩
    replace hv1 := hv1.below b3
    replace hb := keepB hb hb.size b3
    replace hp := hp.keep b3
    replace hq := hq.keep b3
    clear b3 OS c0 c1 c2
    have c0 := hp.c0
    have c1 := hp.c1
    have c2 := hp.c2
    go_wp2_with fail
    refine (T2 _ hv1).mono ?_
    rintro e w5 ⟨⟨text, rfl⟩, b5⟩
    replace hb := keepB hb hb.size b5
    clear b5 T2 hv1
    obtain ⟨r2, S2, I2, h3, -⟩ := get_any text
    have hP : ∀ p, r2 = some p → ∀ w, Calls Try.prog 27 #[.agg #[.int .u64 (px p), .int .u64 (py p), .bool (pb p)]] w fun e w' => e = .returned (.string text) ∧ Below w.heap.size w w' := put_back h3
    clear h3
    rw [ptW_eq] at S2 I2
    go_wp2_with fail
    refine (S2 _).mono ?_
    rintro e w6 ⟨rfl, b6⟩
    replace hb := keepB hb hb.size b6
    replace hb := hb.alloc hb.size (Obj.cells #[.int .u64 (px (r2.getD none)), .int .u64 (py (r2.getD none)), .bool (pb (r2.getD none))] 25)
    have hw := K3.new w6 25 (px (r2.getD none)) (py (r2.getD none)) (pb (r2.getD none))
    clear b6 S2
    go_wp2_with fail
    refine (I2 _).mono ?_
    rintro e w7 ⟨rfl, b7⟩
    replace hb := keepB hb hb.size b7
    replace hb := hb.alloc hb.size (Obj.cells #[.int .u64 (px (r2.getD none)), .int .u64 (py (r2.getD none)), .bool (pb (r2.getD none))] 25)
    replace hw := (hw.keep b7).alloc (Obj.cells #[.int .u64 (px (r2.getD none)), .int .u64 (py (r2.getD none)), .bool (pb (r2.getD none))] 25)
    clear b7 I2
    have k0 := hw.c0
    have k1 := hw.c1
    have k2 := hw.c2
    cases r2 with
    | none =>
      simp only [Option.getD_none, Option.isSome_none] at *
      go_wp2
      go_ret
      exact ⟨rfl, hb⟩
    | some p2 =>
      simp only [Option.getD_some, Option.isSome_some] at *
      have hP := hP p2 rfl
      go_wp2_with fail
      refine (hP _).mono ?_
      rintro e w8 ⟨rfl, b8⟩
      replace hb := keepB hb hb.size b8
      go_wp2
      go_ret
      exact ⟨rfl, hb⟩
  | some p =>
    rw [h1] at OS
    have ha := asPt_some h1
    obtain ⟨e1, e2, e3⟩ := fields_of h1
    rcases p with _ | ⟨X, Y⟩
    · obtain rfl := g0 ha
      obtain rfl : c = true := e3
      clear g0 g4 ha h1 e1 e2
      simp only [Option.getD_none, Option.isSome_none, Option.isSome_some] at GI OS
      generalize strOfNums (be8 (putN (asPt x y true) : Nat)) = s at *
      have GI : ∀ w, Calls Try.prog 13 #[.string s] w fun e w' => e = .returned (.tuple #[.agg #[.int .u64 0, .int .u64 0, .bool true], .bool false]) ∧ Below w.heap.size w w' := GI
      replace hv := (hv.below hb).below ((Below.refl w2.heap.size w2).alloc (Nat.le_refl _) (Obj.cells #[.int .u64 x, .int .u64 y, .bool true] 25))
      have hv1 := hv
      clear hv
      replace hb := hb.alloc hb.size (Obj.cells #[.int .u64 x, .int .u64 y, .bool true] 25)
      have hp := K3.new w2 25 x y true
      go_wp2_with fail
      refine (PI _).mono ?_
      rintro e w3 ⟨rfl, b3⟩
      replace hb := keepB hb hb.size b3
      replace hp := hp.keep b3
      replace hv1 := hv1.below b3
      clear b3 PI
      have c0 := hp.c0
      have c1 := hp.c1
      have c2 := hp.c2
      go_wp2_with fail
      refine (PS _).mono ?_
      rintro e w4 ⟨rfl, b3⟩
      replace hb := keepB hb hb.size b3
      replace hp := hp.keep b3
      replace hv1 := hv1.below b3
      clear b3 PS c0 c1 c2
      go_wp2_with fail
      refine (GI _).mono ?_
      rintro e w5 ⟨rfl, b3⟩
      replace hv1 := (hv1.below b3).below ((Below.refl w5.heap.size w5).alloc (Nat.le_refl _) (Obj.cells #[.int .u64 0, .int .u64 0, .bool true] 25))
      replace hb := keepB hb hb.size b3
      replace hb := hb.alloc hb.size (Obj.cells #[.int .u64 0, .int .u64 0, .bool true] 25)
      replace hp := (hp.keep b3).alloc (Obj.cells #[.int .u64 0, .int .u64 0, .bool true] 25)
      have hq := K3.new w5 25 0 0 true
      clear b3 GI
      have c0 := hp.c0
      have c1 := hp.c1
      have c2 := hp.c2
      go_wp2_with fail
      refine (OS _).mono ?_
      rintro e w6 ⟨rfl, b3⟩
      replace hv1 := hv1.below b3
      replace hb := keepB hb hb.size b3
      replace hp := hp.keep b3
      replace hq := hq.keep b3
      clear b3 OS c0 c1 c2
      have c0 := hp.c0
      have c1 := hp.c1
      have c2 := hp.c2
      go_wp2_with fail
      refine (T2 _ hv1).mono ?_
      rintro e w5 ⟨⟨text, rfl⟩, b5⟩
      replace hb := keepB hb hb.size b5
      clear b5 T2 hv1
      obtain ⟨r2, S2, I2, h3, -⟩ := get_any text
      have hP : ∀ p, r2 = some p → ∀ w, Calls Try.prog 27 #[.agg #[.int .u64 (px p), .int .u64 (py p), .bool (pb p)]] w fun e w' => e = .returned (.string text) ∧ Below w.heap.size w w' := put_back h3
      clear h3
      rw [ptW_eq] at S2 I2
      go_wp2_with fail
      refine (S2 _).mono ?_
      rintro e w6 ⟨rfl, b6⟩
      replace hb := keepB hb hb.size b6
      replace hb := hb.alloc hb.size (Obj.cells #[.int .u64 (px (r2.getD none)), .int .u64 (py (r2.getD none)), .bool (pb (r2.getD none))] 25)
      have hw := K3.new w6 25 (px (r2.getD none)) (py (r2.getD none)) (pb (r2.getD none))
      clear b6 S2
      go_wp2_with fail
      refine (I2 _).mono ?_
      rintro e w7 ⟨rfl, b7⟩
      replace hb := keepB hb hb.size b7
      replace hb := hb.alloc hb.size (Obj.cells #[.int .u64 (px (r2.getD none)), .int .u64 (py (r2.getD none)), .bool (pb (r2.getD none))] 25)
      replace hw := (hw.keep b7).alloc (Obj.cells #[.int .u64 (px (r2.getD none)), .int .u64 (py (r2.getD none)), .bool (pb (r2.getD none))] 25)
      clear b7 I2
      have k0 := hw.c0
      have k1 := hw.c1
      have k2 := hw.c2
      cases r2 with
      | none =>
        simp only [Option.getD_none, Option.isSome_none] at *
        go_wp2
        go_ret
        exact ⟨rfl, hb⟩
      | some p2 =>
        simp only [Option.getD_some, Option.isSome_some] at *
        have hP := hP p2 rfl
        go_wp2_with fail
        refine (hP _).mono ?_
        rintro e w8 ⟨rfl, b8⟩
        replace hb := keepB hb hb.size b8
        go_wp2
        go_ret
        exact ⟨rfl, hb⟩
    · obtain rfl := g4 _ (toPt_on h1) (by intro e; cases e) (by rw [ha])
      obtain rfl : c = false := e3
      simp only [Option.getD_some, Option.isSome_some] at GI OS
      generalize strOfNums (be8 (putN (asPt x y false) : Nat)) = s at *
      have GI : ∀ w, Calls Try.prog 13 #[.string s] w fun e w' => e = .returned (.tuple #[.agg #[.int .u64 x, .int .u64 y, .bool false], .bool true]) ∧ Below w.heap.size w w' := by
        intro w
        rw [show (x : Int) = fv X from e1, show (y : Int) = fv Y from e2]
        exact GI w
      clear g0 g4 ha h1 e1 e2
      replace hv := (hv.below hb).below ((Below.refl w2.heap.size w2).alloc (Nat.le_refl _) (Obj.cells #[.int .u64 x, .int .u64 y, .bool false] 25))
      have hv1 := hv
      clear hv
      replace hb := hb.alloc hb.size (Obj.cells #[.int .u64 x, .int .u64 y, .bool false] 25)
      have hp := K3.new w2 25 x y false
      go_wp2_with fail
      refine (PI _).mono ?_
      rintro e w3 ⟨rfl, b3⟩
      replace hb := keepB hb hb.size b3
      replace hp := hp.keep b3
      replace hv1 := hv1.below b3
      clear b3 PI
      have c0 := hp.c0
      have c1 := hp.c1
      have c2 := hp.c2
      go_wp2_with fail
      refine (PS _).mono ?_
      rintro e w4 ⟨rfl, b3⟩
      replace hb := keepB hb hb.size b3
      replace hp := hp.keep b3
      replace hv1 := hv1.below b3
      clear b3 PS c0 c1 c2
      go_wp2_with fail
      refine (GI _).mono ?_
      rintro e w5 ⟨rfl, b3⟩
      replace hv1 := (hv1.below b3).below ((Below.refl w5.heap.size w5).alloc (Nat.le_refl _) (Obj.cells #[.int .u64 x, .int .u64 y, .bool false] 25))
      replace hb := keepB hb hb.size b3
      replace hb := hb.alloc hb.size (Obj.cells #[.int .u64 x, .int .u64 y, .bool false] 25)
      replace hp := (hp.keep b3).alloc (Obj.cells #[.int .u64 x, .int .u64 y, .bool false] 25)
      have hq := K3.new w5 25 x y false
      clear b3 GI
      have c0 := hp.c0
      have c1 := hp.c1
      have c2 := hp.c2
      go_wp2_with fail
      refine (OS _).mono ?_
      rintro e w6 ⟨rfl, b3⟩
      replace hv1 := hv1.below b3
      replace hb := keepB hb hb.size b3
      replace hp := hp.keep b3
      replace hq := hq.keep b3
      clear b3 OS c0 c1 c2
      have c0 := hp.c0
      have c1 := hp.c1
      have c2 := hp.c2
      have e0 := hq.c0
      have e1 := hq.c1
      have e2 := hq.c2
      go_wp2_with fail
      refine (T2 _ hv1).mono ?_
      rintro e w5 ⟨⟨text, rfl⟩, b5⟩
      replace hb := keepB hb hb.size b5
      clear b5 T2 hv1
      obtain ⟨r2, S2, I2, h3, -⟩ := get_any text
      have hP : ∀ p, r2 = some p → ∀ w, Calls Try.prog 27 #[.agg #[.int .u64 (px p), .int .u64 (py p), .bool (pb p)]] w fun e w' => e = .returned (.string text) ∧ Below w.heap.size w w' := put_back h3
      clear h3
      rw [ptW_eq] at S2 I2
      go_wp2_with fail
      refine (S2 _).mono ?_
      rintro e w6 ⟨rfl, b6⟩
      replace hb := keepB hb hb.size b6
      replace hb := hb.alloc hb.size (Obj.cells #[.int .u64 (px (r2.getD none)), .int .u64 (py (r2.getD none)), .bool (pb (r2.getD none))] 25)
      have hw := K3.new w6 25 (px (r2.getD none)) (py (r2.getD none)) (pb (r2.getD none))
      clear b6 S2
      go_wp2_with fail
      refine (I2 _).mono ?_
      rintro e w7 ⟨rfl, b7⟩
      replace hb := keepB hb hb.size b7
      replace hb := hb.alloc hb.size (Obj.cells #[.int .u64 (px (r2.getD none)), .int .u64 (py (r2.getD none)), .bool (pb (r2.getD none))] 25)
      replace hw := (hw.keep b7).alloc (Obj.cells #[.int .u64 (px (r2.getD none)), .int .u64 (py (r2.getD none)), .bool (pb (r2.getD none))] 25)
      clear b7 I2
      have k0 := hw.c0
      have k1 := hw.c1
      have k2 := hw.c2
      cases r2 with
      | none =>
        simp only [Option.getD_none, Option.isSome_none] at *
        go_wp2
        go_ret
        exact ⟨rfl, hb⟩
      | some p2 =>
        simp only [Option.getD_some, Option.isSome_some] at *
        have hP := hP p2 rfl
        go_wp2_with fail
        refine (hP _).mono ?_
        rintro e w8 ⟨rfl, b8⟩
        replace hb := keepB hb hb.size b8
        go_wp2
        go_ret
        exact ⟨rfl, hb⟩
end Go.Proofs.Ytaeanelfpaphiab
