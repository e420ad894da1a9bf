import Derived.Test.YtdaobioomoajfaaGreatMrg10
import Derived.Test.YtdaobioomoajfaaGreatMrg12
import Derived.Test.YtdaobioomoajfaaGreatMrg15
import Derived.Test.YtdaobioomoajfaaGreatMrg5
import Derived.Test.YtdaobioomoajfaaGreatProg
import Derived.Laws.BytesArg
import Derived.Deep.RegionHeld3
import Derived.Lib.ConvBytes
import Derived.Deep.Strs
import Derived.Test.YtdaobioomoajfaaGreatMrg0
import Derived.Test.YtdaobioomoajfaaGreatMrg9
import Derived.Test.YtdaobioomoajfaaGreatMrg8
set_option linter.unusedVariables false
set_option maxRecDepth 100000
set_option maxHeartbeats 16000000
namespace Go.Proofs.YtdaobioomoajfaaGreat
open Go.RowKit M
theorem and61 (n : Nat) (hn : n < 18446744073709551616) : bits .and .u64 (n : Int) 2305843009213693952 = ((n / 2305843009213693952 % 2 * 2305843009213693952 : Nat) : Int) := by
  have := bits_and_u64_nat n 2305843009213693952 hn (by decide)
  have e : n &&& 2305843009213693952 = n / 2305843009213693952 % 2 * 2305843009213693952 := by
    have h2 : (2 : Nat) ^ 61 = 2305843009213693952 := by decide
    have h3 : n / 2305843009213693952 % 2 < 2 := Nat.mod_lt _ (by decide)
    have hb : n.testBit 61 = decide (n / 2305843009213693952 % 2 = 1) := by rw [Nat.testBit_eq_decide_div_mod_eq, h2]
    generalize n / 2305843009213693952 % 2 = z at *
    rw [← h2]
    apply Nat.eq_of_testBit_eq
    intro i
    rw [Nat.testBit_and, Nat.testBit_two_pow]
    match z, h3 with
    | 0, _ =>
      by_cases hi : 61 = i
      · subst hi; rw [hb]; simp
      · simp [hi]
    | 1, _ =>
      rw [Nat.one_mul, Nat.testBit_two_pow]
      by_cases hi : 61 = i
      · subst hi; rw [hb]; simp
      · simp [hi]
  rw [e] at this
  exact this
def GetIs (s : ByteArray) (r : Option Pt) : Prop :=
  (∀ w, Calls Tryz.prog 37 #[.string s] w fun e w' => e = .returned (.tuple #[ptW (r.getD none), .bool r.isSome]) ∧ Below w.heap.size w w') ∧
  (∀ w, Calls Tryz.prog 104 #[.string s] w fun e w' => e = .returned (.tuple #[ptW (r.getD none), .bool r.isSome]) ∧ Below w.heap.size w w') ∧
  (∀ p, r = some p → on p ∧ p ≠ none ∧ strOfNums (be8 (putN p : Nat)) = s) ∧
  (∀ p, on p → p ≠ none → strOfNums (be8 (putN p : Nat)) = s → r = some p)
theorem size8 (n : Int) : (strOfNums (be8 n)).size = 8 := by rw [strOfNums_size]; rfl
theorem byt_toList (s : ByteArray) : byt s = s.toList.map (fun b => (b.toNat : Int)) := by
  unfold byt
  rw [ByteArray.toList_eq]
theorem str_ne {s t : ByteArray} (h : s ≠ t) : (s.toList == t.toList) = false := by
  rw [beq_eq_false_iff_ne]
  intro e
  exact h (byt_inj (by rw [byt_toList, byt_toList, e]))
theorem putN_parts (X Y : Fp) : putN (some (X, Y)) % 2305843009213693952 = X.val ∧ putN (some (X, Y)) / 2305843009213693952 = 2 + Y.val % 2 := by
  have hx := val_lt X
  have hy : Y.val % 2 < 2 := Nat.mod_lt _ (by decide)
  rw [putN_some]
  generalize X.val = x at *
  generalize Y.val % 2 = z at *
  omega
theorem neg_odd {Y : Fp} (h0 : Y ≠ 0) (he : Y.val % 2 = 0) : (-Y).val % 2 = 1 := by
  have e := neg_val (y := Y) (z := -Y) (by grobner) h0
  have := val_lt Y
  rw [e]; omega
theorem get_any (s : ByteArray) : ∃ r, GetIs s r := by
  by_cases h8 : s.size = 8
  · have h81 : ((s.size : Int) == 8) = true := by simp; omega
    have hn := numL_8 s h8
    have L := wdS_any (s := s) (hs := h8)
    have LI := wdI_any (s := s) (hs := h8)
    have hstr := str8 s h8
    generalize numL (byt s) = n at *
    have hn0 : (0 : Int) ≤ (n : Int) := by omega
    have hxt : (n : Int).tmod 2305843009213693952 = ((n % 2305843009213693952 : Nat) : Int) := by
      rw [Int.tmod_eq_emod_of_nonneg hn0]; omega
    have hq : (n : Int).tdiv 4611686018427387904 = ((n / 4611686018427387904 : Nat) : Int) := by
      rw [Int.tdiv_eq_ediv_of_nonneg hn0]; omega
    have hqw : IntKind.u64.wrap ((n / 4611686018427387904 : Nat) : Int) = ((n / 4611686018427387904 : Nat) : Int) := by
      rw [IntKind.wrap_u64]; omega
    have hm := and61 n hn
    have hpn : ∀ p : Pt, p ≠ none → strOfNums (be8 (putN p : Nat)) = s → ∃ X Y, p = some (X, Y) ∧ n % 2305843009213693952 = X.val ∧ n / 2305843009213693952 = 2 + Y.val % 2 := by
      intro p hp hs
      rcases p with _ | ⟨X, Y⟩
      · exact absurd rfl hp
      · have e := (hstr _ (putN_lt _)).1 hs
        have := putN_parts X Y
        rw [e] at this
        exact ⟨X, Y, rfl, this.1, this.2⟩
    have hdiv : n / 4611686018427387904 = n / 2305843009213693952 / 2 := by omega
    have hnx : n = n / 2305843009213693952 * 2305843009213693952 + n % 2305843009213693952 := by omega
    by_cases hx : n % 2305843009213693952 < 2305843009213693951
    · obtain ⟨xf, hxf⟩ : ∃ xf : Fp, xf.val = n % 2305843009213693952 := ⟨⟨_, hx⟩, rfl⟩
      have R := rightS xf
      have Cs := csqV xf
      have E := fun w => exP_less (n % 2305843009213693952 : Nat) w (by omega)
      rw [hxf] at R
      unfold fv at Cs
      rw [hxf] at Cs
      obtain ⟨r0, b, Sq, Ev, hr, hb0, hb1⟩ := ev_both (crv xf).val (val_lt _)
      have hxi : ((n % 2305843009213693952 : Nat) : Int) < 2305843009213693951 := by omega
      cases b with
      | false =>
        obtain ⟨-, hno⟩ := hb0 rfl
        refine ⟨none, fun w => getS_no s n _ _ _ w h81 hxt hn0 hxi L R Sq, fun w => getI_of s n 0 0 true false w h81 LI fun w => ?_, fun p hp => (by cases hp), fun p hp hne hs => ?_⟩
        · by_cases hq1 : n / 4611686018427387904 = 1
          · rw [hq1] at hq
            exact powI_no n _ _ _ w hn0 hxt hq E Cs Ev
          · exact powI_mark n _ _ _ w hn0 hxt hq hqw (by simp; omega) E
        · exfalso
          obtain ⟨X, Y, rfl, h1, -⟩ := hpn p hne hs
          have hX : X = xf := Fin.ext (h1.symm.trans hxf.symm)
          subst hX
          have hY : Y * Y = crv X := hp
          exact hno Y.val (by rw [← Fin.val_mul, hY])
      | true =>
        obtain ⟨he, hsq⟩ := hb1 rfl
        obtain ⟨rf, hrf⟩ : ∃ rf : Fp, rf.val = r0 := ⟨⟨r0, hr⟩, rfl⟩
        rw [← hrf] at he hsq Sq Ev
        have hon : on (some (xf, rf)) := by
          show rf * rf = crv xf
          exact Fin.ext (by rw [Fin.val_mul]; exact hsq)
        have hne0 := y_ne hon
        have hon2 : on (some (xf, -rf)) := ng_on hon
        have ho := neg_odd hne0 he
        have P1 := putS_any xf.val rf.val false
        have N1 := negS_any xf.val rf.val false
        have P2 := putS_any xf.val (-rf).val false
        rw [asPt_some (toPt_self hon)] at P1 N1
        rw [asPt_some (toPt_self hon2)] at P2
        rw [hxf] at P1 N1 P2
        have hp1 := putN_parts xf rf
        have hp2 := putN_parts xf (-rf)
        rw [hxf, he] at hp1
        rw [hxf, ho] at hp2
        have N1' : ∀ w, Calls Tryz.prog 46 #[.agg #[.int .u64 ((n % 2305843009213693952 : Nat) : Int), .int .u64 (rf.val : Int), .bool false]] w fun e w' => e = .returned (.agg #[.int .u64 ((n % 2305843009213693952 : Nat) : Int), .int .u64 ((-rf).val : Int), .bool false]) ∧ Below w.heap.size w w' := by
          intro w
          have := N1 w
          rw [show ptW (ng (some (xf, rf))) = .agg #[.int .u64 (xf.val : Int), .int .u64 ((-rf).val : Int), .bool false] from rfl, hxf] at this
          exact this
        by_cases c2 : n / 2305843009213693952 = 2
        · have es : strOfNums (be8 (putN (some (xf, rf)) : Nat)) = s := (hstr _ (putN_lt _)).2 (by omega)
          rw [es] at P1
          have hq1 : n / 4611686018427387904 = 1 := by omega
          rw [hq1] at hq
          rw [c2] at hm
          refine ⟨some (some (xf, rf)), fun w => ?_, fun w => ?_, fun p hp => ?_, fun p hp hne hs => ?_⟩
          · have := getS_even s n _ _ _ w h81 hxt hn0 hxi L R Sq P1
            rw [← hxf] at this
            exact this
          · have := getI_of s n _ _ false true w h81 LI fun w => powI_even n _ _ _ _ w hn0 hxt hq hm rfl E Cs Ev
            rw [← hxf] at this
            exact this
          · cases hp; exact ⟨hon, (by intro e; cases e), es⟩
          · obtain ⟨X, Y, rfl, h1, h2⟩ := hpn p hne hs
            have hX : X = xf := Fin.ext (h1.symm.trans hxf.symm)
            subst hX
            rcases same_x hp hon with rfl | h
            · rfl
            · exfalso
              have : Y = -rf := by grobner
              rw [this, ho] at h2
              omega
        · have ns1 : strOfNums (be8 (putN (some (xf, rf)) : Nat)) ≠ s := fun e => by
            have := (hstr _ (putN_lt _)).1 e
            rw [this] at hp1; omega
          by_cases c3 : n / 2305843009213693952 = 3
          · have es : strOfNums (be8 (putN (some (xf, -rf)) : Nat)) = s := (hstr _ (putN_lt _)).2 (by omega)
            rw [es] at P2
            have hq1 : n / 4611686018427387904 = 1 := by omega
            rw [hq1] at hq
            rw [c3] at hm
            have Ng := ngV rf
            rw [show (0 : Fp) - rf = -rf by grobner] at Ng
            unfold fv at Ng
            refine ⟨some (some (xf, -rf)), fun w => ?_, fun w => ?_, fun p hp => ?_, fun p hp hne hs => ?_⟩
            · have := getS_odd s _ s n _ _ _ _ _ _ true w h81 hxt hn0 hxi (str_ne ns1) (by simp) L R Sq P1 N1' P2
              rw [← hxf] at this
              exact this
            · have := getI_of s n _ _ false true w h81 LI fun w => powI_odd n _ _ _ _ _ w hn0 hxt hq hm rfl E Cs Ev Ng
              rw [← hxf] at this
              exact this
            · cases hp; exact ⟨hon2, (by intro e; cases e), es⟩
            · obtain ⟨X, Y, rfl, h1, h2⟩ := hpn p hne hs
              have hX : X = xf := Fin.ext (h1.symm.trans hxf.symm)
              subst hX
              rcases same_x hp hon with rfl | h
              · exfalso
                omega
              · have : Y = -rf := by grobner
                rw [this]
          · have ns2 : strOfNums (be8 (putN (some (xf, -rf)) : Nat)) ≠ s := fun e => by
              have := (hstr _ (putN_lt _)).1 e
              rw [this] at hp2; omega
            refine ⟨none, fun w => ?_, fun w => getI_of s n 0 0 true false w h81 LI fun w => powI_mark n _ _ _ w hn0 hxt hq hqw (by simp; omega) E, fun p hp => (by cases hp), fun p hp hne hs => ?_⟩
            · exact getS_odd s _ _ n _ _ _ _ _ _ false w h81 hxt hn0 hxi (str_ne ns1) (str_ne ns2) L R Sq P1 N1' P2
            · exfalso
              obtain ⟨X, Y, rfl, -, h2⟩ := hpn p hne hs
              have : Y.val % 2 < 2 := Nat.mod_lt _ (by decide)
              omega
    · have E := fun w => exP_more (n % 2305843009213693952 : Nat) w (by omega)
      refine ⟨none, fun w => getS_big s n _ w h81 hxt hn0 (by omega) L, fun w => getI_of s n 0 0 true false w h81 LI fun w => powI_big n _ _ w hn0 hxt E, fun p hp => (by cases hp), fun p hp hne hs => ?_⟩
      exfalso
      obtain ⟨X, Y, rfl, h1, -⟩ := hpn p hne hs
      have := val_lt X
      omega
  · have h81 : ((s.size : Int) == 8) = false := by simp; omega
    refine ⟨none, fun w => getS_len s w h81, fun w => getI_len s w h81, fun p hp => (by cases hp), fun p hp hne hs => ?_⟩
    exact absurd (by rw [← hs]; exact size8 _) h8
end Go.Proofs.YtdaobioomoajfaaGreat
namespace Go.Proofs.YtdaobioomoajfaaGreat
open Go.RowKit M
noncomputable def gp (s : ByteArray) : Option Pt := Classical.choose (get_any s)
theorem gp_is (s : ByteArray) : GetIs s (gp s) := Classical.choose_spec (get_any s)
theorem gpI (s : ByteArray) (w : World) : Calls Tryz.prog 104 #[.string s] w fun e w' => e = .returned (.tuple #[ptW ((gp s).getD none), .bool (gp s).isSome]) ∧ Below w.heap.size w w' := (gp_is s).2.1 w
theorem gpS (s : ByteArray) (w : World) : Calls Tryz.prog 37 #[.string s] w fun e w' => e = .returned (.tuple #[ptW ((gp s).getD none), .bool (gp s).isSome]) ∧ Below w.heap.size w w' := (gp_is s).1 w
def ptX (p : Pt) : ByteArray := strOfNums (be8 (putN p : Nat))
theorem ptX_size (p : Pt) : (ptX p).size = 8 := size8 _
theorem gp_some {s : ByteArray} {p : Pt} (h : gp s = some p) : on p ∧ p ≠ none ∧ ptX p = s := (gp_is s).2.2.1 p h
theorem gp_of {p : Pt} (h : on p) (h0 : p ≠ none) : gp (ptX p) = some p := (gp_is _).2.2.2 p h h0 rfl
end Go.Proofs.YtdaobioomoajfaaGreat
namespace Go.Proofs.YtdaobioomoajfaaGreat
open Go.RowKit
theorem conv2 (w : World) (a b : Int) : (convert 22 9 (.slice (some ⟨w.heap.size, 0, none⟩) 2 2)).run Tryz.prog (w.alloc (Obj.cells #[.int .u8 a, .int .u8 b] 5)) = .ok (.string (strOfNums [a, b])) (w.alloc (Obj.cells #[.int .u8 a, .int .u8 b] 5)) :=
  run_convert_bytes_arg (P := Tryz.prog) (w.alloc (Obj.cells #[.int .u8 a, .int .u8 b] 5)) 22 5 Tryz.underlying22 Tryz.underlying5 w.heap.size 0 2 2 [a, b] rfl (fun i hi => by
    have hh := heap_alloc_new w (Obj.cells #[.int .u8 a, .int .u8 b] 5)
    generalize w.alloc (Obj.cells #[.int .u8 a, .int .u8 b] 5) = W at *
    rcases (show i = 0 ∨ i = 1 by omega) with rfl | rfl
    · simp [World.cell?, hh]
    · simp [World.cell?, hh]) 9 Tryz.underlying9
def sizB (s : ByteArray) : ByteArray := strOfNums [((s.size / 256 % 256 : Nat) : Int), ((s.size % 256 : Nat) : Int)] ++ s
theorem sizB_size (s : ByteArray) : (sizB s).size = s.size + 2 := by
  unfold sizB
  rw [ByteArray.size_append, strOfNums_size]
  simp only [List.length_cons, List.length_nil]
  omega
def numB (i : Nat) : ByteArray := strOfNums [((i / 256 % 256 : Nat) : Int), ((i % 256 : Nat) : Int)]
theorem numB_size (i : Nat) : (numB i).size = 2 := by unfold numB; rw [strOfNums_size]; rfl
end Go.Proofs.YtdaobioomoajfaaGreat
namespace Go.Proofs.YtdaobioomoajfaaGreat
open Go.RowKit M
inductive Lt where
  | u | e | o | n | b | m | c
deriving DecidableEq
structure Msg where
  kind : Int
  user : ByteArray := ⟨#[]⟩
  el : Nat × Nat × Bool := (0, 0, false)
  ot : Nat × Nat × Bool := (0, 0, false)
  nonce : ByteArray := ⟨#[]⟩
  box : ByteArray := ⟨#[]⟩
  mac : ByteArray := ⟨#[]⟩
  code : Int := 0
deriving DecidableEq
def fldsN : Nat → List Lt
  | 1 => [.u, .e]
  | 2 => [.e]
  | 3 => [.u, .o, .b]
  | 4 => [.u, .e, .o, .n]
  | 5 => [.e, .o, .n, .b, .m]
  | 6 => [.m]
  | 8 => [.c]
  | _ => []
def kindB (k : Int) : Bool := decide (1 ≤ k ∧ k ≤ 8)
def flds (k : Int) : List Lt := if kindB k then fldsN k.toNat else []
noncomputable def elM (t : Nat × Nat × Bool) : Bool := (toPt t.1 t.2.1 t.2.2).isSome && !t.2.2
noncomputable def ptM (t : Nat × Nat × Bool) : ByteArray := ptX (asPt t.1 t.2.1 t.2.2)
def tri : Pt → Nat × Nat × Bool
  | none => (0, 0, true)
  | some (X, Y) => (X.val, Y.val, false)
def byB (k : Int) : ByteArray := strOfNums [k % 256]
noncomputable def fld (m : Msg) : Lt → ByteArray
  | .u => sizB m.user
  | .e => ptM m.el
  | .o => ptM m.ot
  | .n => m.nonce
  | .b => m.box
  | .m => m.mac
  | .c => byB m.code
noncomputable def fok (m : Msg) : Lt → Bool
  | .u => nameB m.user
  | .e => elM m.el
  | .o => elM m.ot
  | .n => decide (m.nonce.size = 16)
  | .b => decide (m.box.size = 48)
  | .m => decide (m.mac.size = 32)
  | .c => decide (1 ≤ m.code ∧ m.code ≤ 7)
def wo (m : Msg) : Lt → Msg
  | .u => { m with user := ⟨#[]⟩ }
  | .e => { m with el := (0, 0, false) }
  | .o => { m with ot := (0, 0, false) }
  | .n => { m with nonce := ⟨#[]⟩ }
  | .b => { m with box := ⟨#[]⟩ }
  | .m => { m with mac := ⟨#[]⟩ }
  | .c => { m with code := 0 }
def cp (m : Msg) (m0 : Msg) : Lt → Msg
  | .u => { m0 with user := m.user }
  | .e => { m0 with el := m.el }
  | .o => { m0 with ot := m.ot }
  | .n => { m0 with nonce := m.nonce }
  | .b => { m0 with box := m.box }
  | .m => { m0 with mac := m.mac }
  | .c => { m0 with code := m.code }
noncomputable def cat (m : Msg) : List Lt → ByteArray
  | [] => ⟨#[]⟩
  | f :: l => fld m f ++ cat m l
noncomputable def okM (m : Msg) : Bool := kindB m.kind && (flds m.kind).all (fok m) && decide ((flds m.kind).foldl wo m = { kind := m.kind })
noncomputable def putM (m : Msg) : ByteArray := if okM m then byB m.kind ++ cat m (flds m.kind) else ⟨#[]⟩
structure Rd where
  m : Msg
  rest : ByteArray
  bad : Bool
def Rd.cut (s : Rd) (n : Nat) : ByteArray × Rd := if s.rest.size < n then (⟨#[]⟩, { s with bad := true }) else (s.rest.extract 0 n, { s with rest := s.rest.extract n s.rest.size })
noncomputable def Rd.step (s : Rd) : Lt → Rd
  | .u => { ((s.cut 2).2.cut (numL (byt (s.cut 2).1))).2 with m := { s.m with user := ((s.cut 2).2.cut (numL (byt (s.cut 2).1))).1 }, bad := ((s.cut 2).2.cut (numL (byt (s.cut 2).1))).2.bad || !nameB ((s.cut 2).2.cut (numL (byt (s.cut 2).1))).1 }
  | .e => { (s.cut 8).2 with m := { s.m with el := tri ((gp (s.cut 8).1).getD none) }, bad := (s.cut 8).2.bad || !(gp (s.cut 8).1).isSome }
  | .o => { (s.cut 8).2 with m := { s.m with ot := tri ((gp (s.cut 8).1).getD none) }, bad := (s.cut 8).2.bad || !(gp (s.cut 8).1).isSome }
  | .n => { (s.cut 16).2 with m := { s.m with nonce := (s.cut 16).1 } }
  | .b => { (s.cut 48).2 with m := { s.m with box := (s.cut 48).1 } }
  | .m => { (s.cut 32).2 with m := { s.m with mac := (s.cut 32).1 } }
  | .c => { (s.cut 1).2 with m := { s.m with code := (numL (byt (s.cut 1).1) : Nat) }, bad := (s.cut 1).2.bad || !decide (1 ≤ numL (byt (s.cut 1).1) ∧ numL (byt (s.cut 1).1) ≤ 7) }
def Rd.first (s : ByteArray) : Rd := { ((Rd.mk { kind := 0 } s false).cut 1).2 with m := { kind := (numL (byt ((Rd.mk { kind := 0 } s false).cut 1).1) : Nat) } }
noncomputable def Rd.last (s : ByteArray) : Rd := (flds (Rd.first s).m.kind).foldl Rd.step (Rd.first s)
noncomputable def getM (s : ByteArray) : Option Msg := if kindB (Rd.first s).m.kind && !(Rd.last s).bad && decide ((Rd.last s).rest = ⟨#[]⟩) then some (Rd.last s).m else none
section bytes
theorem ex_all (s : ByteArray) (n : Nat) (h : n ≤ s.size) : s.extract 0 n ++ s.extract n s.size = s := by
  rw [ByteArray.extract_append_extract]
  have e1 : min 0 n = 0 := by omega
  have e2 : max n s.size = s.size := by omega
  simp [e2]
theorem ex_l (a r : ByteArray) : (a ++ r).extract 0 a.size = a := by
  rw [ByteArray.extract_append_eq_left rfl]
theorem ex_r (a r : ByteArray) : (a ++ r).extract a.size (a ++ r).size = r := by
  rw [ByteArray.extract_append_eq_right rfl (by rw [ByteArray.size_append])]
theorem app0 (s : ByteArray) : s ++ (⟨#[]⟩ : ByteArray) = s := ByteArray.append_empty
theorem app0l (s : ByteArray) : (⟨#[]⟩ : ByteArray) ++ s = s := ByteArray.empty_append
theorem ex_size (s : ByteArray) (n : Nat) (h : n ≤ s.size) : (s.extract 0 n).size = n := by
  rw [ByteArray.size_extract]; omega
theorem num1 (a : ByteArray) (h : a.size = 1) : byB (numL (byt a) : Nat) = a ∧ numL (byt a) < 256 := by
  obtain ⟨⟨l⟩⟩ := a
  match l, h with
  | [x], _ =>
    have hx := x.toNat_lt
    have e : numL (byt ⟨⟨[x]⟩⟩) = x.toNat := by simp [numL, byt]
    rw [e]
    refine ⟨byt_inj ?_, hx⟩
    unfold byB
    rw [byt_str _ (by intro y hy; rw [List.mem_singleton] at hy; omega)]
    simp only [byt, List.map_cons, List.map_nil, List.cons.injEq, and_true]
    omega
theorem num2 (a : ByteArray) (h : a.size = 2) : numB (numL (byt a)) = a ∧ numL (byt a) < 65536 := by
  obtain ⟨⟨l⟩⟩ := a
  match l, h with
  | [x, y], _ =>
    have hx := x.toNat_lt
    have hy := y.toNat_lt
    have e : numL (byt ⟨⟨[x, y]⟩⟩) = x.toNat * 256 + y.toNat := by simp [numL, byt]
    rw [e]
    refine ⟨byt_inj ?_, by omega⟩
    unfold numB
    rw [byt_str _ (by intro z hz; simp only [List.mem_cons, List.not_mem_nil, or_false] at hz; omega)]
    simp only [byt, List.map_cons, List.map_nil, List.cons.injEq, and_true]
    omega
theorem num1_of (k : Int) (h0 : 0 ≤ k) (h : k < 256) : (byB k).size = 1 ∧ ((numL (byt (byB k)) : Nat) : Int) = k := by
  unfold byB
  refine ⟨by rw [strOfNums_size]; rfl, ?_⟩
  rw [byt_str _ (by intro y hy; rw [List.mem_singleton] at hy; omega)]
  simp only [numL, List.foldl]
  omega
theorem num2_of (k : Nat) (h : k < 65536) : numL (byt (numB k)) = k := by
  unfold numB
  rw [byt_str _ (by intro z hz; simp only [List.mem_cons, List.not_mem_nil, or_false] at hz; omega)]
  simp only [numL, List.foldl]
  omega
end bytes
section points
theorem tri_self {p : Pt} (h : on p) : toPt (tri p).1 (tri p).2.1 (tri p).2.2 = some p := by
  rcases p with _ | ⟨X, Y⟩
  · simp [toPt, tri]
  · exact toPt_self h
theorem tri_of {t : Nat × Nat × Bool} {p : Pt} (h : toPt t.1 t.2.1 t.2.2 = some p) : tri p = t := by
  obtain ⟨x, y, b⟩ := t
  have := toPt_W h
  rw [ptW_eq] at this
  rcases p with _ | ⟨X, Y⟩
  · simp_all [tri, px, py, pb]
  · simp only [px, py, pb, Value.agg.injEq, Array.mk.injEq, List.cons.injEq, Value.int.injEq, Value.bool.injEq, true_and, and_true] at this
    obtain ⟨h1, h2, rfl⟩ := this
    have e1 : fv X = (X.val : Int) := rfl
    have e2 : fv Y = (Y.val : Int) := rfl
    simp only [tri, Prod.mk.injEq, and_true]
    omega
theorem elM_of {t : Nat × Nat × Bool} (h : elM t = true) : ∃ p, toPt t.1 t.2.1 t.2.2 = some p ∧ p ≠ none ∧ on p ∧ ptM t = ptX p ∧ tri p = t := by
  unfold elM at h
  rw [Bool.and_eq_true] at h
  obtain ⟨h1, h2⟩ := h
  obtain ⟨p, hp⟩ := Option.isSome_iff_exists.1 h1
  have ht := tri_of hp
  refine ⟨p, hp, ?_, toPt_on hp, ?_, ht⟩
  · rintro rfl
    rw [← ht] at h2
    cases h2
  · unfold ptM
    rw [asPt_some hp]
theorem elM_tri {p : Pt} (h : on p) (h0 : p ≠ none) : elM (tri p) = true ∧ ptM (tri p) = ptX p := by
  have e := tri_self h
  refine ⟨?_, by unfold ptM; rw [asPt_some e]⟩
  unfold elM
  rw [e]
  rcases p with _ | ⟨X, Y⟩
  · exact absurd rfl h0
  · rfl
end points
section letters
theorem cut_ok {s : Rd} {n : Nat} (h : (s.cut n).2.bad = false) : s.bad = false ∧ n ≤ s.rest.size ∧ (s.cut n).1 = s.rest.extract 0 n ∧ (s.cut n).1.size = n ∧ (s.cut n).2.rest = s.rest.extract n s.rest.size ∧ s.rest = (s.cut n).1 ++ (s.cut n).2.rest := by
  unfold Rd.cut at *
  by_cases hn : s.rest.size < n
  · rw [if_pos hn] at h; cases h
  · rw [if_neg hn] at h
    simp only [if_neg hn]
    exact ⟨h, by omega, trivial, ex_size _ _ (by omega), trivial, (ex_all _ _ (by omega)).symm⟩
theorem cut_of (m : Msg) (a r : ByteArray) (fl : Bool) (n : Nat) (h : a.size = n) : (Rd.mk m (a ++ r) fl).cut n = (a, ⟨m, r, fl⟩) := by
  subst h
  unfold Rd.cut
  have : ¬ (a ++ r).size < a.size := by rw [ByteArray.size_append]; omega
  simp only [if_neg this, ex_l, ex_r]
theorem step_inv {m0 m1 : Msg} {s r : ByteArray} {fl : Bool} {f : Lt} (h : (Rd.mk m0 s fl).step f = ⟨m1, r, false⟩) : fl = false ∧ s = fld m1 f ++ r ∧ fok m1 f = true ∧ m1 = cp m1 m0 f := by
  cases f with
  | u =>
    unfold Rd.step at h
    simp only [Rd.mk.injEq, Bool.or_eq_false_iff, Bool.not_eq_false'] at h
    obtain ⟨rfl, rfl, h2, h3⟩ := h
    obtain ⟨g1, g2, g3, g4, g5, g6⟩ := cut_ok h2
    obtain ⟨k1, k2, k3, k4, k5, k6⟩ := cut_ok g1
    obtain ⟨n1, n2⟩ := num2 _ k4
    refine ⟨k1, ?_, h3, rfl⟩
    show s = sizB _ ++ _
    unfold sizB
    show s = numB _ ++ _ ++ _
    simp only
    rw [g4, n1, ByteArray.append_assoc, ← g6]
    exact k6
  | e =>
    unfold Rd.step at h
    simp only [Rd.mk.injEq, Bool.or_eq_false_iff, Bool.not_eq_false'] at h
    obtain ⟨rfl, rfl, h2, h3⟩ := h
    obtain ⟨k1, k2, k3, k4, k5, k6⟩ := cut_ok h2
    obtain ⟨p, hp⟩ := Option.isSome_iff_exists.1 h3
    obtain ⟨p1, p2, p3⟩ := gp_some hp
    obtain ⟨q1, q2⟩ := elM_tri p1 p2
    refine ⟨k1, ?_, ?_, rfl⟩
    · show s = ptM _ ++ _
      simp only [hp, Option.getD_some]
      rw [q2, p3]
      exact k6
    · show elM _ = true
      simp only [hp, Option.getD_some]
      exact q1
  | o =>
    unfold Rd.step at h
    simp only [Rd.mk.injEq, Bool.or_eq_false_iff, Bool.not_eq_false'] at h
    obtain ⟨rfl, rfl, h2, h3⟩ := h
    obtain ⟨k1, k2, k3, k4, k5, k6⟩ := cut_ok h2
    obtain ⟨p, hp⟩ := Option.isSome_iff_exists.1 h3
    obtain ⟨p1, p2, p3⟩ := gp_some hp
    obtain ⟨q1, q2⟩ := elM_tri p1 p2
    refine ⟨k1, ?_, ?_, rfl⟩
    · show s = ptM _ ++ _
      simp only [hp, Option.getD_some]
      rw [q2, p3]
      exact k6
    · show elM _ = true
      simp only [hp, Option.getD_some]
      exact q1
  | n =>
    unfold Rd.step at h
    simp only [Rd.mk.injEq] at h
    obtain ⟨rfl, rfl, h2⟩ := h
    obtain ⟨k1, k2, k3, k4, k5, k6⟩ := cut_ok h2
    exact ⟨k1, k6, decide_eq_true k4, rfl⟩
  | b =>
    unfold Rd.step at h
    simp only [Rd.mk.injEq] at h
    obtain ⟨rfl, rfl, h2⟩ := h
    obtain ⟨k1, k2, k3, k4, k5, k6⟩ := cut_ok h2
    exact ⟨k1, k6, decide_eq_true k4, rfl⟩
  | m =>
    unfold Rd.step at h
    simp only [Rd.mk.injEq] at h
    obtain ⟨rfl, rfl, h2⟩ := h
    obtain ⟨k1, k2, k3, k4, k5, k6⟩ := cut_ok h2
    exact ⟨k1, k6, decide_eq_true k4, rfl⟩
  | c =>
    unfold Rd.step at h
    simp only [Rd.mk.injEq, Bool.or_eq_false_iff, Bool.not_eq_false', decide_eq_true_eq] at h
    obtain ⟨rfl, rfl, h2, h3⟩ := h
    obtain ⟨k1, k2, k3, k4, k5, k6⟩ := cut_ok h2
    obtain ⟨n1, n2⟩ := num1 _ k4
    refine ⟨k1, ?_, ?_, rfl⟩
    · show s = byB _ ++ _
      simp only
      rw [n1]
      exact k6
    · show decide _ = true
      rw [decide_eq_true_eq]
      simp only
      omega
theorem step_fld {m m0 : Msg} {f : Lt} (h : fok m f = true) (r : ByteArray) : (Rd.mk m0 (fld m f ++ r) false).step f = ⟨cp m m0 f, r, false⟩ := by
  cases f with
  | u =>
    have hn : nameB m.user = true := h
    have h1 := hn
    unfold nameB at h1
    rw [decide_eq_true_eq] at h1
    show (Rd.mk m0 (numB m.user.size ++ m.user ++ r) false).step .u = _
    have c1 := cut_of m0 (numB m.user.size) (m.user ++ r) false 2 (numB_size _)
    have c2 := cut_of m0 m.user r false m.user.size rfl
    rw [ByteArray.append_assoc]
    simp only [Rd.step, c1, num2_of _ (show m.user.size < 65536 by omega), c2, hn]
    rfl
  | e =>
    obtain ⟨p, h1, h2, h3, h4, h5⟩ := elM_of (show elM m.el = true from h)
    show (Rd.mk m0 (ptM m.el ++ r) false).step .e = _
    rw [h4]
    simp only [Rd.step, cut_of m0 (ptX p) r false 8 (ptX_size _), gp_of h3 h2, Option.getD_some, h5]
    rfl
  | o =>
    obtain ⟨p, h1, h2, h3, h4, h5⟩ := elM_of (show elM m.ot = true from h)
    show (Rd.mk m0 (ptM m.ot ++ r) false).step .o = _
    rw [h4]
    simp only [Rd.step, cut_of m0 (ptX p) r false 8 (ptX_size _), gp_of h3 h2, Option.getD_some, h5]
    rfl
  | n =>
    show (Rd.mk m0 (m.nonce ++ r) false).step .n = _
    simp only [Rd.step, cut_of m0 m.nonce r false 16 (of_decide_eq_true h)]
    rfl
  | b =>
    show (Rd.mk m0 (m.box ++ r) false).step .b = _
    simp only [Rd.step, cut_of m0 m.box r false 48 (of_decide_eq_true h)]
    rfl
  | m =>
    show (Rd.mk m0 (m.mac ++ r) false).step .m = _
    simp only [Rd.step, cut_of m0 m.mac r false 32 (of_decide_eq_true h)]
    rfl
  | c =>
    have hn : 1 ≤ m.code ∧ m.code ≤ 7 := of_decide_eq_true h
    show (Rd.mk m0 (byB m.code ++ r) false).step .c = _
    obtain ⟨n1, n2⟩ := num1_of m.code (by omega) (by omega)
    have n3 : 1 ≤ numL (byt (byB m.code)) ∧ numL (byt (byB m.code)) ≤ 7 := by omega
    simp only [Rd.step, cut_of m0 (byB m.code) r false 1 n1, n2, decide_eq_true n3]
    rfl
end letters
section whole
theorem fld_cp (a b : Msg) (f g : Lt) (h : f ≠ g) : fld (cp a b g) f = fld b f ∧ fok (cp a b g) f = fok b f := by
  cases f <;> cases g <;> first | exact absurd rfl h | exact ⟨rfl, rfl⟩
theorem fld_cps (a : Msg) (f : Lt) : ∀ (l : List Lt) (b : Msg), f ∉ l → fld (l.foldl (cp a) b) f = fld b f ∧ fok (l.foldl (cp a) b) f = fok b f
  | [], b, _ => ⟨rfl, rfl⟩
  | g :: l, b, h => by
    rw [List.mem_cons, not_or] at h
    obtain ⟨h1, h2⟩ := fld_cps a f l (cp a b g) h.2
    obtain ⟨h3, h4⟩ := fld_cp a b f g h.1
    exact ⟨h1.trans h3, h2.trans h4⟩
theorem steps_inv : ∀ (l : List Lt), l.Nodup → ∀ {m0 m1 : Msg} {s r : ByteArray} {fl : Bool}, l.foldl Rd.step ⟨m0, s, fl⟩ = ⟨m1, r, false⟩ → fl = false ∧ s = cat m1 l ++ r ∧ l.all (fok m1) = true ∧ m1 = l.foldl (cp m1) m0
  | [], _, m0, m1, s, r, fl, h => by
    simp only [List.foldl_nil, Rd.mk.injEq] at h
    obtain ⟨rfl, rfl, rfl⟩ := h
    exact ⟨rfl, (app0l _).symm, rfl, rfl⟩
  | f :: l, hd, m0, m1, s, r, fl, h => by
    rw [List.nodup_cons] at hd
    rw [List.foldl_cons] at h
    obtain ⟨m2, s2, b2, e2⟩ : ∃ m2 s2 b2, (Rd.mk m0 s fl).step f = ⟨m2, s2, b2⟩ := ⟨_, _, _, rfl⟩
    rw [e2] at h
    obtain ⟨rfl, h2, h3, h4⟩ := steps_inv l hd.2 h
    obtain ⟨rfl, k2, k3, k4⟩ := step_inv e2
    obtain ⟨q1, q2⟩ := fld_cps m1 f l m2 hd.1
    rw [← h4] at q1 q2
    refine ⟨rfl, ?_, ?_, ?_⟩
    · rw [k2, h2, cat, q1, ByteArray.append_assoc]
    · rw [List.all_cons, q2, k3, h3]; rfl
    · rw [List.foldl_cons]
      have e : cp m1 m0 f = m2 := by
        rw [k4]
        have : cp m1 m0 f = cp m2 m0 f := by
          have z : ∀ (l : List Lt) (b : Msg), f ∉ l → cp (l.foldl (cp m1) b) m0 f = cp b m0 f := by
            intro l
            induction l with
            | nil => intro b _; rfl
            | cons g l ih =>
              intro b h
              rw [List.mem_cons, not_or] at h
              rw [List.foldl_cons, ih _ h.2]
              cases f <;> cases g <;> first | exact absurd rfl h.1 | rfl
          have := z l m2 hd.1
          rwa [← h4] at this
        rw [this, ← k4]
      rw [e]
      exact h4
theorem steps_cat (m : Msg) : ∀ (l : List Lt) (m0 : Msg) (r : ByteArray), l.all (fok m) = true → l.foldl Rd.step ⟨m0, cat m l ++ r, false⟩ = ⟨l.foldl (cp m) m0, r, false⟩
  | [], m0, r, _ => by rw [cat, app0l]; rfl
  | f :: l, m0, r, h => by
    rw [List.all_cons, Bool.and_eq_true] at h
    rw [List.foldl_cons, cat, ByteArray.append_assoc, step_fld h.1, steps_cat m l _ r h.2, List.foldl_cons]
theorem kind_cases {k : Int} (h : kindB k = true) : k = 1 ∨ k = 2 ∨ k = 3 ∨ k = 4 ∨ k = 5 ∨ k = 6 ∨ k = 7 ∨ k = 8 := by
  unfold kindB at h
  rw [decide_eq_true_eq] at h
  omega
theorem flds_nodup (k : Int) : (flds k).Nodup := by
  by_cases h : kindB k = true
  · rcases kind_cases h with rfl | rfl | rfl | rfl | rfl | rfl | rfl | rfl <;> decide
  · unfold flds; rw [if_neg h]; exact List.nodup_nil
theorem only_iff {m : Msg} (h : kindB m.kind = true) : (flds m.kind).foldl (cp m) { kind := m.kind } = m ↔ (flds m.kind).foldl wo m = { kind := m.kind } := by
  obtain ⟨k, u, e, o, n, b, c, d⟩ := m
  rcases kind_cases h with hk | hk | hk | hk | hk | hk | hk | hk <;> (simp only at hk; subst hk; simp [flds, kindB, fldsN, cp, wo, eq_comm])
theorem okM_iff {m : Msg} : okM m = true ↔ kindB m.kind = true ∧ (flds m.kind).all (fok m) = true ∧ (flds m.kind).foldl wo m = { kind := m.kind } := by
  unfold okM
  simp only [Bool.and_eq_true, decide_eq_true_eq, and_assoc]
theorem kb_lt {k : Int} (h : kindB k = true) : 0 ≤ k ∧ k < 256 := by
  unfold kindB at h
  rw [decide_eq_true_eq] at h
  omega
theorem getM_put {m : Msg} (h : okM m = true) : getM (putM m) = some m := by
  obtain ⟨h1, h2, h3⟩ := okM_iff.1 h
  obtain ⟨k1, k2⟩ := num1_of m.kind (kb_lt h1).1 (kb_lt h1).2
  have e1 : Rd.first (putM m) = ⟨{ kind := m.kind }, cat m (flds m.kind), false⟩ := by
    unfold Rd.first putM
    rw [if_pos h, cut_of _ _ _ _ 1 k1]
    simp only [k2]
  have e2 : Rd.last (putM m) = ⟨m, ⟨#[]⟩, false⟩ := by
    unfold Rd.last
    rw [e1]
    have := steps_cat m (flds m.kind) { kind := m.kind } ⟨#[]⟩ h2
    rw [(only_iff h1).2 h3] at this
    rw [← this]
    rw [app0]
  unfold getM
  rw [e1, e2]
  simp only [h1, Bool.not_false, Bool.and_self, decide_true, if_true]
theorem putM_get {s : ByteArray} {m : Msg} (h : getM s = some m) : okM m = true ∧ putM m = s := by
  unfold getM at h
  split at h
  · rename_i hc
    simp only [Bool.and_eq_true, Bool.not_eq_true', decide_eq_true_eq] at hc
    obtain ⟨⟨h1, h2⟩, h3⟩ := hc
    injection h with h
    obtain ⟨m0, r0, b0, e0⟩ : ∃ m0 r0 b0, Rd.first s = ⟨m0, r0, b0⟩ := ⟨_, _, _, rfl⟩
    have e1 : Rd.last s = ⟨m, ⟨#[]⟩, false⟩ := by
      obtain ⟨a, b, c, e⟩ : ∃ a b c, Rd.last s = ⟨a, b, c⟩ := ⟨_, _, _, rfl⟩
      rw [e] at h h2 h3 ⊢
      simp only at h h2 h3
      rw [h, h2, h3]
    have e2 := e1
    unfold Rd.last at e2
    rw [e0] at e2 h1
    obtain ⟨rfl, q2, q3, q4⟩ := steps_inv _ (flds_nodup _) e2
    have hf := e0
    unfold Rd.first at hf
    simp only [Rd.mk.injEq] at hf
    obtain ⟨f1, f2, f3⟩ := hf
    obtain ⟨c1, c2, c3, c4, c5, c6⟩ := cut_ok f3
    obtain ⟨n1, n2⟩ := num1 _ c4
    have hk : m.kind = m0.kind := by
      have z : ∀ (l : List Lt) (b : Msg), (l.foldl (cp m) b).kind = b.kind := by
        intro l
        induction l with
        | nil => intro b; rfl
        | cons g l ih => intro b; rw [List.foldl_cons, ih]; cases g <;> rfl
      rw [q4, z]
    have hm0 : m0 = { kind := m.kind } := by rw [hk, ← f1]
    simp only at h1 q2 q3 q4
    rw [← hk] at h1 q2 q3 q4
    have ok : okM m = true := okM_iff.2 ⟨h1, q3, (only_iff h1).1 (by rw [← hm0]; exact q4.symm)⟩
    refine ⟨ok, ?_⟩
    unfold putM
    rw [if_pos ok]
    have e3 : byB m.kind = ((Rd.mk { kind := 0 } s false).cut 1).1 := by
      rw [← n1, hk, ← f1]
    rw [e3, ← app0 (cat m (flds m.kind)), ← q2, ← f2]
    exact c6.symm
  · cases h
theorem putM_by (m : Msg) : putM m = if getM (byB m.kind ++ cat m (flds m.kind)) = some m then byB m.kind ++ cat m (flds m.kind) else ⟨#[]⟩ := by
  by_cases h : okM m = true
  · have e : putM m = byB m.kind ++ cat m (flds m.kind) := by unfold putM; rw [if_pos h]
    have := getM_put h
    rw [e] at this
    rw [if_pos this, e]
  · have e : putM m = ⟨#[]⟩ := by unfold putM; rw [if_neg h]
    rw [e, if_neg (fun h1 => h (putM_get h1).1)]
end whole
end Go.Proofs.YtdaobioomoajfaaGreat
