import Derived.Test.YtjmhmajfkdglnaaGreatDoorMrg18
import Derived.Test.YtjmhmajfkdglnaaGreatDoorMrg19
import Derived.Test.YtjmhmajfkdglnaaGreatDoorMrg15
namespace Go.Proofs.YtjmhmajfkdglnaaGreatDoor
open Go.RowKit M
set_option linter.unusedVariables false

theorem nt_none : ∀ k, nt k none = none
  | 0 => rfl
  | k + 1 => by rw [nt, nt_none k]; rfl
/-- the model's multiple, whatever the fields are -/
theorem timS_any (k x y : Nat) (b : Bool) (w : World) (hk : k < 18446744073709551616) :
    Calls Tryz.prog 37 #[.int .u64 k, .agg #[.int .u64 x, .int .u64 y, .bool b]] w fun e w' => e = .returned (ptW (nt k (asPt x y b))) ∧ Below w.heap.size w w' := by
  have O := onS_any x y b
  cases h : toPt x y b with
  | none =>
    rw [h] at O
    have := timS_no k x y b w O
    have e : asPt x y b = none := by unfold asPt; rw [h]; rfl
    rw [e, nt_none]; exact this
  | some p =>
    rw [h] at O
    have e := toPt_W h
    rw [ptW_eq] at e
    rw [e] at O ⊢
    rw [asPt_some h, ptW_eq]
    exact timS_yes k p w hk (toPt_on h) O

/-- the number of a point's text -/
def putN : Pt → Nat
  | none => 0
  | some (x, y) => x.val + 4611686018427387904 + 2305843009213693952 * (y.val % 2)
theorem putN_some (x y : Fp) : putN (some (x, y)) = x.val + 4611686018427387904 + 2305843009213693952 * (y.val % 2) := rfl
theorem putN_lt : ∀ p, putN p < 18446744073709551616
  | none => by decide
  | some (x, y) => by
    have hx := val_lt x
    have hy : y.val % 2 < 2 := Nat.mod_lt _ (by decide)
    rw [putN_some]
    generalize x.val = X at *
    generalize y.val % 2 = Z at *
    omega
set_option maxRecDepth 100000 in
theorem putS_inf (x y : Int) (w : World) :
    Calls Tryz.prog 75 #[.agg #[.int .u64 x, .int .u64 y, .bool true]] w fun e w' => e = .returned (.string (strOfNums (be8 (0 : Nat)))) ∧ Below w.heap.size w w' := by
  have L := fun w => wordS_any 0 w (by decide)
  go_enter Tryz.func75, Tryz.ntmps75
  go_wp2_with fail
  refine (L _).mono ?_
  rintro e w' ⟨rfl, hb⟩
  clear L
  go_wp2
  go_ret
  exact ⟨rfl, ((Below.refl _ w).alloc (Nat.le_refl _) _).trans (hb.mono (by simp))⟩
set_option maxRecDepth 100000 in
theorem putS_no (x y : Int) (w : World) (O : ∀ w, Calls Tryz.prog 76 #[.agg #[.int .u64 x, .int .u64 y, .bool false]] w fun e w' => e = .returned (.bool false) ∧ Below w.heap.size w w') :
    Calls Tryz.prog 75 #[.agg #[.int .u64 x, .int .u64 y, .bool false]] w fun e w' => e = .returned (.string (strOfNums (be8 (0 : Nat)))) ∧ Below w.heap.size w w' := by
  have L := fun w => wordS_any 0 w (by decide)
  go_enter Tryz.func75, Tryz.ntmps75
  go_wp2_with fail
  refine (O _).mono ?_
  rintro e w1 ⟨rfl, b1⟩
  go_wp2_with fail
  refine (L _).mono ?_
  rintro e w' ⟨rfl, hb⟩
  clear L
  go_wp2
  go_ret
  have b0 := ((Below.refl _ w).alloc (Nat.le_refl _) (Obj.cells #[.int .u64 x, .int .u64 y, .bool false] 28)).trans (b1.mono (by simp))
  exact ⟨rfl, b0.trans (hb.mono b0.size)⟩
set_option maxRecDepth 100000 in
theorem putS_yes (x y : Int) (n : Nat) (w : World) (hx0 : 0 ≤ x) (hx : x < 2305843009213693951) (hy0 : 0 ≤ y) (hn : (n : Int) = x + 4611686018427387904 + 2305843009213693952 * (y % 2))
    (O : ∀ w, Calls Tryz.prog 76 #[.agg #[.int .u64 x, .int .u64 y, .bool false]] w fun e w' => e = .returned (.bool true) ∧ Below w.heap.size w w') :
    Calls Tryz.prog 75 #[.agg #[.int .u64 x, .int .u64 y, .bool false]] w fun e w' => e = .returned (.string (strOfNums (be8 n))) ∧ Below w.heap.size w w' := by
  have L := fun w => wordS_any n w (by omega)
  rw [hn] at L ⊢
  clear hn
  go_enter Tryz.func75, Tryz.ntmps75
  go_wp2_with fail
  refine (O _).mono ?_
  rintro e w1 ⟨rfl, b1⟩
  have r0 := (R3.new w x y false).below b1 (by simp)
  have c0 := r0.c0
  have c1 := r0.c1
  go_wp2_with fail
  refine (L _).mono ?_
  rintro e w' ⟨rfl, hb⟩
  clear L
  go_wp2
  go_ret
  have b0 := ((Below.refl _ w).alloc (Nat.le_refl _) (Obj.cells #[.int .u64 x, .int .u64 y, .bool false] 28)).trans (b1.mono (by simp))
  exact ⟨rfl, b0.trans (hb.mono b0.size)⟩
/-- the model's text of a point -/
theorem putS_any (x y : Nat) (b : Bool) (w : World) :
    Calls Tryz.prog 75 #[.agg #[.int .u64 x, .int .u64 y, .bool b]] w fun e w' => e = .returned (.string (strOfNums (be8 (putN (asPt x y b) : Nat)))) ∧ Below w.heap.size w w' := by
  have O := onS_any x y b
  cases b with
  | true =>
    have e : asPt x y true = none := by
      unfold asPt toPt
      rw [if_pos rfl]
      split <;> rfl
    rw [e]
    exact putS_inf x y w
  | false =>
    cases h : toPt x y false with
    | none =>
      rw [h] at O
      have e : asPt x y false = none := by unfold asPt; rw [h]; rfl
      rw [e]
      exact putS_no x y w O
    | some p =>
      rw [h] at O
      have e := toPt_W h
      rw [asPt_some h]
      rcases p with _ | ⟨X, Y⟩
      · cases e
      · have e1 : (x : Int) = fv X ∧ (y : Int) = fv Y := by
          simp only [ptW] at e
          injection e with e
          injection e with e
          simpa using e
        have hX := val_lt X
        refine putS_yes x y (putN (some (X, Y))) w (by omega) ?_ (by omega) ?_ O
        · rw [e1.1]; unfold fv; omega
        · rw [e1.1, e1.2, putN_some]; unfold fv
          generalize X.val = A
          generalize Y.val = B
          omega
end Go.Proofs.YtjmhmajfkdglnaaGreatDoor

namespace Go.Proofs.YtjmhmajfkdglnaaGreatDoor
open Go.RowKit M
set_option linter.unusedVariables false

noncomputable def adPt (x y : Nat) (c : Bool) (u v : Nat) (d : Bool) : Pt := if (toPt x y c).isSome = true ∧ (toPt u v d).isSome = true then ad (asPt x y c) (asPt u v d) else none
theorem fields_of {x y : Nat} {c : Bool} {p : Pt} (h : toPt x y c = some p) : (x : Int) = px p ∧ (y : Int) = py p ∧ c = pb p := by
  have e := toPt_W h
  rw [ptW_eq] at e
  injection e with e
  injection e with e
  simpa using e
theorem toPt_self {X Y : Fp} (h : on (some (X, Y))) : toPt X.val Y.val false = some (some (X, Y)) := by
  unfold toPt
  rw [if_neg (by decide), dif_pos ⟨X.isLt, Y.isLt⟩]
  exact if_pos h
end Go.Proofs.YtjmhmajfkdglnaaGreatDoor

/-
  Proofs, purely: the texts that are hashed, the weights of a batch, weighted sums; slices of points in memory.
-/
namespace Go.Proofs.YtjmhmajfkdglnaaGreatDoor
open Go.RowKit M
set_option linter.unusedVariables false

theorem sizB_size (s : ByteArray) : (sizB s).size = s.size + 2 := by
  unfold sizB
  rw [ByteArray.size_append, strOfNums_size]
  simp only [List.length_cons, List.length_nil]
  omega
/-- a point's text -/
def ptB (p : Pt) : ByteArray := strOfNums (be8 (putN p : Nat))
theorem ptB_size (p : Pt) : (ptB p).size = 8 := by unfold ptB; rw [strOfNums_size]; rfl
/-- a number in two bytes -/
def numB (i : Nat) : ByteArray := strOfNums [((i / 256 % 256 : Nat) : Int), ((i % 256 : Nat) : Int)]
theorem numB_size (i : Nat) : (numB i).size = 2 := by unfold numB; rw [strOfNums_size]; rfl
def seedT (k : Nat) : ByteArray := tagB ⟨#[83, 101, 101, 100, 45]⟩ k
theorem seedT_size (k : Nat) (h : k < 3) : (seedT k).size = 17 := tagB_size _ k h
def seedM (k : Nat) (b : Pt) : ByteArray := sizB (ptB b) ++ sizB (seedT k)
def seedB (k : Nat) (b : Pt) : ByteArray := strOfNums (shaF (byt (seedM k b)))
def compB : ByteArray := ⟨#[67, 111, 109, 112, 111, 115, 105, 116, 101]⟩
def challB : ByteArray := ⟨#[67, 104, 97, 108, 108, 101, 110, 103, 101]⟩
def wgtT (k : Nat) (b : Pt) (i : Nat) (c d : Pt) : ByteArray := sizB (seedB k b) ++ numB i ++ sizB (ptB c) ++ sizB (ptB d) ++ compB
def wgt (k : Nat) (b : Pt) (i : Nat) (c d : Pt) : Nat := scaN (wgtT k b i c d) k
theorem scaN_lt (s : ByteArray) (k : Nat) : scaN s k < 2305843010818082053 := Nat.mod_lt _ (by decide)
/-- the weights of the first n pairs -/
def wgts (k : Nat) (b : Pt) (cs ds : List Pt) (n : Nat) : List Int := (List.range n).map fun i => ((wgt k b i (cs.getD i none) (ds.getD i none) : Nat) : Int)
theorem wgts_length (k : Nat) (b : Pt) (cs ds : List Pt) (n : Nat) : (wgts k b cs ds n).length = n := by simp [wgts]
theorem wgts_succ (k : Nat) (b : Pt) (cs ds : List Pt) (n : Nat) : wgts k b cs ds (n + 1) = wgts k b cs ds n ++ [((wgt k b n (cs.getD n none) (ds.getD n none) : Nat) : Int)] := by
  simp [wgts, List.range_succ]
theorem wgts_at (k : Nat) (b : Pt) (cs ds : List Pt) (n i : Nat) (h : i < n) : lk (wgts k b cs ds n) i = ((wgt k b i (cs.getD i none) (ds.getD i none) : Nat) : Int) := by
  unfold lk wgts
  rw [List.getD_eq_getElem?_getD, List.getElem?_map, List.getElem?_range h]
  rfl
theorem wgts_lt (k : Nat) (b : Pt) (cs ds : List Pt) (n : Nat) : ∀ x ∈ wgts k b cs ds n, 0 ≤ x ∧ x < 2305843010818082053 := by
  intro x hx
  unfold wgts at hx
  obtain ⟨i, -, rfl⟩ := List.mem_map.1 hx
  have := scaN_lt (wgtT k b i (cs.getD i none) (ds.getD i none)) k
  unfold wgt
  omega
/-- the weighted sum of the first n points -/
def mixTo (ws : List Int) (ps : List Pt) : Nat → Pt
  | 0 => none
  | n + 1 => ad (mixTo ws ps n) (nt (lk ws n).toNat (ps.getD n none))
theorem mixTo_on {ws : List Int} {ps : List Pt} (h : ∀ p ∈ ps, on p) : ∀ n, on (mixTo ws ps n)
  | 0 => trivial
  | n + 1 => by
    refine ad_on (mixTo_on h n) (nt_on ?_ _)
    rw [List.getD_eq_getElem?_getD]
    cases hn : ps[n]? with
    | none => trivial
    | some p => exact h p (List.mem_of_getElem? hn)
def chalT (b m z x y : Pt) : ByteArray := sizB (ptB b) ++ sizB (ptB m) ++ sizB (ptB z) ++ sizB (ptB x) ++ sizB (ptB y) ++ challB
def chal (k : Nat) (b m z x y : Pt) : Nat := scaN (chalT b m z x y) k
/-- a point's three fields -/
abbrev Tri := Nat × Nat × Bool
noncomputable def asT (t : Tri) : Pt := asPt t.1 t.2.1 t.2.2
noncomputable def onT (t : Tri) : Bool := (toPt t.1 t.2.1 t.2.2).isSome
theorem asT_on (t : Tri) : on (asT t) := asPt_on _ _ _
def triW (t : Tri) : Value := .agg #[.int .u64 (t.1 : Int), .int .u64 (t.2.1 : Int), .bool t.2.2]
theorem triW_of {t : Tri} (h : onT t = true) : triW t = ptW (asT t) := by
  unfold onT at h
  obtain ⟨p, hp⟩ := Option.isSome_iff_exists.1 h
  unfold triW asT
  rw [asPt_some hp]
  exact toPt_W hp
/-- a batch that is in order -/
noncomputable def batB (mode : Int) (a b : Tri) (cs ds : List Tri) : Bool := decide (0 ≤ mode ∧ mode ≤ 2) && onT a && onT b && decide (1 ≤ cs.length ∧ cs.length ≤ 200) && decide (cs.length = ds.length) && cs.all onT && ds.all onT
theorem batB_iff (mode : Int) (a b : Tri) (cs ds : List Tri) : batB mode a b cs ds = true ↔ (0 ≤ mode ∧ mode ≤ 2) ∧ onT a = true ∧ onT b = true ∧ (1 ≤ cs.length ∧ cs.length ≤ 200) ∧ cs.length = ds.length ∧ (∀ t ∈ cs, onT t = true) ∧ ∀ t ∈ ds, onT t = true := by
  unfold batB
  simp only [Bool.and_eq_true, decide_eq_true_eq, List.all_eq_true, and_assoc]

/-- points that lie in a row, three cells each -/
structure Pts (W : World) (g o : Nat) (L : List Tri) : Prop where
  lt : g < W.heap.size
  c0 : ∀ i (t : Tri), L[i]? = some t → W.cell? ⟨g, o + i * 3, none⟩ = some (.int .u64 (t.1 : Int))
  c1 : ∀ i (t : Tri), L[i]? = some t → W.cell? ⟨g, o + i * 3 + 1, none⟩ = some (.int .u64 (t.2.1 : Int))
  c2 : ∀ i (t : Tri), L[i]? = some t → W.cell? ⟨g, o + i * 3 + 2, none⟩ = some (.bool t.2.2)
theorem Pts.below {W W' : World} {g o : Nat} {L : List Tri} (h : Pts W g o L) {B : Nat} (hb : Below B W W') (hg : g < B) : Pts W' g o L :=
  have e : ∀ i, W'.cell? ⟨g, i, none⟩ = W.cell? ⟨g, i, none⟩ := fun i => World.cell?_of_block (w := W) (a := ⟨g, i, none⟩) (hb.block g hg)
  ⟨Nat.lt_of_lt_of_le h.lt hb.size, fun i t ht => (e _).trans (h.c0 i t ht), fun i t ht => (e _).trans (h.c1 i t ht), fun i t ht => (e _).trans (h.c2 i t ht)⟩
theorem Pts.keep {W W' : World} {g o : Nat} {L : List Tri} (h : Pts W g o L) (hb : Below W.heap.size W W') : Pts W' g o L := h.below hb h.lt
theorem Pts.drew {W : World} {g o : Nat} {L : List Tri} (h : Pts W g o L) : Pts W.drew g o L := ⟨h.lt, h.c0, h.c1, h.c2⟩
theorem Pts.alloc {W : World} {g o : Nat} {L : List Tri} (h : Pts W g o L) (ob : Obj) : Pts (W.alloc ob) g o L := h.keep ((Below.refl _ W).alloc (Nat.le_refl _) _)
end Go.Proofs.YtjmhmajfkdglnaaGreatDoor
