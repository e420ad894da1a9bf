import Derived.Test.YtjmhmajfkdglnaaGreatDoorMrg16
import Derived.Test.YtjmhmajfkdglnaaGreatDoorMrg17
import Derived.Test.YtjmhmajfkdglnaaGreatDoorMrg14
import Derived.Test.YtjmhmajfkdglnaaGreatDoorMrg11
import Derived.Test.YtjmhmajfkdglnaaGreatDoorMrg0
import Derived.Deep.RegionHeld3
set_option linter.unusedVariables false
set_option maxRecDepth 100000
set_option maxHeartbeats 16000000
namespace Go.Proofs.YtjmhmajfkdglnaaGreatDoor
open Go.RowKit M
theorem nt_none : ∀ k, nt k none = none
  | 0 => rfl
  | k + 1 => by rw [nt, nt_none k]; rfl
theorem timS_any (k x y : Nat) (b : Bool) (w : World) (hk : k < 18446744073709551616) :
    Calls Tryz.prog 37 #[.int .u64 k, .agg #[.int .u64 x, .int .u64 y, .bool b]] w fun e w' => e = .returned (ptW (nt k (asPt x y b))) ∧ Below w.heap.size w w' := by
  have O := onS_any x y b
  cases h : toPt x y b with
  | none =>
    rw [h] at O
    have := timS_no k x y b w O
    have e : asPt x y b = none := by unfold asPt; rw [h]; rfl
    rw [e, nt_none]; exact this
  | some p =>
    rw [h] at O
    have e := toPt_W h
    rw [ptW_eq] at e
    rw [e] at O ⊢
    rw [asPt_some h, ptW_eq]
    exact timS_yes k p w hk (toPt_on h) O
def putN : Pt → Nat
  | none => 0
  | some (x, y) => x.val + 4611686018427387904 + 2305843009213693952 * (y.val % 2)
theorem putN_some (x y : Fp) : putN (some (x, y)) = x.val + 4611686018427387904 + 2305843009213693952 * (y.val % 2) := rfl
theorem putN_lt : ∀ p, putN p < 18446744073709551616
  | none => by decide
  | some (x, y) => by
    have hx := val_lt x
    have hy : y.val % 2 < 2 := Nat.mod_lt _ (by decide)
    rw [putN_some]
    generalize x.val = X at *
    generalize y.val % 2 = Z at *
    omega
theorem putS_inf (x y : Int) (w : World) :
    Calls Tryz.prog 75 #[.agg #[.int .u64 x, .int .u64 y, .bool true]] w fun e w' => e = .returned (.string (strOfNums (be8 (0 : Nat)))) ∧ Below w.heap.size w w' := by
  have L := fun w => wordS_any 0 w (by decide)
  go_enter Tryz.func75, Tryz.ntmps75
  go_wp2_with fail
  refine (L _).mono ?_
  rintro e w' ⟨rfl, hb⟩
  clear L
  go_wp2
  go_ret
  exact ⟨rfl, ((Below.refl _ w).alloc (Nat.le_refl _) _).trans (hb.mono (by simp))⟩
theorem putS_no (x y : Int) (w : World) (O : ∀ w, Calls Tryz.prog 76 #[.agg #[.int .u64 x, .int .u64 y, .bool false]] w fun e w' => e = .returned (.bool false) ∧ Below w.heap.size w w') :
    Calls Tryz.prog 75 #[.agg #[.int .u64 x, .int .u64 y, .bool false]] w fun e w' => e = .returned (.string (strOfNums (be8 (0 : Nat)))) ∧ Below w.heap.size w w' := by
  have L := fun w => wordS_any 0 w (by decide)
  go_enter Tryz.func75, Tryz.ntmps75
  go_wp2_with fail
  refine (O _).mono ?_
  rintro e w1 ⟨rfl, b1⟩
  go_wp2_with fail
  refine (L _).mono ?_
  rintro e w' ⟨rfl, hb⟩
  clear L
  go_wp2
  go_ret
  have b0 := ((Below.refl _ w).alloc (Nat.le_refl _) (Obj.cells #[.int .u64 x, .int .u64 y, .bool false] 28)).trans (b1.mono (by simp))
  exact ⟨rfl, b0.trans (hb.mono b0.size)⟩
theorem putS_yes (x y : Int) (n : Nat) (w : World) (hx0 : 0 ≤ x) (hx : x < 2305843009213693951) (hy0 : 0 ≤ y) (hn : (n : Int) = x + 4611686018427387904 + 2305843009213693952 * (y % 2))
    (O : ∀ w, Calls Tryz.prog 76 #[.agg #[.int .u64 x, .int .u64 y, .bool false]] w fun e w' => e = .returned (.bool true) ∧ Below w.heap.size w w') :
    Calls Tryz.prog 75 #[.agg #[.int .u64 x, .int .u64 y, .bool false]] w fun e w' => e = .returned (.string (strOfNums (be8 n))) ∧ Below w.heap.size w w' := by
  have L := fun w => wordS_any n w (by omega)
  rw [hn] at L ⊢
  clear hn
  go_enter Tryz.func75, Tryz.ntmps75
  go_wp2_with fail
  refine (O _).mono ?_
  rintro e w1 ⟨rfl, b1⟩
  have r0 := (R3.new w x y false).below b1 (by simp)
  have c0 := r0.c0
  have c1 := r0.c1
  go_wp2_with fail
  refine (L _).mono ?_
  rintro e w' ⟨rfl, hb⟩
  clear L
  go_wp2
  go_ret
  have b0 := ((Below.refl _ w).alloc (Nat.le_refl _) (Obj.cells #[.int .u64 x, .int .u64 y, .bool false] 28)).trans (b1.mono (by simp))
  exact ⟨rfl, b0.trans (hb.mono b0.size)⟩
theorem putS_any (x y : Nat) (b : Bool) (w : World) :
    Calls Tryz.prog 75 #[.agg #[.int .u64 x, .int .u64 y, .bool b]] w fun e w' => e = .returned (.string (strOfNums (be8 (putN (asPt x y b) : Nat)))) ∧ Below w.heap.size w w' := by
  have O := onS_any x y b
  cases b with
  | true =>
    have e : asPt x y true = none := by
      unfold asPt toPt
      rw [if_pos rfl]
      split <;> rfl
    rw [e]
    exact putS_inf x y w
  | false =>
    cases h : toPt x y false with
    | none =>
      rw [h] at O
      have e : asPt x y false = none := by unfold asPt; rw [h]; rfl
      rw [e]
      exact putS_no x y w O
    | some p =>
      rw [h] at O
      have e := toPt_W h
      rw [asPt_some h]
      rcases p with _ | ⟨X, Y⟩
      · cases e
      · have e1 : (x : Int) = fv X ∧ (y : Int) = fv Y := by
          simp only [ptW] at e
          injection e with e
          injection e with e
          simpa using e
        have hX := val_lt X
        refine putS_yes x y (putN (some (X, Y))) w (by omega) ?_ (by omega) ?_ O
        · rw [e1.1]; unfold fv; omega
        · rw [e1.1, e1.2, putN_some]; unfold fv
          generalize X.val = A
          generalize Y.val = B
          omega
theorem toPt_self {X Y : Fp} (h : on (some (X, Y))) : toPt X.val Y.val false = some (some (X, Y)) := by
  unfold toPt
  rw [if_neg (by decide), dif_pos ⟨X.isLt, Y.isLt⟩]
  exact if_pos h
def ptB (p : Pt) : ByteArray := strOfNums (be8 (putN p : Nat))
theorem ptB_size (p : Pt) : (ptB p).size = 8 := by unfold ptB; rw [strOfNums_size]; rfl
def seedT (k : Nat) : ByteArray := tagB ⟨#[83, 101, 101, 100, 45]⟩ k
theorem seedT_size (k : Nat) (h : k < 3) : (seedT k).size = 17 := tagB_size _ k h
def seedM (k : Nat) (b : Pt) : ByteArray := sizB (ptB b) ++ sizB (seedT k)
def seedB (k : Nat) (b : Pt) : ByteArray := strOfNums (shaF (byt (seedM k b)))
def compB : ByteArray := ⟨#[67, 111, 109, 112, 111, 115, 105, 116, 101]⟩
def challB : ByteArray := ⟨#[67, 104, 97, 108, 108, 101, 110, 103, 101]⟩
def wgtT (k : Nat) (b : Pt) (i : Nat) (c d : Pt) : ByteArray := sizB (seedB k b) ++ numB i ++ sizB (ptB c) ++ sizB (ptB d) ++ compB
def wgt (k : Nat) (b : Pt) (i : Nat) (c d : Pt) : Nat := scaN (wgtT k b i c d) k
theorem scaN_lt (s : ByteArray) (k : Nat) : scaN s k < 2305843010818082053 := Nat.mod_lt _ (by decide)
def wgts (k : Nat) (b : Pt) (cs ds : List Pt) (n : Nat) : List Int := (List.range n).map fun i => ((wgt k b i (cs.getD i none) (ds.getD i none) : Nat) : Int)
theorem wgts_succ (k : Nat) (b : Pt) (cs ds : List Pt) (n : Nat) : wgts k b cs ds (n + 1) = wgts k b cs ds n ++ [((wgt k b n (cs.getD n none) (ds.getD n none) : Nat) : Int)] := by
  simp [wgts, List.range_succ]
theorem wgts_at (k : Nat) (b : Pt) (cs ds : List Pt) (n i : Nat) (h : i < n) : lk (wgts k b cs ds n) i = ((wgt k b i (cs.getD i none) (ds.getD i none) : Nat) : Int) := by
  unfold lk wgts
  rw [List.getD_eq_getElem?_getD, List.getElem?_map, List.getElem?_range h]
  rfl
def mixTo (ws : List Int) (ps : List Pt) : Nat → Pt
  | 0 => none
  | n + 1 => ad (mixTo ws ps n) (nt (lk ws n).toNat (ps.getD n none))
theorem mixTo_on {ws : List Int} {ps : List Pt} (h : ∀ p ∈ ps, on p) : ∀ n, on (mixTo ws ps n)
  | 0 => trivial
  | n + 1 => by
    refine ad_on (mixTo_on h n) (nt_on ?_ _)
    rw [List.getD_eq_getElem?_getD]
    cases hn : ps[n]? with
    | none => trivial
    | some p => exact h p (List.mem_of_getElem? hn)
def chalT (b m z x y : Pt) : ByteArray := sizB (ptB b) ++ sizB (ptB m) ++ sizB (ptB z) ++ sizB (ptB x) ++ sizB (ptB y) ++ challB
def chal (k : Nat) (b m z x y : Pt) : Nat := scaN (chalT b m z x y) k
abbrev Tri := Nat × Nat × Bool
noncomputable def asT (t : Tri) : Pt := asPt t.1 t.2.1 t.2.2
noncomputable def onT (t : Tri) : Bool := (toPt t.1 t.2.1 t.2.2).isSome
theorem asT_on (t : Tri) : on (asT t) := asPt_on _ _ _
def triW (t : Tri) : Value := .agg #[.int .u64 (t.1 : Int), .int .u64 (t.2.1 : Int), .bool t.2.2]
theorem triW_of {t : Tri} (h : onT t = true) : triW t = ptW (asT t) := by
  unfold onT at h
  obtain ⟨p, hp⟩ := Option.isSome_iff_exists.1 h
  unfold triW asT
  rw [asPt_some hp]
  exact toPt_W hp
noncomputable def batB (mode : Int) (a b : Tri) (cs ds : List Tri) : Bool := decide (0 ≤ mode ∧ mode ≤ 2) && onT a && onT b && decide (1 ≤ cs.length ∧ cs.length ≤ 200) && decide (cs.length = ds.length) && cs.all onT && ds.all onT
theorem batB_iff (mode : Int) (a b : Tri) (cs ds : List Tri) : batB mode a b cs ds = true ↔ (0 ≤ mode ∧ mode ≤ 2) ∧ onT a = true ∧ onT b = true ∧ (1 ≤ cs.length ∧ cs.length ≤ 200) ∧ cs.length = ds.length ∧ (∀ t ∈ cs, onT t = true) ∧ ∀ t ∈ ds, onT t = true := by
  unfold batB
  simp only [Bool.and_eq_true, decide_eq_true_eq, List.all_eq_true, and_assoc]
structure Pts (W : World) (g o : Nat) (L : List Tri) : Prop where
  lt : g < W.heap.size
  c0 : ∀ i (t : Tri), L[i]? = some t → W.cell? ⟨g, o + i * 3, none⟩ = some (.int .u64 (t.1 : Int))
  c1 : ∀ i (t : Tri), L[i]? = some t → W.cell? ⟨g, o + i * 3 + 1, none⟩ = some (.int .u64 (t.2.1 : Int))
  c2 : ∀ i (t : Tri), L[i]? = some t → W.cell? ⟨g, o + i * 3 + 2, none⟩ = some (.bool t.2.2)
theorem Pts.below {W W' : World} {g o : Nat} {L : List Tri} (h : Pts W g o L) {B : Nat} (hb : Below B W W') (hg : g < B) : Pts W' g o L :=
  have e : ∀ i, W'.cell? ⟨g, i, none⟩ = W.cell? ⟨g, i, none⟩ := fun i => World.cell?_of_block (w := W) (a := ⟨g, i, none⟩) (hb.block g hg)
  ⟨Nat.lt_of_lt_of_le h.lt hb.size, fun i t ht => (e _).trans (h.c0 i t ht), fun i t ht => (e _).trans (h.c1 i t ht), fun i t ht => (e _).trans (h.c2 i t ht)⟩
theorem Pts.keep {W W' : World} {g o : Nat} {L : List Tri} (h : Pts W g o L) (hb : Below W.heap.size W W') : Pts W' g o L := h.below hb h.lt
theorem Pts.drew {W : World} {g o : Nat} {L : List Tri} (h : Pts W g o L) : Pts W.drew g o L := ⟨h.lt, h.c0, h.c1, h.c2⟩
theorem Pts.alloc {W : World} {g o : Nat} {L : List Tri} (h : Pts W g o L) (ob : Obj) : Pts (W.alloc ob) g o L := h.keep ((Below.refl _ W).alloc (Nat.le_refl _) _)
end Go.Proofs.YtjmhmajfkdglnaaGreatDoor
namespace Go.Proofs.YtjmhmajfkdglnaaGreatDoor
open Go.RowKit
theorem methP (w : World) : (method 449 177 (.agg #[]) "loop.example/s02095/impl.value").run Tryz.prog w = .ok (244, .agg #[]) w := by kernel_rfl
theorem valP (w : World) :
    Calls Tryz.prog 244 #[.agg #[]] w fun e w' => e = .returned (.int .u64 2305843009213693951) ∧ w' = w.alloc (.cells #[] 177) := by
  go_enter Tryz.func244, Tryz.ntmps244
  go_wp2
  go_ret
  exact ⟨rfl, rfl⟩
theorem foldP : Array.foldl (fun (cs : Array Value) (x : Value × Nat) => cs.setIfInBounds x.snd x.fst) #[Value.int IntKind.u64 0] (#[] : Array Value).zipIdx 0 0 = #[Value.int .u64 0] := rfl
theorem redP_one (w : World) :
    Calls Tryz.prog 135 #[.int .u64 1, .agg #[]] w fun e w' => e = .returned (.agg #[.int .u64 1]) ∧ w' = (((w.alloc (.cells #[] 177)).alloc (.cells #[.int .u64 1] 179)).alloc (.cells #[] 177)).drew := by
  have hm := methP
  have hf := foldP
  have V := valP
  go_enter Tryz.func135, Tryz.ntmps135
  go_wp2
  go_region_held3 (fun _ => True) (trivial) ((go_simp; go_at_call 244; refine (V _).mono ?_; rintro e w' ⟨rfl, rfl⟩))
  go_wp2
  refine bodyPost_ret (v := .agg #[.int .u64 1]) (by simp [results, Tryz.results135, go_sem]) rfl ⟨rfl, rfl⟩
theorem cellsP : Tryz.prog.cellsOf 179 = 1 := by kernel_rfl
theorem byteP : byteOfCell Tryz.prog Tryz.prog.depth 179 0 = some 0 := by kernel_rfl
theorem partP {W : World} {b : Nat} {cs : Array Value} (hW : W.heap[b]? = some (.cells cs 179)) : (partAt ⟨b, 0, none⟩ 0 0).run Tryz.prog W = .ok ⟨b, 0, none⟩ W := by
  have h : (byteOf ⟨b, 0, none⟩).run Tryz.prog W = .ok 0 W := by
    have hs : W.shape? b = some (179, cs.size) := by simp [World.shape?, hW]
    simp [byteOf, noView, viewAt, shape, program, Sem.run, hs, cellsP, byteP, go_sem]
  simp [partAt, h, go_sem]
theorem timP_any (a b : Nat) (w : World) (ha : a < 2305843009213693951) (hb : b < 2305843009213693951) :
    Calls Tryz.prog 104 #[.agg #[.int .u64 a], .agg #[.int .u64 b]] w fun e w' => e = .returned (.agg #[.int .u64 (a * b % 2305843009213693951 : Nat)]) ∧ Below w.heap.size w w' := by
  have hme := methP
  have hf := foldP
  have M := mul64_any a b (by omega) (by omega)
  have D := fun w => div_any (a * b / 18446744073709551616) (a * b % 18446744073709551616) 2305843009213693951 w (by
    rw [Nat.div_lt_iff_lt_mul (by decide)]
    have : a * b ≤ 2305843009213693950 * 2305843009213693950 := Nat.mul_le_mul (by omega) (by omega)
    omega) (by decide) (Nat.mod_lt _ (by decide))
  have e : a * b / 18446744073709551616 * 18446744073709551616 + a * b % 18446744073709551616 = a * b := by omega
  rw [e] at D
  clear e
  generalize a * b / 18446744073709551616 = hi at *
  generalize a * b % 18446744073709551616 = lo at *
  obtain ⟨c, hc⟩ : ∃ c, c = a * b % 2305843009213693951 := ⟨_, rfl⟩
  rw [← hc] at D ⊢
  clear hc ha hb
  obtain ⟨X, hX⟩ : ∃ X, X = ((w.alloc (Obj.cells #[.int .u64 (a : Int)] 179)).alloc (Obj.cells #[.int .u64 (b : Int)] 179)).alloc (Obj.cells #[.int .u64 0] 179) := ⟨_, rfl⟩
  have hX0 : X.heap[w.heap.size]? = some (.cells #[.int .u64 (a : Int)] 179) := by
    rw [hX]
    exact (Below.heap_alloc _ _ _ (by simp; omega)).trans ((Below.heap_alloc _ _ _ (by simp)).trans (heap_alloc_new w _))
  have hp1 := partP hX0
  have hX1 : (X.alloc (Obj.cells #[] 177)).heap[w.heap.size]? = some (.cells #[.int .u64 (a : Int)] 179) := (Below.heap_alloc _ _ _ (Array.getElem?_eq_some_iff.1 hX0).1).trans hX0
  have hp2 := partP hX1
  have hp3 := partP (W := (X.alloc (Obj.cells #[] 177)).drew) hX1
  rw [hX] at hp1 hp2 hp3
  clear hX hX0 hX1
  go_enter Tryz.func104, Tryz.ntmps104
  go_wp2_with fail
  refine (M _).mono ?_
  rintro e w' ⟨rfl, rfl⟩
  go_wp2_with fail
  refine (valP _).mono ?_
  rintro e w' ⟨rfl, rfl⟩
  go_wp2_with fail
  refine (D _).mono ?_
  rintro e w' ⟨⟨z, rfl⟩, rfl | rfl⟩
  · go_wp2
    refine bodyPost_ret (v := .agg #[.int .u64 c]) (by simp [results, Tryz.results104, go_sem]) rfl ⟨rfl, ?_⟩
    exact ((((Below.refl _ _).alloc (Nat.le_refl _) _).alloc (by simp) _).alloc (by simp; omega) _).alloc (by simp; omega) _
  · go_wp2
    refine bodyPost_ret (v := .agg #[.int .u64 c]) (by simp [results, Tryz.results104, go_sem]) rfl ⟨rfl, ?_⟩
    exact (((((Below.refl _ _).alloc (Nat.le_refl _) _).alloc (by simp) _).alloc (by simp; omega) _).alloc (by simp; omega) _).drew
end Go.Proofs.YtjmhmajfkdglnaaGreatDoor
