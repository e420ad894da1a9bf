import Derived.Test.YtagnikeaellbiaaScaI
namespace Go.Proofs.Ytagnikeaellbiaa
open Go.RowKit
set_option linter.unusedVariables false
/-- a block that holds a proof's two words -/
def Q2F (W : World) (b : Nat) (x y : Int) : Prop := W.heap[b]? = some (.cells #[.int .u64 x, .int .u64 y] 26)
theorem prwF_res {W : World} {b : Nat} {x y : Int} {fn : Func} {p u : Tmp} (h : fn.results = #[.cell p 26, .tmp u]) (tmps : Array Value) (hp : tmps.getD p undef = .pointer (some ⟨b, 0, none⟩)) (hc : Q2F W b x y) :
    (results fn tmps).run Try.prog W = .ok (.tuple #[.agg #[.int .u64 x, .int .u64 y], tmps.getD u undef]) W := by
  have hp' : tmps[p]?.getD undef = .pointer (some ⟨b, 0, none⟩) := by simpa using hp
  have hr : W.rangeAt b 0 [.int .u64 x, .int .u64 y] := fun j v hj => by
    unfold Q2F at hc
    match j, hj with
    | 0, hj => cases hj; simp [World.cell?, hc]
    | 1, hj => cases hj; simp [World.cell?, hc]
  simp [results, h, hp', asAddr, run_loadVar_mid W b 0 26 [.int .u64 x, .int .u64 y] _ hr Try.underlying26 rfl (by kernel_rfl)]
set_option maxRecDepth 100000 in
theorem getF_bad (s : ByteArray) (w : World) (h : s.size ≠ 16) :
    Calls Try.prog 9 #[.string s] w fun e w' => e = .returned (.tuple #[.agg #[.int .u64 0, .int .u64 0], .bool false]) ∧ Below w.heap.size w w' := by
  have z : ((s.size : Int) != 16) = true := by simp only [bne_iff_ne, ne_eq]; omega
  have hb := (Below.refl _ w).alloc (Nat.le_refl _) (Obj.cells #[.int .u64 0, .int .u64 0] 26)
  have hr : Q2F (w.alloc (Obj.cells #[.int .u64 0, .int .u64 0] 26)) w.heap.size 0 0 := heap_alloc_new w _
  go_enter Try.func9, Try.ntmps9
  go_wp2
  exact bodyPost_ret (v := .tuple #[.agg #[.int .u64 0, .int .u64 0], .bool false]) (prwF_res (fn := Try.f9) (p := 2) (u := 3) Try.results9 _ rfl hr) rfl ⟨rfl, hb⟩
set_option maxRecDepth 100000 in
set_option maxHeartbeats 1000000 in
theorem getF_of (s s1 s2 : ByteArray) (x y : Int) (b1 b2 : Bool) (w : World) (h : (s.size : Int) = 16) (e1 : s.extract 0 8 = s1) (e2 : s.extract 8 16 = s2) (e3 : s.extract 8 s.size = s2)
    (L1 : ∀ w, Calls Try.prog 14 #[.string s1] w fun e w' => e = .returned (.tuple #[.int .u64 x, .bool b1]) ∧ Below w.heap.size w w')
    (L2 : ∀ w, Calls Try.prog 14 #[.string s2] w fun e w' => e = .returned (.tuple #[.int .u64 y, .bool b2]) ∧ Below w.heap.size w w') :
    Calls Try.prog 9 #[.string s] w fun e w' => e = .returned (.tuple #[.agg #[.int .u64 (if b1 && b2 then x else 0), .int .u64 (if b1 && b2 then y else 0)], .bool (b1 && b2)]) ∧ Below w.heap.size w w' := by
  have hb := (Below.refl _ w).alloc (Nat.le_refl _) (Obj.cells #[.int .u64 0, .int .u64 0] 26)
  have hr : Q2F (w.alloc (Obj.cells #[.int .u64 0, .int .u64 0] 26)) w.heap.size 0 0 := heap_alloc_new w _
  obtain ⟨X, hX⟩ : ∃ X, Hid (X = (if b1 && b2 then x else 0)) := ⟨_, rfl⟩
  obtain ⟨Y, hY⟩ : ∃ Y, Hid (Y = (if b1 && b2 then y else 0)) := ⟨_, rfl⟩
  obtain ⟨B, hB⟩ : ∃ B, Hid (B = (b1 && b2)) := ⟨_, rfl⟩
  rw [← hX.out, ← hY.out, ← hB.out]
  have n1 : ((s.size : Int) != 16) = false := by simp [h]
  go_enter Try.func9, Try.ntmps9
  go_wp2_with fail
  refine (L1 _).mono ?_
  rintro e w1 ⟨rfl, k1⟩
  replace hr : Q2F w1 w.heap.size 0 0 := (k1.block _ (Array.getElem?_eq_some_iff.1 hr).1).trans hr
  replace hb := hb.trans (k1.mono hb.size)
  clear L1 k1
  go_wp2_with fail
  refine (L2 _).mono ?_
  rintro e w2 ⟨rfl, k2⟩
  replace hr : Q2F w2 w.heap.size 0 0 := (k2.block _ (Array.getElem?_eq_some_iff.1 hr).1).trans hr
  replace hb := hb.trans (k2.mono hb.size)
  clear L2 k2
  have d0 : w2.cell? ⟨w.heap.size, 0, none⟩ = some (.int .u64 0) := by unfold Q2F at hr; simp [World.cell?, hr]
  have d1 : w2.cell? ⟨w.heap.size, 1, none⟩ = some (.int .u64 0) := by unfold Q2F at hr; simp [World.cell?, hr]
  have df : ∀ i, w2.frozen? ⟨w.heap.size, i, none⟩ = false := fun i => by unfold Q2F at hr; simp [World.frozen?, hr]
  have st : ∀ a b : Int, Q2F ((w2.setCell ⟨w.heap.size, 0, none⟩ (.int .u64 a)).setCell ⟨w.heap.size, 1, none⟩ (.int .u64 b)) w.heap.size a b := fun a b => by
    unfold Q2F at *
    simp [World.setCell, Array.getElem?_modify, hr]
  have sb : ∀ u v : Value, Below w.heap.size w ((w2.setCell ⟨w.heap.size, 0, none⟩ u).setCell ⟨w.heap.size, 1, none⟩ v) := fun u v => (hb.setCell (p := ⟨w.heap.size, 0, none⟩) (Nat.le_refl _) _).setCell (p := ⟨w.heap.size, 1, none⟩) (Nat.le_refl _) _
  have st' : Hid (∀ a b : Int, Q2F ((w2.setCell ⟨w.heap.size, 0, none⟩ (.int .u64 a)).setCell ⟨w.heap.size, 1, none⟩ (.int .u64 b)) w.heap.size a b) := st
  have sb' : Hid (∀ u v : Value, Below w.heap.size w ((w2.setCell ⟨w.heap.size, 0, none⟩ u).setCell ⟨w.heap.size, 1, none⟩ v)) := sb
  clear st sb
  cases b1 with
  | false =>
    obtain rfl : X = 0 := by rw [hX.out]; rfl
    obtain rfl : Y = 0 := by rw [hY.out]; rfl
    obtain rfl : B = false := by rw [hB.out]; rfl
    clear hX hY hB
    go_wp2
    exact bodyPost_ret (v := .tuple #[.agg #[.int .u64 0, .int .u64 0], .bool false]) (prwF_res (fn := Try.f9) (p := 2) (u := 3) Try.results9 _ rfl (st'.out 0 0)) rfl ⟨rfl, sb'.out _ _⟩
  | true =>
    cases b2 with
    | false =>
      obtain rfl : X = 0 := by rw [hX.out]; rfl
      obtain rfl : Y = 0 := by rw [hY.out]; rfl
      obtain rfl : B = false := by rw [hB.out]; rfl
      clear hX hY hB
      go_wp2
      exact bodyPost_ret (v := .tuple #[.agg #[.int .u64 0, .int .u64 0], .bool false]) (prwF_res (fn := Try.f9) (p := 2) (u := 3) Try.results9 _ rfl (st'.out 0 0)) rfl ⟨rfl, sb'.out _ _⟩
    | true =>
      obtain rfl : X = x := by rw [hX.out]; rfl
      obtain rfl : Y = y := by rw [hY.out]; rfl
      obtain rfl : B = true := by rw [hB.out]; rfl
      clear hX hY hB
      go_wp2
      exact bodyPost_ret (v := .tuple #[.agg #[.int .u64 X, .int .u64 Y], .bool true]) (prwF_res (fn := Try.f9) (p := 2) (u := 3) Try.results9 _ rfl (st'.out X Y)) rfl ⟨rfl, sb'.out _ _⟩
end Go.Proofs.Ytagnikeaellbiaa
