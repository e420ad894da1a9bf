import Derived.Test.YtagnikeaellbiaaGreatDoorMrg39
import Derived.Test.YtagnikeaellbiaaGreatDoorMrg27
import Derived.Laws.ResultCell
namespace Go.Proofs.YtagnikeaellbiaaGreatDoor
open Go.RowKit
set_option linter.unusedVariables false
theorem cfF_F (args : Array Value) (w : World) : (callFunc 45 args).run Tryz.prog w = .ok (.enter 45 args) w := by kernel_rfl
theorem keepFF {w1 w2 : World} {p : Addr} {v : Value} (h : w1.cell? p = some v) (b : Below w1.heap.size w1 w2) : w2.cell? p = some v := (b.cell (p := p) (World.block_lt_of_cell? w1 _ h)).trans h
set_option maxRecDepth 100000 in
set_option maxHeartbeats 1000000 in
theorem putF_of (c s : Int) (u v : ByteArray) (w : World) (hu : u.size = 8) (hv : v.size = 8)
    (L1 : ∀ w, Calls Tryz.prog 45 #[.int .u64 c] w fun e w' => e = .returned (.string u) ∧ Below w.heap.size w w')
    (L2 : ∀ w, Calls Tryz.prog 45 #[.int .u64 s] w fun e w' => e = .returned (.string v) ∧ Below w.heap.size w w') :
    Calls Tryz.prog 25 #[.agg #[.int .u64 c, .int .u64 s]] w fun e w' => e = .returned (.string (u ++ v)) ∧ Below w.heap.size w w' := by
  have hb := (Below.refl _ w).alloc (Nat.le_refl _) (Obj.cells #[.int .u64 c, .int .u64 s] 37)
  have hr := heap_alloc_new w (Obj.cells #[.int .u64 c, .int .u64 s] 37)
  have q1 : ¬ (9223372036854775807 < u.size + v.size) := by omega
  go_enter Tryz.func25, Tryz.ntmps25
  go_wp2
  generalize w.alloc (Obj.cells #[.int .u64 c, .int .u64 s] 37) = X at *
  have c0 : X.drew.cell? ⟨w.heap.size, 0, none⟩ = some (.int .u64 c) := by show X.cell? _ = _; simp [World.cell?, hr]
  have c1 : X.drew.cell? ⟨w.heap.size, 1, none⟩ = some (.int .u64 s) := by show X.cell? _ = _; simp [World.cell?, hr]
  refine pool_list [.val (.pointer (some ⟨w.heap.size, 0, none⟩)),
      .val (.int .u64 c),
      .val (.string u),
      .val (.pointer (some ⟨w.heap.size, 1, none⟩)),
      .val (.int .u64 s),
      .val (.string v),
      .val (.string (u ++ v)),
      .val (.string (u ++ v))] [[1], [3], [4], [1], [6], [7], [5, 8], [9]] (fun f => [(some 3, .pointer (some ⟨w.heap.size, 0, none⟩)), (some 4, .int .u64 c), (some 5, .string u), (some 6, .pointer (some ⟨w.heap.size, 1, none⟩)), (some 7, .int .u64 s), (some 8, .string v), (some 9, .string (u ++ v)), (some 2, .string (u ++ v))]) (by kernel_rfl) (by kernel_rfl) (by kernel_rfl) (by kernel_rfl) (fun _ => by kernel_rfl) ?_ ?_
  · intro ix hix
    match ix, hix with
    | 0, _ => exact ob_val [(1, .pointer (some ⟨w.heap.size, 0, none⟩))] rfl rfl (fun _ => by kernel_rfl) (fun A w ⟨e0, _⟩ hB => F.fa_prf0 e0)
    | 1, _ => exact ob_val [(3, .pointer (some ⟨w.heap.size, 0, none⟩))] rfl rfl (fun _ => by kernel_rfl) (fun A w ⟨e0, _⟩ hB => F.ld_u64 e0 (keepFF c0 hB))
    | 2, _ => exact ob_val [(4, .int .u64 c)] rfl rfl (fun _ => by kernel_rfl) (fun A w ⟨e0, _⟩ hB => F.cl1 cfF_F e0 (L1 w))
    | 3, _ => exact ob_val [(1, .pointer (some ⟨w.heap.size, 0, none⟩))] rfl rfl (fun _ => by kernel_rfl) (fun A w ⟨e0, _⟩ hB => F.fa_prf1 e0)
    | 4, _ => exact ob_val [(6, .pointer (some ⟨w.heap.size, 1, none⟩))] rfl rfl (fun _ => by kernel_rfl) (fun A w ⟨e0, _⟩ hB => F.ld_u64 e0 (keepFF c1 hB))
    | 5, _ => exact ob_val [(7, .int .u64 s)] rfl rfl (fun _ => by kernel_rfl) (fun A w ⟨e0, _⟩ hB => F.cl1 cfF_F e0 (L2 w))
    | 6, _ => exact ob_val [(5, .string u), (8, .string v)] rfl rfl (fun _ => by kernel_rfl) (fun A w ⟨e0, e1, _⟩ hB => F.cat e0 e1 q1)
    | 7, _ => exact ob_val [(9, .string (u ++ v))] rfl rfl (fun _ => by kernel_rfl) (fun A w ⟨e0, _⟩ hB => F.as e0)
    | ix + 8, h => exact absurd h (by simp)
  intro f W2 hb2 _ _
  have hb3 := hb.drew.trans (hb2.mono hb.size)
  simp only [puts, List.foldl, Act.put, List.setIfInBounds_toArray, List.set_cons_zero, List.set_cons_succ]
  go_wp2
  go_ret
  exact ⟨rfl, hb3⟩
theorem putF_any (c s : Nat) (w : World) (hc : c < 18446744073709551616) (hs : s < 18446744073709551616) :
    Calls Tryz.prog 25 #[.agg #[.int .u64 c, .int .u64 s]] w fun e w' => e = .returned (.string (strOfNums (be8 c) ++ strOfNums (be8 s))) ∧ Below w.heap.size w w' :=
  putF_of c s _ _ w (by rw [strOfNums_size]; rfl) (by rw [strOfNums_size]; rfl) (fun w => putI_any c w hc) (fun w => putI_any s w hs)
end Go.Proofs.YtagnikeaellbiaaGreatDoor

namespace Go.Proofs.YtagnikeaellbiaaGreatDoor
open Go.RowKit
set_option linter.unusedVariables false

theorem methN (w : World) : (method 325 75 (.agg #[]) "loop.example/s02095/impl.value").run Tryz.prog w = .ok (164, .agg #[]) w := by kernel_rfl
set_option maxRecDepth 100000 in
theorem valN (w : World) :
    Calls Tryz.prog 164 #[.agg #[]] w fun e w' => e = .returned (.int .u64 2305843010818082053) ∧ w' = w.alloc (.cells #[] 75) := by
  go_enter Tryz.func164, Tryz.ntmps164
  go_wp2
  go_ret
  exact ⟨rfl, rfl⟩

theorem foldN : Array.foldl (fun (cs : Array Value) (x : Value × Nat) => cs.setIfInBounds x.snd x.fst) #[Value.int IntKind.u64 0] (#[] : Array Value).zipIdx 0 0 = #[Value.int .u64 0] := rfl
set_option maxRecDepth 100000 in
theorem exN_less (x : Int) (w : World) (h1 : x < 2305843010818082053) :
    Calls Tryz.prog 37 #[.int .u64 x, .agg #[]] w fun e w' => e = .returned (.tuple #[.agg #[.int .u64 x], .bool true]) ∧ Below w.heap.size w w' := by
  have hm := methN
  have hbd := foldN
  go_enter Tryz.func37, Tryz.ntmps37
  go_wp2_with fail
  refine (valN _).mono ?_
  rintro e w' ⟨rfl, rfl⟩
  go_wp2
  refine bodyPost_ret (v := .tuple #[.agg #[.int .u64 x], .bool true]) (by simp [results, Tryz.results37, go_sem]) rfl ⟨rfl, ?_⟩
  exact (((Below.refl _ w).alloc (Nat.le_refl _) _).alloc (by simp) _).alloc (by simp; omega) _
set_option maxRecDepth 100000 in
theorem exN_more (x : Int) (w : World) (h1 : 2305843010818082053 ≤ x) :
    Calls Tryz.prog 37 #[.int .u64 x, .agg #[]] w fun e w' => e = .returned (.tuple #[.agg #[.int .u64 0], .bool false]) ∧ Below w.heap.size w w' := by
  have hm := methN
  go_enter Tryz.func37, Tryz.ntmps37
  go_wp2_with fail
  refine (valN _).mono ?_
  rintro e w' ⟨rfl, rfl⟩
  go_wp2
  refine bodyPost_ret (v := .tuple #[.agg #[.int .u64 0], .bool false]) (by simp [results, Tryz.results37, go_sem]) rfl ⟨rfl, ?_⟩
  exact (((Below.refl _ w).alloc (Nat.le_refl _) _).alloc (by simp) _).alloc (by simp; omega) _

set_option maxRecDepth 100000 in
theorem scaI_bad (s : ByteArray) (w : World) (hs : s.size ≠ 8) :
    Calls Tryz.prog 44 #[.string s] w fun e w' => e = .returned (.tuple #[.int .u64 0, .bool false]) ∧ Below w.heap.size w w' := by
  have z : ((s.size : Int) == 8) = false := by simp; omega
  go_enter Tryz.func44, Tryz.ntmps44
  go_wp2
  go_ret2
  exact ⟨rfl, Below.refl _ _⟩
set_option maxRecDepth 100000 in
theorem scaI_two (s : ByteArray) (x y : Int) (b : Bool) (w : World) (z : (s.size : Int) = 8)
    (L : ∀ w, Calls Tryz.prog 69 #[.string s] w fun e w' => e = .returned (.int .u64 x) ∧ w = w')
    (M : ∀ w, Calls Tryz.prog 37 #[.int .u64 x, .agg #[]] w fun e w' => e = .returned (.tuple #[.agg #[.int .u64 y], .bool b]) ∧ Below w.heap.size w w') :
    Calls Tryz.prog 44 #[.string s] w fun e w' => e = .returned (.tuple #[.int .u64 y, .bool b]) ∧ Below w.heap.size w w' := by
  go_enter Tryz.func44, Tryz.ntmps44
  go_wp2_with fail
  refine (L _).mono ?_
  rintro e w' ⟨rfl, rfl⟩
  go_wp2_with fail
  refine (M _).mono ?_
  rintro e w' ⟨rfl, hb⟩
  go_wp2
  go_ret2
  exact ⟨rfl, hb.alloc hb.size _⟩
end Go.Proofs.YtagnikeaellbiaaGreatDoor

namespace Go.Proofs.YtagnikeaellbiaaGreatDoor
open Go.RowKit
set_option linter.unusedVariables false
/-- a block that holds a proof's two words -/
def Q2F (W : World) (b : Nat) (x y : Int) : Prop := W.heap[b]? = some (.cells #[.int .u64 x, .int .u64 y] 37)
theorem prwF_res {W : World} {b : Nat} {x y : Int} {fn : Func} {p u : Tmp} (h : fn.results = #[.cell p 37, .tmp u]) (tmps : Array Value) (hp : tmps.getD p undef = .pointer (some ⟨b, 0, none⟩)) (hc : Q2F W b x y) :
    (results fn tmps).run Tryz.prog W = .ok (.tuple #[.agg #[.int .u64 x, .int .u64 y], tmps.getD u undef]) W := by
  have hp' : tmps[p]?.getD undef = .pointer (some ⟨b, 0, none⟩) := by simpa using hp
  have hr : W.rangeAt b 0 [.int .u64 x, .int .u64 y] := fun j v hj => by
    unfold Q2F at hc
    match j, hj with
    | 0, hj => cases hj; simp [World.cell?, hc]
    | 1, hj => cases hj; simp [World.cell?, hc]
  simp [results, h, hp', asAddr, run_loadVar_mid W b 0 37 [.int .u64 x, .int .u64 y] _ hr Tryz.underlying37 rfl (by kernel_rfl)]
set_option maxRecDepth 100000 in
theorem getF_bad (s : ByteArray) (w : World) (h : s.size ≠ 16) :
    Calls Tryz.prog 24 #[.string s] w fun e w' => e = .returned (.tuple #[.agg #[.int .u64 0, .int .u64 0], .bool false]) ∧ Below w.heap.size w w' := by
  have z : ((s.size : Int) != 16) = true := by simp only [bne_iff_ne, ne_eq]; omega
  have hb := (Below.refl _ w).alloc (Nat.le_refl _) (Obj.cells #[.int .u64 0, .int .u64 0] 37)
  have hr : Q2F (w.alloc (Obj.cells #[.int .u64 0, .int .u64 0] 37)) w.heap.size 0 0 := heap_alloc_new w _
  go_enter Tryz.func24, Tryz.ntmps24
  go_wp2
  exact bodyPost_ret (v := .tuple #[.agg #[.int .u64 0, .int .u64 0], .bool false]) (prwF_res (fn := Tryz.f24) (p := 2) (u := 3) Tryz.results24 _ rfl hr) rfl ⟨rfl, hb⟩
set_option maxRecDepth 100000 in
set_option maxHeartbeats 1000000 in
theorem getF_of (s s1 s2 : ByteArray) (x y : Int) (b1 b2 : Bool) (w : World) (h : (s.size : Int) = 16) (e1 : s.extract 0 8 = s1) (e2 : s.extract 8 16 = s2) (e3 : s.extract 8 s.size = s2)
    (L1 : ∀ w, Calls Tryz.prog 44 #[.string s1] w fun e w' => e = .returned (.tuple #[.int .u64 x, .bool b1]) ∧ Below w.heap.size w w')
    (L2 : ∀ w, Calls Tryz.prog 44 #[.string s2] w fun e w' => e = .returned (.tuple #[.int .u64 y, .bool b2]) ∧ Below w.heap.size w w') :
    Calls Tryz.prog 24 #[.string s] w fun e w' => e = .returned (.tuple #[.agg #[.int .u64 (if b1 && b2 then x else 0), .int .u64 (if b1 && b2 then y else 0)], .bool (b1 && b2)]) ∧ Below w.heap.size w w' := by
  have hb := (Below.refl _ w).alloc (Nat.le_refl _) (Obj.cells #[.int .u64 0, .int .u64 0] 37)
  have hr : Q2F (w.alloc (Obj.cells #[.int .u64 0, .int .u64 0] 37)) w.heap.size 0 0 := heap_alloc_new w _
  obtain ⟨X, hX⟩ : ∃ X, Hid (X = (if b1 && b2 then x else 0)) := ⟨_, rfl⟩
  obtain ⟨Y, hY⟩ : ∃ Y, Hid (Y = (if b1 && b2 then y else 0)) := ⟨_, rfl⟩
  obtain ⟨B, hB⟩ : ∃ B, Hid (B = (b1 && b2)) := ⟨_, rfl⟩
  rw [← hX.out, ← hY.out, ← hB.out]
  have n1 : ((s.size : Int) != 16) = false := by simp [h]
  go_enter Tryz.func24, Tryz.ntmps24
  go_wp2_with fail
  refine (L1 _).mono ?_
  rintro e w1 ⟨rfl, k1⟩
  replace hr : Q2F w1 w.heap.size 0 0 := (k1.block _ (Array.getElem?_eq_some_iff.1 hr).1).trans hr
  replace hb := hb.trans (k1.mono hb.size)
  clear L1 k1
  go_wp2_with fail
  refine (L2 _).mono ?_
  rintro e w2 ⟨rfl, k2⟩
  replace hr : Q2F w2 w.heap.size 0 0 := (k2.block _ (Array.getElem?_eq_some_iff.1 hr).1).trans hr
  replace hb := hb.trans (k2.mono hb.size)
  clear L2 k2
  have d0 : w2.cell? ⟨w.heap.size, 0, none⟩ = some (.int .u64 0) := by unfold Q2F at hr; simp [World.cell?, hr]
  have d1 : w2.cell? ⟨w.heap.size, 1, none⟩ = some (.int .u64 0) := by unfold Q2F at hr; simp [World.cell?, hr]
  have df : ∀ i, w2.frozen? ⟨w.heap.size, i, none⟩ = false := fun i => by unfold Q2F at hr; simp [World.frozen?, hr]
  have st : ∀ a b : Int, Q2F ((w2.setCell ⟨w.heap.size, 0, none⟩ (.int .u64 a)).setCell ⟨w.heap.size, 1, none⟩ (.int .u64 b)) w.heap.size a b := fun a b => by
    unfold Q2F at *
    simp [World.setCell, Array.getElem?_modify, hr]
  have sb : ∀ u v : Value, Below w.heap.size w ((w2.setCell ⟨w.heap.size, 0, none⟩ u).setCell ⟨w.heap.size, 1, none⟩ v) := fun u v => (hb.setCell (p := ⟨w.heap.size, 0, none⟩) (Nat.le_refl _) _).setCell (p := ⟨w.heap.size, 1, none⟩) (Nat.le_refl _) _
  have st' : Hid (∀ a b : Int, Q2F ((w2.setCell ⟨w.heap.size, 0, none⟩ (.int .u64 a)).setCell ⟨w.heap.size, 1, none⟩ (.int .u64 b)) w.heap.size a b) := st
  have sb' : Hid (∀ u v : Value, Below w.heap.size w ((w2.setCell ⟨w.heap.size, 0, none⟩ u).setCell ⟨w.heap.size, 1, none⟩ v)) := sb
  clear st sb
  cases b1 with
  | false =>
    obtain rfl : X = 0 := by rw [hX.out]; rfl
    obtain rfl : Y = 0 := by rw [hY.out]; rfl
    obtain rfl : B = false := by rw [hB.out]; rfl
    clear hX hY hB
    go_wp2
    exact bodyPost_ret (v := .tuple #[.agg #[.int .u64 0, .int .u64 0], .bool false]) (prwF_res (fn := Tryz.f24) (p := 2) (u := 3) Tryz.results24 _ rfl (st'.out 0 0)) rfl ⟨rfl, sb'.out _ _⟩
  | true =>
    cases b2 with
    | false =>
      obtain rfl : X = 0 := by rw [hX.out]; rfl
      obtain rfl : Y = 0 := by rw [hY.out]; rfl
      obtain rfl : B = false := by rw [hB.out]; rfl
      clear hX hY hB
      go_wp2
      exact bodyPost_ret (v := .tuple #[.agg #[.int .u64 0, .int .u64 0], .bool false]) (prwF_res (fn := Tryz.f24) (p := 2) (u := 3) Tryz.results24 _ rfl (st'.out 0 0)) rfl ⟨rfl, sb'.out _ _⟩
    | true =>
      obtain rfl : X = x := by rw [hX.out]; rfl
      obtain rfl : Y = y := by rw [hY.out]; rfl
      obtain rfl : B = true := by rw [hB.out]; rfl
      clear hX hY hB
      go_wp2
      exact bodyPost_ret (v := .tuple #[.agg #[.int .u64 X, .int .u64 Y], .bool true]) (prwF_res (fn := Tryz.f24) (p := 2) (u := 3) Tryz.results24 _ rfl (st'.out X Y)) rfl ⟨rfl, sb'.out _ _⟩
end Go.Proofs.YtagnikeaellbiaaGreatDoor
