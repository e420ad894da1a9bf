import Derived.Test.YtagnikeaellbiaaGreatDoorMrg11
import Derived.Test.YtagnikeaellbiaaGreatDoorMrg14
import Derived.Test.YtagnikeaellbiaaGreatDoorMrg30
import Derived.Test.YtagnikeaellbiaaGreatDoorMrg31
import Derived.Test.YtagnikeaellbiaaGreatDoorMrg16
import Derived.Test.YtagnikeaellbiaaGreatDoorMrg33
namespace Go.Proofs.YtagnikeaellbiaaGreatDoor
open Go.RowKit M
set_option linter.unusedVariables false

set_option maxRecDepth 100000 in
set_option maxHeartbeats 2000000 in
theorem eqP (x y : Int) (c : Bool) (w : World) :
    Calls Tryz.prog 12 #[.agg #[.int .u64 x, .int .u64 y, .bool c], .agg #[.int .u64 x, .int .u64 y, .bool c]] w fun e w' => e = .returned (.bool true) ∧ Below w.heap.size w w' := by
  go_enter Tryz.func12, Tryz.ntmps12
  go_wp2
  go_ret
  exact ⟨rfl, ((Below.refl _ w).alloc (Nat.le_refl _) _).alloc (by simp) _⟩
end Go.Proofs.YtagnikeaellbiaaGreatDoor

/-
  Slices of points of the laws: toPointS, eqPointS, szPointS.
-/
namespace Go.Proofs.YtagnikeaellbiaaGreatDoor
open Go.RowKit M
set_option linter.unusedVariables false

/-- a slice that came in: nil, empty, or points in a row -/
def Ars (W : World) (v : Value) (ps : List Tri) : Prop := ∃ a n cap, v = .slice a n cap ∧ ps.length = n ∧ (n = 0 ∨ ∃ g o, a = some ⟨g, o, none⟩ ∧ Pts W g o ps)
theorem Ars.keep {W W' : World} {v : Value} {ps : List Tri} (h : Ars W v ps) (hb : Below W.heap.size W W') : Ars W' v ps := by
  obtain ⟨a, n, cap, hv, hl, h0 | ⟨g, o, ha, hp⟩⟩ := h
  · exact ⟨a, n, cap, hv, hl, .inl h0⟩
  · exact ⟨a, n, cap, hv, hl, .inr ⟨g, o, ha, hp.keep hb⟩⟩
theorem Ars.keep' {W W' : World} {v : Value} {ps : List Tri} (h : Ars W v ps) (hb : Below W.heap.size W W') : Ars W' v ps := h.keep hb
/-- points in a block of cells -/
def InA (cur : Array Value) (ps : List Tri) : Prop := ∀ i (t : Tri), ps[i]? = some t → cur[i * 3]? = some (.int .u64 (t.1 : Int)) ∧ cur[i * 3 + 1]? = some (.int .u64 (t.2.1 : Int)) ∧ cur[i * 3 + 2]? = some (.bool t.2.2)
theorem InA.pts {W : World} {g : Nat} {T : TypeId} {cur : Array Value} {ps : List Tri} (h : InA cur ps) (hg : W.heap[g]? = some (.cells cur T)) : Pts W g 0 ps := by
  refine ⟨(Array.getElem?_eq_some_iff.1 hg).1, fun i t ht => ?_, fun i t ht => ?_, fun i t ht => ?_⟩
  · rw [cell_of_row _ _ _ _ _ _ hg, Nat.zero_add]; exact (h i t ht).1
  · rw [cell_of_row _ _ _ _ _ _ hg, Nat.zero_add]; exact (h i t ht).2.1
  · rw [cell_of_row _ _ _ _ _ _ hg, Nat.zero_add]; exact (h i t ht).2.2
theorem set3_at {W : World} {g k : Nat} {T : TypeId} {cur : Array Value} (hg : W.heap[g]? = some (.cells cur T)) (hk : k + 2 < cur.size) (v0 v1 v2 : Value) :
    ∃ cur', (((W.setCell ⟨g, k, none⟩ v0).setCell ⟨g, k + 1, none⟩ v1).setCell ⟨g, k + 2, none⟩ v2).heap[g]? = some (.cells cur' T) ∧ cur'.size = cur.size ∧ cur'[k]? = some v0 ∧ cur'[k + 1]? = some v1 ∧ cur'[k + 2]? = some v2 ∧ ∀ i, i < k → cur'[i]? = cur[i]? := by
  refine ⟨((cur.setIfInBounds k v0).setIfInBounds (k + 1) v1).setIfInBounds (k + 2) v2, ?_, by simp, ?_, ?_, ?_, fun i hi => ?_⟩
  · simp [World.setCell, Array.getElem?_modify, hg]
  · rw [Array.getElem?_setIfInBounds, if_neg (by omega), Array.getElem?_setIfInBounds, if_neg (by omega), Array.getElem?_setIfInBounds, if_pos rfl, if_pos (by omega)]
  · rw [Array.getElem?_setIfInBounds, if_neg (by omega), Array.getElem?_setIfInBounds, if_pos rfl, if_pos (by simp; omega)]
  · rw [Array.getElem?_setIfInBounds, if_pos rfl, if_pos (by simp; omega)]
  · rw [Array.getElem?_setIfInBounds, if_neg (by omega), Array.getElem?_setIfInBounds, if_neg (by omega), Array.getElem?_setIfInBounds, if_neg (by omega)]
theorem infoPt : (Tryz.prog.info? 27).map (fun i => (i.zero, i.size, i.bytes)) = some (some (.agg #[.int .u64 0, .int .u64 0, .bool false]), 3, 24) := by kernel_rfl
set_option maxRecDepth 100000 in
set_option maxHeartbeats 2000000 in
theorem toP5 (x y : Int) (c : Bool) (w : World) :
    Calls Tryz.prog 9 #[.agg #[.int .u64 x, .int .u64 y, .bool c]] w fun e w' => e = .returned (.agg #[.int .u64 x, .int .u64 y, .bool c]) ∧ Below w.heap.size w w' := by
  go_enter Tryz.func9, Tryz.ntmps9
  go_wp2
  refine bodyPost_ret (v := .agg #[.int .u64 x, .int .u64 y, .bool c]) (by simp [results, Tryz.results9, go_sem]) rfl ⟨rfl, ?_⟩
  exact (((Below.refl _ w).alloc (Nat.le_refl _) _).alloc (by simp) _).alloc (by simp; omega) _
/-- the block of a slice of points that a law has made -/
def Mad (x : Nat) (ps : List Tri) (w : World) : Prop := ∃ cur, w.heap[x]? = some (.cells cur 27) ∧ InA cur ps
theorem Mad.pts {x : Nat} {ps : List Tri} {w : World} (h : Mad x ps w) : Pts w x 0 ps := by obtain ⟨cur, h1, h2⟩ := h; exact h2.pts h1
theorem Mad.keep {x : Nat} {ps : List Tri} {w w' : World} (h : Mad x ps w) (hb : Below w.heap.size w w') : Mad x ps w' := by
  obtain ⟨cur, h1, h2⟩ := h
  exact ⟨cur, (hb.block x (Array.getElem?_eq_some_iff.1 h1).1).trans h1, h2⟩
set_option maxRecDepth 100000 in
set_option maxHeartbeats 2000000 in
theorem tpsL_any (v : Value) (ps : List Tri) (w : World) (hA : Ars w v ps) (hn : ps.length ≤ 1048576) :
    Calls Tryz.prog 10 #[v] w fun e w' => ∃ x, e = .returned (.slice (some ⟨x, 0, none⟩) ps.length ps.length) ∧ Mad x ps w' ∧ Below w.heap.size w w' := by
  obtain ⟨a, n, cap, rfl, hl, hA⟩ := hA
  obtain ⟨i0, hi, hz0, hz1, hz2⟩ := info_parts infoPt
  rw [hl] at hn ⊢
  obtain ⟨w1, hmk, ⟨cur1, hg1, hs1⟩, hbl1⟩ : ∃ w1, (Instr.makeSlice 31 (.int .i64 n) (.int .i64 n)).run Tryz.prog w = .ok (.slice (some ⟨w.heap.size, 0, none⟩) n n) w1 ∧ (∃ cur, w1.heap[w.heap.size]? = some (.cells cur 27) ∧ cur.size = n * 3) ∧ Below w.heap.size w w1 := by
    obtain ⟨w1, hr, ho, hg⟩ := run_make_full (P := Tryz.prog) w w.heap.size 31 27 i0 (.agg #[.int .u64 0, .int .u64 0, .bool false]) 3 Tryz.underlying31 hi hz0 hz1 .i64 .i64 n (by rw [hz2]; omega) (by unfold maxLen; omega) (Nat.le_refl _)
    refine ⟨w1, hr, ?_, (Below.refl _ _).grown hg (Nat.le_refl _) (fun r hr => by cases hr)⟩
    rcases ho.2 with ⟨h0, _⟩ | ⟨g, cp, cur, hv, -, hcur, -, -, hsz, -⟩
    · cases h0
    · injection hv with e1 e2 e3
      injection e1 with e1
      injection e1 with e1
      subst e1 e3
      exact ⟨cur, hcur, hsz⟩
  have hT := toP5
  go_enter Tryz.func10, Tryz.ntmps10
  go_wp2
  go_loopw [4] (fun iv wr => ∃ (j : Nat) (cur : Array Value), j ≤ n ∧ iv = .int .i64 (j : Int) ∧ wr.heap[w.heap.size]? = some (.cells cur 27) ∧ cur.size = n * 3 ∧ InA cur (ps.take j) ∧ Below w.heap.size w wr) (fun i _ => n - (intOf i).toNat)
  case atStart => exact ⟨0, cur1, by omega, rfl, hg1, hs1, fun i t ht => by simp at ht, hbl1⟩
  case round =>
    clear hg1 hs1 hbl1 hmk
    obtain ⟨j, cur, hj, rfl, hg, hs, hin, hbl⟩ := hrel
    by_cases hlt : j < n
    · have hli : (j : Int) < (n : Int) := by omega
      obtain ⟨g, o, rfl, hp⟩ : ∃ g o, a = some ⟨g, o, none⟩ ∧ Pts w g o ps := by
        rcases hA with h0 | h
        · omega
        · exact h
      obtain ⟨t, ht⟩ : ∃ t, ps[j]? = some t := ⟨_, List.getElem?_eq_getElem (by omega)⟩
      have pp := hp.below hbl hp.lt
      have c0 := pp.c0 j t ht
      have c1 := pp.c1 j t ht
      have c2 := pp.c2 j t ht
      have htk : Hid (ps.take (j + 1) = ps.take j ++ [t]) := by simp only [Hid]; rw [List.take_add_one, ht]; rfl
      obtain ⟨tx, ty, tc⟩ := t
      dsimp only at c0 c1 c2
      have hl3 : (ps.take j).length = j := by rw [List.length_take]; omega
      clear ht pp hp hA
      go_wp2_with fail
      refine (hT _ _ _ _).mono ?_
      rintro e w2 ⟨rfl, b2⟩
      have hlt2 : w.heap.size < wr.heap.size := (Array.getElem?_eq_some_iff.1 hg).1
      replace hg := (b2.block _ hlt2).trans hg
      replace hbl := hbl.trans (b2.mono hbl.size)
      clear b2 c0 c1 c2 hlt2
      have d0 : w2.cell? ⟨w.heap.size, j * 3, none⟩ = some cur[j * 3] := by rw [cell_of_row _ _ _ _ _ _ hg]; exact Array.getElem?_eq_getElem (by omega)
      have d1 : w2.cell? ⟨w.heap.size, j * 3 + 1, none⟩ = some cur[j * 3 + 1] := by rw [cell_of_row _ _ _ _ _ _ hg]; exact Array.getElem?_eq_getElem (by omega)
      have d2 : w2.cell? ⟨w.heap.size, j * 3 + 2, none⟩ = some cur[j * 3 + 2] := by rw [cell_of_row _ _ _ _ _ _ hg]; exact Array.getElem?_eq_getElem (by omega)
      have f0 : ∀ i, w2.frozen? ⟨w.heap.size, i, none⟩ = false := fun i => frozen_of_row _ _ i _ _ hg
      generalize cur[j * 3] = u0 at *
      generalize cur[j * 3 + 1] = u1 at *
      generalize cur[j * 3 + 2] = u2 at *
      go_wp2
      obtain ⟨cur', q1, q2, q3, q4, q5, q6⟩ := set3_at hg (k := j * 3) (by omega) (.int .u64 (tx : Int)) (.int .u64 (ty : Int)) (.bool tc)
      have R1 : InA cur' (ps.take (j + 1)) := by
        rw [htk.out]
        intro i t ht
        by_cases hij : i < j
        · rw [List.getElem?_append_left (by omega)] at ht
          have := hin i t ht
          rw [q6 _ (by omega), q6 _ (by omega), q6 _ (by omega)]
          exact this
        · rw [List.getElem?_append_right (by omega), hl3] at ht
          have h0 : i = j := by
            have := (List.getElem?_eq_some_iff.1 ht).1
            simp at this
            omega
          subst h0
          simp at ht
          subst ht
          exact ⟨q3, q4, q5⟩
      have R2 : Below w.heap.size w (((w2.setCell ⟨w.heap.size, j * 3, none⟩ (.int .u64 (tx : Int))).setCell ⟨w.heap.size, j * 3 + 1, none⟩ (.int .u64 (ty : Int))).setCell ⟨w.heap.size, j * 3 + 2, none⟩ (.bool tc)) :=
        ((hbl.setCell (p := ⟨w.heap.size, j * 3, none⟩) (Nat.le_refl _) _).setCell (p := ⟨w.heap.size, j * 3 + 1, none⟩) (Nat.le_refl _) _).setCell (p := ⟨w.heap.size, j * 3 + 2, none⟩) (Nat.le_refl _) _
      rw [hs] at q2
      clear d0 d1 d2 f0 hin hg hbl q3 q4 q5 q6
      generalize ((w2.setCell ⟨w.heap.size, j * 3, none⟩ (.int .u64 (tx : Int))).setCell ⟨w.heap.size, j * 3 + 1, none⟩ (.int .u64 (ty : Int))).setCell ⟨w.heap.size, j * 3 + 2, none⟩ (.bool tc) = W3 at *
      go_roundw
      case rel =>
        first
          | exact ⟨j + 1, cur', by omega, by go_num, q1, q2, R1, R2⟩
          | ((repeat apply Exists.intro); exact ⟨⟨j + 1, cur', by omega, by go_num, q1, q2, R1, R2⟩, rfl⟩)
      case measure => simp [intOf]; omega
    · obtain rfl : j = n := by omega
      rw [List.take_of_length_le (by omega)] at hin
      go_wp2
      go_ret
      exact ⟨w.heap.size, rfl, ⟨cur, hg, hin⟩, hbl⟩
set_option maxRecDepth 100000 in
theorem szL_yes (a : Option Addr) (n cap : Nat) (left : Int) (w : World) (h : (n : Int) ≤ left) (hl : left ≤ 1048576) :
    Calls Tryz.prog 7 #[.slice a n cap, .int .i64 left] w fun e w' => e = .returned (.int .i64 (left - n)) ∧ w = w' := by
  have e : IntKind.i64.wrap (left - n) = left - n := i64_in _ (by omega) (by omega)
  have g : ¬ (left - n : Int) < 0 := by omega
  go_enter Tryz.func7, Tryz.ntmps7
  go_wp2
  go_ret
  exact ⟨rfl, rfl⟩
set_option maxRecDepth 100000 in
theorem szL_no (a : Option Addr) (n cap : Nat) (left : Int) (w : World) (h : left < (n : Int)) (hl : left ≤ 1048576) (h0 : 0 ≤ left) (hn : n ≤ maxLen) :
    Calls Tryz.prog 7 #[.slice a n cap, .int .i64 left] w fun e w' => e = .returned (.int .i64 (-1)) ∧ w = w' := by
  unfold maxLen at hn
  have e : IntKind.i64.wrap (left - n) = left - n := i64_in _ (by omega) (by omega)
  have g : (left - n : Int) < 0 := by omega
  go_enter Tryz.func7, Tryz.ntmps7
  go_wp2
  go_ret
  exact ⟨rfl, rfl⟩
theorem cf_eqPoint (args : Array Value) (w : World) : (callFunc 12 args).run Tryz.prog w = .ok (.enter 12 args) w := by kernel_rfl
theorem notT {A : Act} {w : World} {dst : Option Tmp} {ty : TypeId} {ps : String} {af : Array Edge} {gd : Option (Nat × Bool)} {x : Operand} (hx : A.eval x = .bool true) :
    Does Tryz.prog { dst := dst, op := .unOp .not 4 x, type := ty, pos := ps, after := af, guard := gd } A w fun v' w' => v' = .bool false ∧ Below w.heap.size w w' := by
  have h : (execOp A.eval { dst := dst, op := .unOp .not 4 x, type := ty, pos := ps, after := af, guard := gd }).run Tryz.prog w = .ok (.value (.bool false)) w := by generalize A.eval = ev at *; simp [execOp, hx, go_sem]
  exact does_value h ⟨rfl, Below.refl _ _⟩
set_option maxRecDepth 100000 in
set_option maxHeartbeats 2000000 in
theorem epsL_any (ps : List Tri) (x y : Nat) (w : World) (hx : Mad x ps w) (hy : Mad y ps w) (hn : ps.length ≤ 1048576) :
    Calls Tryz.prog 13 #[.slice (some ⟨x, 0, none⟩) ps.length ps.length, .slice (some ⟨y, 0, none⟩) ps.length ps.length] w fun e w' => e = .returned (.bool true) ∧ Below w.heap.size w w' := by
  have hX := hx.pts
  have hY := hy.pts
  obtain ⟨n, hl⟩ : ∃ n, ps.length = n := ⟨_, rfl⟩
  rw [hl] at hn ⊢
  clear hx hy
  go_enter Tryz.func13, Tryz.ntmps13
  go_wp2
  go_loopw [5] (fun iv wr => ∃ j : Nat, j ≤ n ∧ iv = .int .i64 (j : Int) ∧ Below w.heap.size w wr) (fun i _ => n - (intOf i).toNat)
  case atStart => exact ⟨0, by omega, rfl, Below.refl _ _⟩
  case round =>
    obtain ⟨j, hj, rfl, hbl⟩ := hrel
    by_cases hlt : j < n
    · have hli : (j : Int) < (n : Int) := by omega
      obtain ⟨t, ht⟩ : ∃ t, ps[j]? = some t := ⟨_, List.getElem?_eq_getElem (by omega)⟩
      have px' := (hX.below hbl hX.lt).drew
      have py' := (hY.below hbl hY.lt).drew
      have c0 := px'.c0 j t ht
      have c1 := px'.c1 j t ht
      have c2 := px'.c2 j t ht
      have d0 := py'.c0 j t ht
      have d1 := py'.c1 j t ht
      have d2 := py'.c2 j t ht
      have E := eqP (t.1 : Int) (t.2.1 : Int) t.2.2
      obtain ⟨tx, ty, tc⟩ := t
      dsimp only at c0 c1 c2 d0 d1 d2 E
      clear ht px' py'
      go_wp2
      refine pool_list [.val (.slice (some ⟨x, 0, none⟩) n n),
          .val (.int .i64 (j : Int)),
          .val (.pointer (some ⟨x, 0 + j * 3, none⟩)),
          .val (.agg #[.int .u64 (tx : Int), .int .u64 (ty : Int), .bool tc]),
          .val (.slice (some ⟨y, 0, none⟩) n n),
          .val (.int .i64 (j : Int)),
          .val (.pointer (some ⟨y, 0 + j * 3, none⟩)),
          .val (.agg #[.int .u64 (tx : Int), .int .u64 (ty : Int), .bool tc]),
          .val (.bool true),
          .val (.bool false)] [[0], [5], [17, 18], [19], [1], [5], [21, 22], [23], [20, 24], [25]] (fun f => [(some 17, .slice (some ⟨x, 0, none⟩) n n), (some 18, .int .i64 (j : Int)), (some 19, .pointer (some ⟨x, 0 + j * 3, none⟩)), (some 20, .agg #[.int .u64 (tx : Int), .int .u64 (ty : Int), .bool tc]), (some 21, .slice (some ⟨y, 0, none⟩) n n), (some 22, .int .i64 (j : Int)), (some 23, .pointer (some ⟨y, 0 + j * 3, none⟩)), (some 24, .agg #[.int .u64 (tx : Int), .int .u64 (ty : Int), .bool tc]), (some 25, .bool true), (some 26, .bool false)]) (by kernel_rfl) (by kernel_rfl) (by kernel_rfl) (by kernel_rfl) (fun _ => by kernel_rfl) ?_ ?_
      · intro ix hix
        match ix, hix with
        | 0, _ => exact ob_val [(0, .slice (some ⟨x, 0, none⟩) n n)] rfl rfl (fun _ => by kernel_rfl) (fun A w ⟨e0, _⟩ hB => doV_move e0)
        | 1, _ => exact ob_val [(5, .int .i64 (j : Int))] rfl rfl (fun _ => by kernel_rfl) (fun A w ⟨e0, _⟩ hB => doV_move e0)
        | 2, _ => exact ob_val [(17, .slice (some ⟨x, 0, none⟩) n n), (18, .int .i64 (j : Int))] rfl rfl (fun _ => by kernel_rfl) (fun A w ⟨e0, e1, _⟩ hB => ix_pts e0 e1 (by omega))
        | 3, _ => exact ob_val [(19, .pointer (some ⟨x, 0 + j * 3, none⟩))] rfl rfl (fun _ => by kernel_rfl) (fun A w ⟨e0, _⟩ hB => ld_pt e0 (keepC c0 hB) (keepC c1 hB) (keepC c2 hB))
        | 4, _ => exact ob_val [(1, .slice (some ⟨y, 0, none⟩) n n)] rfl rfl (fun _ => by kernel_rfl) (fun A w ⟨e0, _⟩ hB => doV_move e0)
        | 5, _ => exact ob_val [(5, .int .i64 (j : Int))] rfl rfl (fun _ => by kernel_rfl) (fun A w ⟨e0, _⟩ hB => doV_move e0)
        | 6, _ => exact ob_val [(21, .slice (some ⟨y, 0, none⟩) n n), (22, .int .i64 (j : Int))] rfl rfl (fun _ => by kernel_rfl) (fun A w ⟨e0, e1, _⟩ hB => ix_pts e0 e1 (by omega))
        | 7, _ => exact ob_val [(23, .pointer (some ⟨y, 0 + j * 3, none⟩))] rfl rfl (fun _ => by kernel_rfl) (fun A w ⟨e0, _⟩ hB => ld_pt e0 (keepC d0 hB) (keepC d1 hB) (keepC d2 hB))
        | 8, _ => exact ob_val [(20, .agg #[.int .u64 (tx : Int), .int .u64 (ty : Int), .bool tc]), (24, .agg #[.int .u64 (tx : Int), .int .u64 (ty : Int), .bool tc])] rfl rfl (fun _ => by kernel_rfl) (fun A w ⟨e0, e1, _⟩ hB => cl2 cf_eqPoint e0 e1 (E w))
        | 9, _ => exact ob_val [(25, .bool true)] rfl rfl (fun _ => by kernel_rfl) (fun A w ⟨e0, _⟩ hB => notT e0)
        | ix + 10, h => exact absurd h (by simp)
      intro f W2 hb2 _ _
      have hb2' : Below wr.heap.size wr W2 := (Below.refl _ wr).drew.trans hb2
      have R2 := hbl.trans (hb2'.mono hbl.size)
      clear c0 c1 c2 d0 d1 d2 E hb2 hb2' hbl
      simp only [puts, List.foldl, Act.put, List.setIfInBounds_toArray, List.set_cons_zero, List.set_cons_succ]
      go_wp2
      go_roundw
      case rel =>
        first
          | exact ⟨j + 1, by omega, by go_num, R2⟩
          | ((repeat apply Exists.intro); exact ⟨⟨j + 1, by omega, by go_num, R2⟩, rfl⟩)
      case measure => simp [intOf]; omega
    · obtain rfl : j = n := by omega
      go_wp2
      go_ret
      exact ⟨rfl, hbl⟩
end Go.Proofs.YtagnikeaellbiaaGreatDoor

namespace Go.Proofs.YtagnikeaellbiaaGreatDoor
open Go.RowKit
set_option linter.unusedVariables false
set_option maxRecDepth 100000
section
variable {A : Act} {w : World} {dst : Option Tmp} {ty : TypeId} {ps : String} {af : Array Edge} {gd : Option (Nat × Bool)} {x y : Operand} {b i : Nat}
theorem ld_lpt {v0 v1 v2 : Value} (hx : A.eval x = .pointer (some ⟨b, i, none⟩)) (h0 : w.cell? ⟨b, i, none⟩ = some v0) (h1 : w.cell? ⟨b, i + 1, none⟩ = some v1) (h2 : w.cell? ⟨b, i + 2, none⟩ = some v2) :
    Does Tryz.prog { dst := dst, op := .load 24 x, type := ty, pos := ps, after := af, guard := gd } A w fun v' w' => v' = .agg #[v0, v1, v2] ∧ Below w.heap.size w w' := by
  have h : (execOp A.eval { dst := dst, op := .load 24 x, type := ty, pos := ps, after := af, guard := gd }).run Tryz.prog w = .ok (.value (.agg #[v0, v1, v2])) w := by generalize A.eval = ev at *; simp [execOp, hx, h0, h1, h2, go_sem]
  exact does_value h ⟨rfl, Below.refl _ _⟩
theorem ld_lprf {v0 v1 : Value} (hx : A.eval x = .pointer (some ⟨b, i, none⟩)) (h0 : w.cell? ⟨b, i, none⟩ = some v0) (h1 : w.cell? ⟨b, i + 1, none⟩ = some v1) :
    Does Tryz.prog { dst := dst, op := .load 42 x, type := ty, pos := ps, after := af, guard := gd } A w fun v' w' => v' = .agg #[v0, v1] ∧ Below w.heap.size w w' := by
  have h : (execOp A.eval { dst := dst, op := .load 42 x, type := ty, pos := ps, after := af, guard := gd }).run Tryz.prog w = .ok (.value (.agg #[v0, v1])) w := by generalize A.eval = ev at *; simp [execOp, hx, h0, h1, go_sem]
  exact does_value h ⟨rfl, Below.refl _ _⟩
theorem ld_prf {v0 v1 : Value} (hx : A.eval x = .pointer (some ⟨b, i, none⟩)) (h0 : w.cell? ⟨b, i, none⟩ = some v0) (h1 : w.cell? ⟨b, i + 1, none⟩ = some v1) :
    Does Tryz.prog { dst := dst, op := .load 37 x, type := ty, pos := ps, after := af, guard := gd } A w fun v' w' => v' = .agg #[v0, v1] ∧ Below w.heap.size w w' := by
  have h : (execOp A.eval { dst := dst, op := .load 37 x, type := ty, pos := ps, after := af, guard := gd }).run Tryz.prog w = .ok (.value (.agg #[v0, v1])) w := by generalize A.eval = ev at *; simp [execOp, hx, h0, h1, go_sem]
  exact does_value h ⟨rfl, Below.refl _ _⟩
theorem xt2_0 {u0 u1 : Value} (hx : A.eval x = .tuple #[u0, u1]) :
    Does Tryz.prog { dst := dst, op := .extract x 0, type := ty, pos := ps, after := af, guard := gd } A w fun v' w' => v' = u0 ∧ Below w.heap.size w w' := by
  have h : (execOp A.eval { dst := dst, op := .extract x 0, type := ty, pos := ps, after := af, guard := gd }).run Tryz.prog w = .ok (.value (u0)) w := by generalize A.eval = ev at *; simp [execOp, hx, go_sem]
  exact does_value h ⟨rfl, Below.refl _ _⟩
theorem xt2_1 {u0 u1 : Value} (hx : A.eval x = .tuple #[u0, u1]) :
    Does Tryz.prog { dst := dst, op := .extract x 1, type := ty, pos := ps, after := af, guard := gd } A w fun v' w' => v' = u1 ∧ Below w.heap.size w w' := by
  have h : (execOp A.eval { dst := dst, op := .extract x 1, type := ty, pos := ps, after := af, guard := gd }).run Tryz.prog w = .ok (.value (u1)) w := by generalize A.eval = ev at *; simp [execOp, hx, go_sem]
  exact does_value h ⟨rfl, Below.refl _ _⟩
theorem xt3_0 {u0 u1 u2 : Value} (hx : A.eval x = .tuple #[u0, u1, u2]) :
    Does Tryz.prog { dst := dst, op := .extract x 0, type := ty, pos := ps, after := af, guard := gd } A w fun v' w' => v' = u0 ∧ Below w.heap.size w w' := by
  have h : (execOp A.eval { dst := dst, op := .extract x 0, type := ty, pos := ps, after := af, guard := gd }).run Tryz.prog w = .ok (.value (u0)) w := by generalize A.eval = ev at *; simp [execOp, hx, go_sem]
  exact does_value h ⟨rfl, Below.refl _ _⟩
theorem xt3_1 {u0 u1 u2 : Value} (hx : A.eval x = .tuple #[u0, u1, u2]) :
    Does Tryz.prog { dst := dst, op := .extract x 1, type := ty, pos := ps, after := af, guard := gd } A w fun v' w' => v' = u1 ∧ Below w.heap.size w w' := by
  have h : (execOp A.eval { dst := dst, op := .extract x 1, type := ty, pos := ps, after := af, guard := gd }).run Tryz.prog w = .ok (.value (u1)) w := by generalize A.eval = ev at *; simp [execOp, hx, go_sem]
  exact does_value h ⟨rfl, Below.refl _ _⟩
theorem xt3_2 {u0 u1 u2 : Value} (hx : A.eval x = .tuple #[u0, u1, u2]) :
    Does Tryz.prog { dst := dst, op := .extract x 2, type := ty, pos := ps, after := af, guard := gd } A w fun v' w' => v' = u2 ∧ Below w.heap.size w w' := by
  have h : (execOp A.eval { dst := dst, op := .extract x 2, type := ty, pos := ps, after := af, guard := gd }).run Tryz.prog w = .ok (.value (u2)) w := by generalize A.eval = ev at *; simp [execOp, hx, go_sem]
  exact does_value h ⟨rfl, Below.refl _ _⟩
theorem al_prf : Does Tryz.prog { dst := dst, op := .alloc 37, type := ty, pos := ps, after := af, guard := gd } A w fun v w' => v = .pointer (some ⟨w.heap.size, 0, none⟩) ∧ w' = w.alloc (.cells #[.int .u64 0, .int .u64 0] 37) := by
  have h : (execOp A.eval { dst := dst, op := .alloc 37, type := ty, pos := ps, after := af, guard := gd }).run Tryz.prog w = .ok (.value (.pointer (some ⟨w.heap.size, 0, none⟩))) (w.alloc (.cells #[.int .u64 0, .int .u64 0] 37)) := by simp [execOp, go_sem]
  exact does_value h ⟨rfl, rfl⟩
theorem pu_prf {z0 : Int} {z1 : Int} (hx : A.eval x = .pointer (some ⟨b, 0, none⟩)) (hy : A.eval y = .agg #[.int .u64 z0, .int .u64 z1]) (hr : w.heap[b]? = some (.cells #[.int .u64 0, .int .u64 0] 37)) :
    Does Tryz.prog { dst := dst, op := .store 37 x y, type := ty, pos := ps, after := af, guard := gd } A w fun _ w' => Turned b (.cells #[.int .u64 z0, .int .u64 z1] 37) w w' := by
  have c0 : w.cell? ⟨b, 0, none⟩ = some (.int .u64 0) := by simp [World.cell?, hr]
  have c1 : w.cell? ⟨b, 1, none⟩ = some (.int .u64 0) := by simp [World.cell?, hr]
  have hf : ∀ k, w.frozen? ⟨b, k, none⟩ = false := fun k => by simp [World.frozen?, hr]
  have h : (execOp A.eval { dst := dst, op := .store 37 x y, type := ty, pos := ps, after := af, guard := gd }).run Tryz.prog w = .ok .skip ((w.setCell ⟨b, 0, none⟩ (.int .u64 z0)).setCell ⟨b, 1, none⟩ (.int .u64 z1)) := by generalize A.eval = ev at *; simp [execOp, hx, hy, hf, c0, c1, go_sem]
  refine does_skip h ⟨rfl, rfl, rfl, by simp [World.setCell], by simp [World.setCell, Array.getElem?_modify, hr], fun k hk => ?_⟩
  simp [World.setCell, Array.getElem?_modify, Ne.symm hk]
end
theorem cf_laws_toPoint (args : Array Value) (w : World) : (callFunc 9 args).run Tryz.prog w = .ok (.enter 9 args) w := by kernel_rfl
theorem cf_laws_toPointS (args : Array Value) (w : World) : (callFunc 10 args).run Tryz.prog w = .ok (.enter 10 args) w := by kernel_rfl
theorem cf_laws_toProof (args : Array Value) (w : World) : (callFunc 18 args).run Tryz.prog w = .ok (.enter 18 args) w := by kernel_rfl
theorem cf_spec_Prove (args : Array Value) (w : World) : (callFunc 14 args).run Tryz.prog w = .ok (.enter 14 args) w := by kernel_rfl
theorem cf_impl_Prove (args : Array Value) (w : World) : (callFunc 15 args).run Tryz.prog w = .ok (.enter 15 args) w := by kernel_rfl
theorem cf_spec_Check (args : Array Value) (w : World) : (callFunc 17 args).run Tryz.prog w = .ok (.enter 17 args) w := by kernel_rfl
theorem cf_impl_Check (args : Array Value) (w : World) : (callFunc 19 args).run Tryz.prog w = .ok (.enter 19 args) w := by kernel_rfl
/-- a slice of n elements at the head of a block of its own -/
def slN (n x : Nat) : Value := .slice (some ⟨x, 0, none⟩) n n
theorem mad_lasts (ps : List Tri) (obs : List Obj) (hne : ∀ ob ∈ obs, ∃ cs T, ob = .cells cs T ∧ T ≠ 27) : G.Lasts (fun x w => Mad x ps w) obs :=
  ⟨fun x w w' h hb => h.keep hb, fun x w w' b ob ob' h hm hw hT => by
    obtain ⟨cs, T, rfl, hT'⟩ := hne ob hm
    obtain ⟨cur, h1, h2⟩ := h
    refine ⟨cur, ?_, h2⟩
    rw [hT.other x (fun e => ?_)]
    · exact h1
    · subst e
      rw [h1] at hw
      cases hw
      exact hT' rfl⟩
end Go.Proofs.YtagnikeaellbiaaGreatDoor
