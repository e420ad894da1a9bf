import Derived.Test.YtjmhmajfkdglnaaGreatDoorMrg20
import Derived.Test.YtjmhmajfkdglnaaGreatDoorMrg6
import Derived.Test.YtjmhmajfkdglnaaGreatDoorMrg46
import Derived.Test.YtjmhmajfkdglnaaGreatDoorMrg22
import Derived.Test.YtjmhmajfkdglnaaGreatDoorMrg4
import Derived.Test.YtjmhmajfkdglnaaGreatDoorCards
import Derived.Test.YtjmhmajfkdglnaaGreatDoorTie
import Derived.OpenShut
import Derived.ShutString
import Derived.ChangeOld
import Derived.OpenVars
import Derived.Deep.DeepHandedRow
import Derived.Lib.LaidTab
import Derived.LaidSub
import Derived.Carry
import Derived.Deep.Strs
/-
  Slices of points of the laws: toPointS, eqPointS, szPointS.
-/
namespace Go.Proofs.YtjmhmajfkdglnaaGreatDoor
open Go.RowKit M
set_option linter.unusedVariables false

/-- a slice that came in: nil, empty, or points in a row -/
def Ars (W : World) (v : Value) (ps : List Tri) : Prop := ∃ a n cap, v = .slice a n cap ∧ ps.length = n ∧ (n = 0 ∨ ∃ g o, a = some ⟨g, o, none⟩ ∧ Pts W g o ps)
theorem Ars.keep {W W' : World} {v : Value} {ps : List Tri} (h : Ars W v ps) (hb : Below W.heap.size W W') : Ars W' v ps := by
  obtain ⟨a, n, cap, hv, hl, h0 | ⟨g, o, ha, hp⟩⟩ := h
  · exact ⟨a, n, cap, hv, hl, .inl h0⟩
  · exact ⟨a, n, cap, hv, hl, .inr ⟨g, o, ha, hp.keep hb⟩⟩
theorem Ars.keep' {W W' : World} {v : Value} {ps : List Tri} (h : Ars W v ps) (hb : Below W.heap.size W W') : Ars W' v ps := h.keep hb
/-- points in a block of cells -/
def InA (cur : Array Value) (ps : List Tri) : Prop := ∀ i (t : Tri), ps[i]? = some t → cur[i * 3]? = some (.int .u64 (t.1 : Int)) ∧ cur[i * 3 + 1]? = some (.int .u64 (t.2.1 : Int)) ∧ cur[i * 3 + 2]? = some (.bool t.2.2)
theorem InA.pts {W : World} {g : Nat} {T : TypeId} {cur : Array Value} {ps : List Tri} (h : InA cur ps) (hg : W.heap[g]? = some (.cells cur T)) : Pts W g 0 ps := by
  refine ⟨(Array.getElem?_eq_some_iff.1 hg).1, fun i t ht => ?_, fun i t ht => ?_, fun i t ht => ?_⟩
  · rw [cell_of_row _ _ _ _ _ _ hg, Nat.zero_add]; exact (h i t ht).1
  · rw [cell_of_row _ _ _ _ _ _ hg, Nat.zero_add]; exact (h i t ht).2.1
  · rw [cell_of_row _ _ _ _ _ _ hg, Nat.zero_add]; exact (h i t ht).2.2
theorem set3_at {W : World} {g k : Nat} {T : TypeId} {cur : Array Value} (hg : W.heap[g]? = some (.cells cur T)) (hk : k + 2 < cur.size) (v0 v1 v2 : Value) :
    ∃ cur', (((W.setCell ⟨g, k, none⟩ v0).setCell ⟨g, k + 1, none⟩ v1).setCell ⟨g, k + 2, none⟩ v2).heap[g]? = some (.cells cur' T) ∧ cur'.size = cur.size ∧ cur'[k]? = some v0 ∧ cur'[k + 1]? = some v1 ∧ cur'[k + 2]? = some v2 ∧ ∀ i, i < k → cur'[i]? = cur[i]? := by
  refine ⟨((cur.setIfInBounds k v0).setIfInBounds (k + 1) v1).setIfInBounds (k + 2) v2, ?_, by simp, ?_, ?_, ?_, fun i hi => ?_⟩
  · simp [World.setCell, Array.getElem?_modify, hg]
  · rw [Array.getElem?_setIfInBounds, if_neg (by omega), Array.getElem?_setIfInBounds, if_neg (by omega), Array.getElem?_setIfInBounds, if_pos rfl, if_pos (by omega)]
  · rw [Array.getElem?_setIfInBounds, if_neg (by omega), Array.getElem?_setIfInBounds, if_pos rfl, if_pos (by simp; omega)]
  · rw [Array.getElem?_setIfInBounds, if_pos rfl, if_pos (by simp; omega)]
  · rw [Array.getElem?_setIfInBounds, if_neg (by omega), Array.getElem?_setIfInBounds, if_neg (by omega), Array.getElem?_setIfInBounds, if_neg (by omega)]
theorem infoPt : (Tryz.prog.info? 28).map (fun i => (i.zero, i.size, i.bytes)) = some (some (.agg #[.int .u64 0, .int .u64 0, .bool false]), 3, 24) := by kernel_rfl
set_option maxRecDepth 100000 in
set_option maxHeartbeats 2000000 in
theorem toP5 (x y : Int) (c : Bool) (w : World) :
    Calls Tryz.prog 11 #[.agg #[.int .u64 x, .int .u64 y, .bool c]] w fun e w' => e = .returned (.agg #[.int .u64 x, .int .u64 y, .bool c]) ∧ Below w.heap.size w w' := by
  go_enter Tryz.func11, Tryz.ntmps11
  go_wp2
  refine bodyPost_ret (v := .agg #[.int .u64 x, .int .u64 y, .bool c]) (by simp [results, Tryz.results11, go_sem]) rfl ⟨rfl, ?_⟩
  exact (((Below.refl _ w).alloc (Nat.le_refl _) _).alloc (by simp) _).alloc (by simp; omega) _
/-- the block of a slice of points that a law has made -/
def Mad (x : Nat) (ps : List Tri) (w : World) : Prop := ∃ cur, w.heap[x]? = some (.cells cur 28) ∧ InA cur ps
theorem Mad.pts {x : Nat} {ps : List Tri} {w : World} (h : Mad x ps w) : Pts w x 0 ps := by obtain ⟨cur, h1, h2⟩ := h; exact h2.pts h1
theorem Mad.keep {x : Nat} {ps : List Tri} {w w' : World} (h : Mad x ps w) (hb : Below w.heap.size w w') : Mad x ps w' := by
  obtain ⟨cur, h1, h2⟩ := h
  exact ⟨cur, (hb.block x (Array.getElem?_eq_some_iff.1 h1).1).trans h1, h2⟩
set_option maxRecDepth 100000 in
set_option maxHeartbeats 2000000 in
theorem tpsL_any (v : Value) (ps : List Tri) (w : World) (hA : Ars w v ps) (hn : ps.length ≤ 1048576) :
    Calls Tryz.prog 16 #[v] w fun e w' => ∃ x, e = .returned (.slice (some ⟨x, 0, none⟩) ps.length ps.length) ∧ Mad x ps w' ∧ Below w.heap.size w w' := by
  obtain ⟨a, n, cap, rfl, hl, hA⟩ := hA
  obtain ⟨i0, hi, hz0, hz1, hz2⟩ := info_parts infoPt
  rw [hl] at hn ⊢
  obtain ⟨w1, hmk, ⟨cur1, hg1, hs1⟩, hbl1⟩ : ∃ w1, (Instr.makeSlice 38 (.int .i64 n) (.int .i64 n)).run Tryz.prog w = .ok (.slice (some ⟨w.heap.size, 0, none⟩) n n) w1 ∧ (∃ cur, w1.heap[w.heap.size]? = some (.cells cur 28) ∧ cur.size = n * 3) ∧ Below w.heap.size w w1 := by
    obtain ⟨w1, hr, ho, hg⟩ := run_make_full (P := Tryz.prog) w w.heap.size 38 28 i0 (.agg #[.int .u64 0, .int .u64 0, .bool false]) 3 Tryz.underlying38 hi hz0 hz1 .i64 .i64 n (by rw [hz2]; omega) (by unfold maxLen; omega) (Nat.le_refl _)
    refine ⟨w1, hr, ?_, (Below.refl _ _).grown hg (Nat.le_refl _) (fun r hr => by cases hr)⟩
    rcases ho.2 with ⟨h0, _⟩ | ⟨g, cp, cur, hv, -, hcur, -, -, hsz, -⟩
    · cases h0
    · injection hv with e1 e2 e3
      injection e1 with e1
      injection e1 with e1
      subst e1 e3
      exact ⟨cur, hcur, hsz⟩
  have hT := toP5
  go_enter Tryz.func16, Tryz.ntmps16
  go_wp2
  go_loopw [4] (fun iv wr => ∃ (j : Nat) (cur : Array Value), j ≤ n ∧ iv = .int .i64 (j : Int) ∧ wr.heap[w.heap.size]? = some (.cells cur 28) ∧ cur.size = n * 3 ∧ InA cur (ps.take j) ∧ Below w.heap.size w wr) (fun i _ => n - (intOf i).toNat)
  case atStart => exact ⟨0, cur1, by omega, rfl, hg1, hs1, fun i t ht => by simp at ht, hbl1⟩
  case round =>
    clear hg1 hs1 hbl1 hmk
    obtain ⟨j, cur, hj, rfl, hg, hs, hin, hbl⟩ := hrel
    by_cases hlt : j < n
    · have hli : (j : Int) < (n : Int) := by omega
      obtain ⟨g, o, rfl, hp⟩ : ∃ g o, a = some ⟨g, o, none⟩ ∧ Pts w g o ps := by
        rcases hA with h0 | h
        · omega
        · exact h
      obtain ⟨t, ht⟩ : ∃ t, ps[j]? = some t := ⟨_, List.getElem?_eq_getElem (by omega)⟩
      have pp := hp.below hbl hp.lt
      have c0 := pp.c0 j t ht
      have c1 := pp.c1 j t ht
      have c2 := pp.c2 j t ht
      have htk : Hid (ps.take (j + 1) = ps.take j ++ [t]) := by simp only [Hid]; rw [List.take_add_one, ht]; rfl
      obtain ⟨tx, ty, tc⟩ := t
      dsimp only at c0 c1 c2
      have hl3 : (ps.take j).length = j := by rw [List.length_take]; omega
      clear ht pp hp hA
      go_wp2_with fail
      refine (hT _ _ _ _).mono ?_
      rintro e w2 ⟨rfl, b2⟩
      have hlt2 : w.heap.size < wr.heap.size := (Array.getElem?_eq_some_iff.1 hg).1
      replace hg := (b2.block _ hlt2).trans hg
      replace hbl := hbl.trans (b2.mono hbl.size)
      clear b2 c0 c1 c2 hlt2
      have d0 : w2.cell? ⟨w.heap.size, j * 3, none⟩ = some cur[j * 3] := by rw [cell_of_row _ _ _ _ _ _ hg]; exact Array.getElem?_eq_getElem (by omega)
      have d1 : w2.cell? ⟨w.heap.size, j * 3 + 1, none⟩ = some cur[j * 3 + 1] := by rw [cell_of_row _ _ _ _ _ _ hg]; exact Array.getElem?_eq_getElem (by omega)
      have d2 : w2.cell? ⟨w.heap.size, j * 3 + 2, none⟩ = some cur[j * 3 + 2] := by rw [cell_of_row _ _ _ _ _ _ hg]; exact Array.getElem?_eq_getElem (by omega)
      have f0 : ∀ i, w2.frozen? ⟨w.heap.size, i, none⟩ = false := fun i => frozen_of_row _ _ i _ _ hg
      generalize cur[j * 3] = u0 at *
      generalize cur[j * 3 + 1] = u1 at *
      generalize cur[j * 3 + 2] = u2 at *
      go_wp2
      obtain ⟨cur', q1, q2, q3, q4, q5, q6⟩ := set3_at hg (k := j * 3) (by omega) (.int .u64 (tx : Int)) (.int .u64 (ty : Int)) (.bool tc)
      have R1 : InA cur' (ps.take (j + 1)) := by
        rw [htk.out]
        intro i t ht
        by_cases hij : i < j
        · rw [List.getElem?_append_left (by omega)] at ht
          have := hin i t ht
          rw [q6 _ (by omega), q6 _ (by omega), q6 _ (by omega)]
          exact this
        · rw [List.getElem?_append_right (by omega), hl3] at ht
          have h0 : i = j := by
            have := (List.getElem?_eq_some_iff.1 ht).1
            simp at this
            omega
          subst h0
          simp at ht
          subst ht
          exact ⟨q3, q4, q5⟩
      have R2 : Below w.heap.size w (((w2.setCell ⟨w.heap.size, j * 3, none⟩ (.int .u64 (tx : Int))).setCell ⟨w.heap.size, j * 3 + 1, none⟩ (.int .u64 (ty : Int))).setCell ⟨w.heap.size, j * 3 + 2, none⟩ (.bool tc)) :=
        ((hbl.setCell (p := ⟨w.heap.size, j * 3, none⟩) (Nat.le_refl _) _).setCell (p := ⟨w.heap.size, j * 3 + 1, none⟩) (Nat.le_refl _) _).setCell (p := ⟨w.heap.size, j * 3 + 2, none⟩) (Nat.le_refl _) _
      rw [hs] at q2
      clear d0 d1 d2 f0 hin hg hbl q3 q4 q5 q6
      generalize ((w2.setCell ⟨w.heap.size, j * 3, none⟩ (.int .u64 (tx : Int))).setCell ⟨w.heap.size, j * 3 + 1, none⟩ (.int .u64 (ty : Int))).setCell ⟨w.heap.size, j * 3 + 2, none⟩ (.bool tc) = W3 at *
      go_roundw
      case rel =>
        first
          | exact ⟨j + 1, cur', by omega, by go_num, q1, q2, R1, R2⟩
          | ((repeat apply Exists.intro); exact ⟨⟨j + 1, cur', by omega, by go_num, q1, q2, R1, R2⟩, rfl⟩)
      case measure => simp [intOf]; omega
    · obtain rfl : j = n := by omega
      rw [List.take_of_length_le (by omega)] at hin
      go_wp2
      go_ret
      exact ⟨w.heap.size, rfl, ⟨cur, hg, hin⟩, hbl⟩
set_option maxRecDepth 100000 in
theorem szL_yes (a : Option Addr) (n cap : Nat) (left : Int) (w : World) (h : (n : Int) ≤ left) (hl : left ≤ 1048576) :
    Calls Tryz.prog 14 #[.slice a n cap, .int .i64 left] w fun e w' => e = .returned (.int .i64 (left - n)) ∧ w = w' := by
  have e : IntKind.i64.wrap (left - n) = left - n := i64_in _ (by omega) (by omega)
  have g : ¬ (left - n : Int) < 0 := by omega
  go_enter Tryz.func14, Tryz.ntmps14
  go_wp2
  go_ret
  exact ⟨rfl, rfl⟩
set_option maxRecDepth 100000 in
theorem szL_no (a : Option Addr) (n cap : Nat) (left : Int) (w : World) (h : left < (n : Int)) (hl : left ≤ 1048576) (h0 : 0 ≤ left) (hn : n ≤ maxLen) :
    Calls Tryz.prog 14 #[.slice a n cap, .int .i64 left] w fun e w' => e = .returned (.int .i64 (-1)) ∧ w = w' := by
  unfold maxLen at hn
  have e : IntKind.i64.wrap (left - n) = left - n := i64_in _ (by omega) (by omega)
  have g : (left - n : Int) < 0 := by omega
  go_enter Tryz.func14, Tryz.ntmps14
  go_wp2
  go_ret
  exact ⟨rfl, rfl⟩
theorem cf_eqPoint (args : Array Value) (w : World) : (callFunc 47 args).run Tryz.prog w = .ok (.enter 47 args) w := by kernel_rfl
theorem notT {A : Act} {w : World} {dst : Option Tmp} {ty : TypeId} {ps : String} {af : Array Edge} {gd : Option (Nat × Bool)} {x : Operand} (hx : A.eval x = .bool true) :
    Does Tryz.prog { dst := dst, op := .unOp .not 4 x, type := ty, pos := ps, after := af, guard := gd } A w fun v' w' => v' = .bool false ∧ Below w.heap.size w w' := by
  have h : (execOp A.eval { dst := dst, op := .unOp .not 4 x, type := ty, pos := ps, after := af, guard := gd }).run Tryz.prog w = .ok (.value (.bool false)) w := by generalize A.eval = ev at *; simp [execOp, hx, go_sem]
  exact does_value h ⟨rfl, Below.refl _ _⟩
set_option maxRecDepth 100000 in
set_option maxHeartbeats 2000000 in
theorem epsL_any (ps : List Tri) (x y : Nat) (w : World) (hx : Mad x ps w) (hy : Mad y ps w) (hn : ps.length ≤ 1048576) :
    Calls Tryz.prog 19 #[.slice (some ⟨x, 0, none⟩) ps.length ps.length, .slice (some ⟨y, 0, none⟩) ps.length ps.length] w fun e w' => e = .returned (.bool true) ∧ Below w.heap.size w w' := by
  have hX := hx.pts
  have hY := hy.pts
  obtain ⟨n, hl⟩ : ∃ n, ps.length = n := ⟨_, rfl⟩
  rw [hl] at hn ⊢
  clear hx hy
  go_enter Tryz.func19, Tryz.ntmps19
  go_wp2
  go_loopw [5] (fun iv wr => ∃ j : Nat, j ≤ n ∧ iv = .int .i64 (j : Int) ∧ Below w.heap.size w wr) (fun i _ => n - (intOf i).toNat)
  case atStart => exact ⟨0, by omega, rfl, Below.refl _ _⟩
  case round =>
    obtain ⟨j, hj, rfl, hbl⟩ := hrel
    by_cases hlt : j < n
    · have hli : (j : Int) < (n : Int) := by omega
      obtain ⟨t, ht⟩ : ∃ t, ps[j]? = some t := ⟨_, List.getElem?_eq_getElem (by omega)⟩
      have px' := (hX.below hbl hX.lt).drew
      have py' := (hY.below hbl hY.lt).drew
      have c0 := px'.c0 j t ht
      have c1 := px'.c1 j t ht
      have c2 := px'.c2 j t ht
      have d0 := py'.c0 j t ht
      have d1 := py'.c1 j t ht
      have d2 := py'.c2 j t ht
      have E := eqP (t.1 : Int) (t.2.1 : Int) t.2.2
      obtain ⟨tx, ty, tc⟩ := t
      dsimp only at c0 c1 c2 d0 d1 d2 E
      clear ht px' py'
      go_wp2
      refine pool_list [.val (.slice (some ⟨x, 0, none⟩) n n),
          .val (.int .i64 (j : Int)),
          .val (.pointer (some ⟨x, 0 + j * 3, none⟩)),
          .val (.agg #[.int .u64 (tx : Int), .int .u64 (ty : Int), .bool tc]),
          .val (.slice (some ⟨y, 0, none⟩) n n),
          .val (.int .i64 (j : Int)),
          .val (.pointer (some ⟨y, 0 + j * 3, none⟩)),
          .val (.agg #[.int .u64 (tx : Int), .int .u64 (ty : Int), .bool tc]),
          .val (.bool true),
          .val (.bool false)] [[0], [5], [17, 18], [19], [1], [5], [21, 22], [23], [20, 24], [25]] (fun f => [(some 17, .slice (some ⟨x, 0, none⟩) n n), (some 18, .int .i64 (j : Int)), (some 19, .pointer (some ⟨x, 0 + j * 3, none⟩)), (some 20, .agg #[.int .u64 (tx : Int), .int .u64 (ty : Int), .bool tc]), (some 21, .slice (some ⟨y, 0, none⟩) n n), (some 22, .int .i64 (j : Int)), (some 23, .pointer (some ⟨y, 0 + j * 3, none⟩)), (some 24, .agg #[.int .u64 (tx : Int), .int .u64 (ty : Int), .bool tc]), (some 25, .bool true), (some 26, .bool false)]) (by kernel_rfl) (by kernel_rfl) (by kernel_rfl) (by kernel_rfl) (fun _ => by kernel_rfl) ?_ ?_
      · intro ix hix
        match ix, hix with
        | 0, _ => exact ob_val [(0, .slice (some ⟨x, 0, none⟩) n n)] rfl rfl (fun _ => by kernel_rfl) (fun A w ⟨e0, _⟩ hB => doV_move e0)
        | 1, _ => exact ob_val [(5, .int .i64 (j : Int))] rfl rfl (fun _ => by kernel_rfl) (fun A w ⟨e0, _⟩ hB => doV_move e0)
        | 2, _ => exact ob_val [(17, .slice (some ⟨x, 0, none⟩) n n), (18, .int .i64 (j : Int))] rfl rfl (fun _ => by kernel_rfl) (fun A w ⟨e0, e1, _⟩ hB => ix_pts e0 e1 (by omega))
        | 3, _ => exact ob_val [(19, .pointer (some ⟨x, 0 + j * 3, none⟩))] rfl rfl (fun _ => by kernel_rfl) (fun A w ⟨e0, _⟩ hB => ld_pt e0 (keepC c0 hB) (keepC c1 hB) (keepC c2 hB))
        | 4, _ => exact ob_val [(1, .slice (some ⟨y, 0, none⟩) n n)] rfl rfl (fun _ => by kernel_rfl) (fun A w ⟨e0, _⟩ hB => doV_move e0)
        | 5, _ => exact ob_val [(5, .int .i64 (j : Int))] rfl rfl (fun _ => by kernel_rfl) (fun A w ⟨e0, _⟩ hB => doV_move e0)
        | 6, _ => exact ob_val [(21, .slice (some ⟨y, 0, none⟩) n n), (22, .int .i64 (j : Int))] rfl rfl (fun _ => by kernel_rfl) (fun A w ⟨e0, e1, _⟩ hB => ix_pts e0 e1 (by omega))
        | 7, _ => exact ob_val [(23, .pointer (some ⟨y, 0 + j * 3, none⟩))] rfl rfl (fun _ => by kernel_rfl) (fun A w ⟨e0, _⟩ hB => ld_pt e0 (keepC d0 hB) (keepC d1 hB) (keepC d2 hB))
        | 8, _ => exact ob_val [(20, .agg #[.int .u64 (tx : Int), .int .u64 (ty : Int), .bool tc]), (24, .agg #[.int .u64 (tx : Int), .int .u64 (ty : Int), .bool tc])] rfl rfl (fun _ => by kernel_rfl) (fun A w ⟨e0, e1, _⟩ hB => cl2 cf_eqPoint e0 e1 (E w))
        | 9, _ => exact ob_val [(25, .bool true)] rfl rfl (fun _ => by kernel_rfl) (fun A w ⟨e0, _⟩ hB => notT e0)
        | ix + 10, h => exact absurd h (by simp)
      intro f W2 hb2 _ _
      have hb2' : Below wr.heap.size wr W2 := (Below.refl _ wr).drew.trans hb2
      have R2 := hbl.trans (hb2'.mono hbl.size)
      clear c0 c1 c2 d0 d1 d2 E hb2 hb2' hbl
      simp only [puts, List.foldl, Act.put, List.setIfInBounds_toArray, List.set_cons_zero, List.set_cons_succ]
      go_wp2
      go_roundw
      case rel =>
        first
          | exact ⟨j + 1, by omega, by go_num, R2⟩
          | ((repeat apply Exists.intro); exact ⟨⟨j + 1, by omega, by go_num, R2⟩, rfl⟩)
      case measure => simp [intOf]; omega
    · obtain rfl : j = n := by omega
      go_wp2
      go_ret
      exact ⟨rfl, hbl⟩
end Go.Proofs.YtjmhmajfkdglnaaGreatDoor

/-
  What the cards of a seat share whose rows list four variables (chapter 5 on): the row's list, the witness's world; points and proofs that come in.
-/
namespace Go.Proofs.YtjmhmajfkdglnaaGreatDoor
open Go.ChangeShapes Go.WideShapes Go.ChangeAt Go.RowKit Go.Deep
set_option linter.unusedVariables false

theorem varsR : varsRowed Tryz.prog ["loop.example/s02095/impl.roundWords"] = true := by kernel_rfl

/-- A WORLD FOR THE WITNESS: the settled one, the tables holding what their initialisers lay. -/
noncomputable def laidWorld (os : Os) : World :=
  lay (lay (lay (lay (World.holding Tryz.prog os ⟨#[], #[], []⟩) 8 .u8 (litInts Rows.laid_math_bits_deBruijn32tab)) 9 .u8 (litInts Rows.laid_math_bits_deBruijn64tab)) 7 .u64 (litInts Rows.laid_internal_strconv_uint64pow10)) 6 .u32 kTab
theorem cellsU : Tryz.prog.cellsOf 22 = 1 := by kernel_rfl
theorem cellsB : Tryz.prog.cellsOf 4 = 1 := by kernel_rfl
theorem cellsLP : Tryz.prog.cellsOf 27 = 3 := by kernel_rfl
section
variable {H : Type} {enc : TypeId × Value → H} {W : World} {base b0 : Nat} {sp : Nat → Bool} {held : Bool}
set_option maxRecDepth 100000 in
theorem open_pt {r : Reach} {v : Value} {d : DataW H} {ps : List MemPlace} (hval : Value.okWide Tryz.prog W r b0 27 v) (hd : DataW.Trod enc Tryz.prog W base sp held 27 v d ps) :
    ∃ (x y : Nat) (c : Bool), v = .agg #[.int .u64 x, .int .u64 y, .bool c] ∧ d = .agg [.lit (.int .u64 x), .lit (.int .u64 y), .lit (.bool c)] ∧ ps = [] ∧ (Lit.int .u64 (x : Int)).wf = true ∧ (Lit.int .u64 (y : Int)).wf = true ∧ x < 18446744073709551616 ∧ y < 18446744073709551616 := by
  obtain ⟨cs, rfl, hs⟩ := okWide_struct Tryz.underlying27 hval
  rw [cellsLP] at hs
  obtain ⟨fuel, hf⟩ := hd
  obtain ⟨y0, y1, y2, n, hx, -, t0, t1, t2⟩ := trod_struct3 Tryz.underlying27 hf
  simp only [cellsU, cellsB] at t0 t1 t2
  obtain ⟨a, e0, rfl, w0⟩ := DataW.trod_int Tryz.underlying22 t0
  obtain ⟨b, e1, rfl, w1⟩ := DataW.trod_int Tryz.underlying22 t1
  obtain ⟨c, e2, rfl⟩ := DataW.trod_bool Tryz.underlying4 t2
  obtain ⟨l⟩ := cs
  match l, hs with
  | [p, q, s], _ =>
    simp [Value.cells] at e0 e1 e2
    subst e0 e1 e2
    obtain ⟨x, rfl, lx⟩ := u64_nat w0
    obtain ⟨y, rfl, ly⟩ := u64_nat w1
    simp only [Prod.mk.injEq, List.append_nil] at hx
    exact ⟨x, y, c, rfl, hx.1, hx.2, w0, w1, lx, ly⟩
set_option maxRecDepth 100000 in
theorem shut_pt {x y : Int} (c : Bool) (wx : (Lit.int .u64 x).wf = true) (wy : (Lit.int .u64 y).wf = true) :
    DataW.Trod enc Tryz.prog W base sp held 27 (.agg #[.int .u64 x, .int .u64 y, .bool c]) (.agg [.lit (.int .u64 x), .lit (.int .u64 y), .lit (.bool c)]) [] := by
  refine ⟨2, ?_⟩
  have h := trod_struct3_mk (enc := enc) (w := W) (base := base) (spare := sp) (held := held) (n := 1) (cs := [.int .u64 x, .int .u64 y, .bool c]) (y0 := (.lit (.int .u64 x), [])) (y1 := (.lit (.int .u64 y), [])) (y2 := (.lit (.bool c), [])) Tryz.underlying27 (by rw [cellsLP]; rfl)
    (by simp only [cellsU]; exact trod_int_mk 0 Tryz.underlying22 wx) (by simp only [cellsU]; exact trod_int_mk 0 Tryz.underlying22 wy) (by simp only [cellsB]; simp [DataW.trod, Tryz.underlying4])
  exact h
set_option maxRecDepth 100000 in
/-- points that came in as an argument -/
theorem ars_of {a : Option Addr} {len cap : Nat} {d : DataW H} {p : List MemPlace} (h : DataW.Trod enc Tryz.prog W 0 (fun _ => true) true 36 (.slice a len cap) d p) : ∃ ps : List Tri, Ars W (.slice a len cap) ps ∧ ps.length ≤ maxLen := by
  obtain ⟨fuel, hf⟩ := h
  rcases DataW.trod_slice Tryz.underlying36 hf with ⟨hcs, -⟩ | ⟨ad, len', cap', elems, rest, n, -, hcs, -, -, hl, hm, hlen, hel, -, -⟩
  · simp [Value.cells] at hcs
    obtain ⟨rfl, rfl, rfl⟩ := hcs
    exact ⟨[], ⟨none, 0, 0, rfl, rfl, .inl rfl⟩, by simp⟩
  · simp [Value.cells] at hcs
    obtain ⟨rfl, rfl, rfl⟩ := hcs
    have key : ∀ i, i < len → ∃ t : Tri, W.cell? (ad.add (i * 3)) = some (.int .u64 (t.1 : Int)) ∧ W.cell? ((ad.add (i * 3)).add 1) = some (.int .u64 (t.2.1 : Int)) ∧ W.cell? ((ad.add (i * 3)).add 2) = some (.bool t.2.2) := by
      intro i hi
      have h1 := hel i hi
      rw [List.getElem?_eq_getElem (by omega), cellsLP, Option.bind_eq_some_iff] at h1
      obtain ⟨cs, hcs, ht⟩ := h1
      obtain ⟨-, hl3, hc3⟩ := World.cells?_some hcs
      obtain ⟨y0, y1, y2, m, hx, -, t0, t1, t2⟩ := trod_struct3 Tryz.underlying27 ht
      simp only [cellsU, cellsB] at t0 t1 t2
      obtain ⟨a, e0, -, w0⟩ := DataW.trod_int Tryz.underlying22 t0
      obtain ⟨b, e1, -, w1⟩ := DataW.trod_int Tryz.underlying22 t1
      obtain ⟨c, e2, -⟩ := DataW.trod_bool Tryz.underlying4 t2
      match cs, hl3 with
      | [p, q, s], _ =>
        simp at e0 e1 e2
        subst e0 e1 e2
        obtain ⟨x, rfl, lx⟩ := u64_nat w0
        obtain ⟨y, rfl, ly⟩ := u64_nat w1
        have k0 := hc3 0 (by simp)
        have k1 := hc3 1 (by simp)
        have k2 := hc3 2 (by simp)
        refine ⟨(x, y, c), ?_, ?_, ?_⟩
        · simpa [Addr.add] using k0
        · simpa using k1
        · simpa using k2
    by_cases h0 : len = 0
    · exact ⟨[], ⟨_, len, cap, rfl, by simp [h0], .inl h0⟩, by simp⟩
    · have hsp : ad.spot = none := by
        obtain ⟨t, k0, -⟩ := key 0 (by omega)
        simp only [Nat.zero_mul, Addr.add, if_true] at k0
        unfold World.cell? at k0
        split at k0
        · split at k0
          · cases k0
          · rename_i h; simpa using h
        · cases k0
      obtain ⟨b, o, sp⟩ := ad
      obtain rfl : sp = none := hsp
      have ha : ∀ (k i : Nat), (⟨b, k, none⟩ : Addr).add i = ⟨b, k + i, none⟩ := fun k i => by unfold Addr.add; split <;> simp_all
      have key' : ∀ i, i < len → ∃ t : Tri, W.cell? ⟨b, o + i * 3, none⟩ = some (.int .u64 (t.1 : Int)) ∧ W.cell? ⟨b, o + i * 3 + 1, none⟩ = some (.int .u64 (t.2.1 : Int)) ∧ W.cell? ⟨b, o + i * 3 + 2, none⟩ = some (.bool t.2.2) := fun i hi => by
        obtain ⟨t, k0, k1, k2⟩ := key i hi
        rw [ha] at k0 k1 k2
        rw [ha] at k1 k2
        exact ⟨t, k0, k1, k2⟩
      clear key
      refine ⟨(List.range len).attach.map fun i => (key' i.1 (List.mem_range.1 i.2)).choose, ⟨_, len, cap, rfl, by simp, .inr ⟨b, o, rfl, ?_⟩⟩, by simp; omega⟩
      have at' : ∀ i (t : Tri), ((List.range len).attach.map fun i => (key' i.1 (List.mem_range.1 i.2)).choose)[i]? = some t → ∃ hi : i < len, t = (key' i hi).choose := by
        intro i t ht
        rw [List.getElem?_map] at ht
        obtain ⟨j, hj, rfl⟩ := Option.map_eq_some_iff.1 ht
        have hj' := (List.getElem?_eq_some_iff.1 hj)
        obtain ⟨hlt, he⟩ := hj'
        have hi : i < len := by simpa using hlt
        have : j.1 = i := by rw [← he]; simp
        exact ⟨hi, by subst this; rfl⟩
      have hbl : b < W.heap.size := by
        obtain ⟨t, k0, -⟩ := key' 0 (by omega)
        exact World.block_lt_of_cell? W _ k0
      refine ⟨hbl, fun i t ht => ?_, fun i t ht => ?_, fun i t ht => ?_⟩
      · obtain ⟨hi, rfl⟩ := at' i t ht
        exact (key' i hi).choose_spec.1
      · obtain ⟨hi, rfl⟩ := at' i t ht
        exact (key' i hi).choose_spec.2.1
      · obtain ⟨hi, rfl⟩ := at' i t ht
        exact (key' i hi).choose_spec.2.2
end
end Go.Proofs.YtjmhmajfkdglnaaGreatDoor
