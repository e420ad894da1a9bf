import Derived.Test.YtjmhmajfkdglnaaGreatDoorMrg18
import Derived.Test.YtjmhmajfkdglnaaGreatDoorMrg25
import Derived.Test.YtjmhmajfkdglnaaGreatDoorMrg13
import Derived.Test.YtjmhmajfkdglnaaGreatDoorMrg37
import Derived.Test.YtjmhmajfkdglnaaGreatDoorMrg19
import Derived.Test.YtjmhmajfkdglnaaGreatDoorMrg3
import Derived.Test.YtjmhmajfkdglnaaGreatDoorCards
import Derived.Test.YtjmhmajfkdglnaaGreatDoorTie
import Derived.OpenShut
import Derived.ShutString
import Derived.ChangeOld
import Derived.OpenVars
import Derived.Deep.DeepHandedRow
import Derived.Lib.LaidTab
import Derived.LaidSub
import Derived.Carry
import Derived.Deep.Strs
import Derived.Test.YtjmhmajfkdglnaaGreatDoorMrg31
set_option linter.unusedVariables false
set_option maxRecDepth 100000
set_option maxHeartbeats 16000000
namespace Go.Proofs.YtjmhmajfkdglnaaGreatDoor
open Go.RowKit M
def Ars (W : World) (v : Value) (ps : List Tri) : Prop := ∃ a n cap, v = .slice a n cap ∧ ps.length = n ∧ (n = 0 ∨ ∃ g o, a = some ⟨g, o, none⟩ ∧ Pts W g o ps)
theorem Ars.keep {W W' : World} {v : Value} {ps : List Tri} (h : Ars W v ps) (hb : Below W.heap.size W W') : Ars W' v ps := by
  obtain ⟨a, n, cap, hv, hl, h0 | ⟨g, o, ha, hp⟩⟩ := h
  · exact ⟨a, n, cap, hv, hl, .inl h0⟩
  · exact ⟨a, n, cap, hv, hl, .inr ⟨g, o, ha, hp.keep hb⟩⟩
def InA (cur : Array Value) (ps : List Tri) : Prop := ∀ i (t : Tri), ps[i]? = some t → cur[i * 3]? = some (.int .u64 (t.1 : Int)) ∧ cur[i * 3 + 1]? = some (.int .u64 (t.2.1 : Int)) ∧ cur[i * 3 + 2]? = some (.bool t.2.2)
theorem InA.pts {W : World} {g : Nat} {T : TypeId} {cur : Array Value} {ps : List Tri} (h : InA cur ps) (hg : W.heap[g]? = some (.cells cur T)) : Pts W g 0 ps := by
  refine ⟨(Array.getElem?_eq_some_iff.1 hg).1, fun i t ht => ?_, fun i t ht => ?_, fun i t ht => ?_⟩
  · rw [cell_of_row _ _ _ _ _ _ hg, Nat.zero_add]; exact (h i t ht).1
  · rw [cell_of_row _ _ _ _ _ _ hg, Nat.zero_add]; exact (h i t ht).2.1
  · rw [cell_of_row _ _ _ _ _ _ hg, Nat.zero_add]; exact (h i t ht).2.2
theorem set3_at {W : World} {g k : Nat} {T : TypeId} {cur : Array Value} (hg : W.heap[g]? = some (.cells cur T)) (hk : k + 2 < cur.size) (v0 v1 v2 : Value) :
    ∃ cur', (((W.setCell ⟨g, k, none⟩ v0).setCell ⟨g, k + 1, none⟩ v1).setCell ⟨g, k + 2, none⟩ v2).heap[g]? = some (.cells cur' T) ∧ cur'.size = cur.size ∧ cur'[k]? = some v0 ∧ cur'[k + 1]? = some v1 ∧ cur'[k + 2]? = some v2 ∧ ∀ i, i < k → cur'[i]? = cur[i]? := by
  refine ⟨((cur.setIfInBounds k v0).setIfInBounds (k + 1) v1).setIfInBounds (k + 2) v2, ?_, by simp, ?_, ?_, ?_, fun i hi => ?_⟩
  · simp [World.setCell, Array.getElem?_modify, hg]
  · rw [Array.getElem?_setIfInBounds, if_neg (by omega), Array.getElem?_setIfInBounds, if_neg (by omega), Array.getElem?_setIfInBounds, if_pos rfl, if_pos (by omega)]
  · rw [Array.getElem?_setIfInBounds, if_neg (by omega), Array.getElem?_setIfInBounds, if_pos rfl, if_pos (by simp; omega)]
  · rw [Array.getElem?_setIfInBounds, if_pos rfl, if_pos (by simp; omega)]
  · rw [Array.getElem?_setIfInBounds, if_neg (by omega), Array.getElem?_setIfInBounds, if_neg (by omega), Array.getElem?_setIfInBounds, if_neg (by omega)]
theorem infoPt : (Tryz.prog.info? 28).map (fun i => (i.zero, i.size, i.bytes)) = some (some (.agg #[.int .u64 0, .int .u64 0, .bool false]), 3, 24) := by kernel_rfl
theorem toP5 (x y : Int) (c : Bool) (w : World) :
    Calls Tryz.prog 11 #[.agg #[.int .u64 x, .int .u64 y, .bool c]] w fun e w' => e = .returned (.agg #[.int .u64 x, .int .u64 y, .bool c]) ∧ Below w.heap.size w w' := by
  go_enter Tryz.func11, Tryz.ntmps11
  go_wp2
  refine bodyPost_ret (v := .agg #[.int .u64 x, .int .u64 y, .bool c]) (by simp [results, Tryz.results11, go_sem]) rfl ⟨rfl, ?_⟩
  exact (((Below.refl _ w).alloc (Nat.le_refl _) _).alloc (by simp) _).alloc (by simp; omega) _
def Mad (x : Nat) (ps : List Tri) (w : World) : Prop := ∃ cur, w.heap[x]? = some (.cells cur 28) ∧ InA cur ps
theorem Mad.pts {x : Nat} {ps : List Tri} {w : World} (h : Mad x ps w) : Pts w x 0 ps := by obtain ⟨cur, h1, h2⟩ := h; exact h2.pts h1
theorem Mad.keep {x : Nat} {ps : List Tri} {w w' : World} (h : Mad x ps w) (hb : Below w.heap.size w w') : Mad x ps w' := by
  obtain ⟨cur, h1, h2⟩ := h
  exact ⟨cur, (hb.block x (Array.getElem?_eq_some_iff.1 h1).1).trans h1, h2⟩
theorem szL_yes (a : Option Addr) (n cap : Nat) (left : Int) (w : World) (h : (n : Int) ≤ left) (hl : left ≤ 1048576) :
    Calls Tryz.prog 14 #[.slice a n cap, .int .i64 left] w fun e w' => e = .returned (.int .i64 (left - n)) ∧ w = w' := by
  have e : IntKind.i64.wrap (left - n) = left - n := i64_in _ (by omega) (by omega)
  have g : ¬ (left - n : Int) < 0 := by omega
  go_enter Tryz.func14, Tryz.ntmps14
  go_wp2
  go_ret
  exact ⟨rfl, rfl⟩
theorem szL_no (a : Option Addr) (n cap : Nat) (left : Int) (w : World) (h : left < (n : Int)) (hl : left ≤ 1048576) (h0 : 0 ≤ left) (hn : n ≤ maxLen) :
    Calls Tryz.prog 14 #[.slice a n cap, .int .i64 left] w fun e w' => e = .returned (.int .i64 (-1)) ∧ w = w' := by
  unfold maxLen at hn
  have e : IntKind.i64.wrap (left - n) = left - n := i64_in _ (by omega) (by omega)
  have g : (left - n : Int) < 0 := by omega
  go_enter Tryz.func14, Tryz.ntmps14
  go_wp2
  go_ret
  exact ⟨rfl, rfl⟩
theorem cf_eqPoint (args : Array Value) (w : World) : (callFunc 47 args).run Tryz.prog w = .ok (.enter 47 args) w := by kernel_rfl
theorem notT {A : Act} {w : World} {dst : Option Tmp} {ty : TypeId} {ps : String} {af : Array Edge} {gd : Option (Nat × Bool)} {x : Operand} (hx : A.eval x = .bool true) :
    Does Tryz.prog { dst := dst, op := .unOp .not 4 x, type := ty, pos := ps, after := af, guard := gd } A w fun v' w' => v' = .bool false ∧ Below w.heap.size w w' := by
  have h : (execOp A.eval { dst := dst, op := .unOp .not 4 x, type := ty, pos := ps, after := af, guard := gd }).run Tryz.prog w = .ok (.value (.bool false)) w := by generalize A.eval = ev at *; simp [execOp, hx, go_sem]
  exact does_value h ⟨rfl, Below.refl _ _⟩
theorem epsL_any (ps : List Tri) (x y : Nat) (w : World) (hx : Mad x ps w) (hy : Mad y ps w) (hn : ps.length ≤ 1048576) :
    Calls Tryz.prog 19 #[.slice (some ⟨x, 0, none⟩) ps.length ps.length, .slice (some ⟨y, 0, none⟩) ps.length ps.length] w fun e w' => e = .returned (.bool true) ∧ Below w.heap.size w w' := by
  have hX := hx.pts
  have hY := hy.pts
  obtain ⟨n, hl⟩ : ∃ n, ps.length = n := ⟨_, rfl⟩
  rw [hl] at hn ⊢
  clear hx hy
  go_enter Tryz.func19, Tryz.ntmps19
  go_wp2
  go_loopw [5] (fun iv wr => ∃ j : Nat, j ≤ n ∧ iv = .int .i64 (j : Int) ∧ Below w.heap.size w wr) (fun i _ => n - (intOf i).toNat)
  case atStart => exact ⟨0, by omega, rfl, Below.refl _ _⟩
  case round =>
    obtain ⟨j, hj, rfl, hbl⟩ := hrel
    by_cases hlt : j < n
    · have hli : (j : Int) < (n : Int) := by omega
      obtain ⟨t, ht⟩ : ∃ t, ps[j]? = some t := ⟨_, List.getElem?_eq_getElem (by omega)⟩
      have px' := (hX.below hbl hX.lt).drew
      have py' := (hY.below hbl hY.lt).drew
      have c0 := px'.c0 j t ht
      have c1 := px'.c1 j t ht
      have c2 := px'.c2 j t ht
      have d0 := py'.c0 j t ht
      have d1 := py'.c1 j t ht
      have d2 := py'.c2 j t ht
      have E := eqP (t.1 : Int) (t.2.1 : Int) t.2.2
      obtain ⟨tx, ty, tc⟩ := t
      dsimp only at c0 c1 c2 d0 d1 d2 E
      clear ht px' py'
      go_wp2
      refine pool_list [.val (.slice (some ⟨x, 0, none⟩) n n),
          .val (.int .i64 (j : Int)),
          .val (.pointer (some ⟨x, 0 + j * 3, none⟩)),
          .val (.agg #[.int .u64 (tx : Int), .int .u64 (ty : Int), .bool tc]),
          .val (.slice (some ⟨y, 0, none⟩) n n),
          .val (.int .i64 (j : Int)),
          .val (.pointer (some ⟨y, 0 + j * 3, none⟩)),
          .val (.agg #[.int .u64 (tx : Int), .int .u64 (ty : Int), .bool tc]),
          .val (.bool true),
          .val (.bool false)] [[0], [5], [17, 18], [19], [1], [5], [21, 22], [23], [20, 24], [25]] (fun f => [(some 17, .slice (some ⟨x, 0, none⟩) n n), (some 18, .int .i64 (j : Int)), (some 19, .pointer (some ⟨x, 0 + j * 3, none⟩)), (some 20, .agg #[.int .u64 (tx : Int), .int .u64 (ty : Int), .bool tc]), (some 21, .slice (some ⟨y, 0, none⟩) n n), (some 22, .int .i64 (j : Int)), (some 23, .pointer (some ⟨y, 0 + j * 3, none⟩)), (some 24, .agg #[.int .u64 (tx : Int), .int .u64 (ty : Int), .bool tc]), (some 25, .bool true), (some 26, .bool false)]) (by kernel_rfl) (by kernel_rfl) (by kernel_rfl) (by kernel_rfl) (fun _ => by kernel_rfl) ?_ ?_
      · intro ix hix
        match ix, hix with
        | 0, _ => exact ob_val [(0, .slice (some ⟨x, 0, none⟩) n n)] rfl rfl (fun _ => by kernel_rfl) (fun A w ⟨e0, _⟩ hB => doV_move e0)
        | 1, _ => exact ob_val [(5, .int .i64 (j : Int))] rfl rfl (fun _ => by kernel_rfl) (fun A w ⟨e0, _⟩ hB => doV_move e0)
        | 2, _ => exact ob_val [(17, .slice (some ⟨x, 0, none⟩) n n), (18, .int .i64 (j : Int))] rfl rfl (fun _ => by kernel_rfl) (fun A w ⟨e0, e1, _⟩ hB => ix_pts e0 e1 (by omega))
        | 3, _ => exact ob_val [(19, .pointer (some ⟨x, 0 + j * 3, none⟩))] rfl rfl (fun _ => by kernel_rfl) (fun A w ⟨e0, _⟩ hB => ld_pt e0 (keepC c0 hB) (keepC c1 hB) (keepC c2 hB))
        | 4, _ => exact ob_val [(1, .slice (some ⟨y, 0, none⟩) n n)] rfl rfl (fun _ => by kernel_rfl) (fun A w ⟨e0, _⟩ hB => doV_move e0)
        | 5, _ => exact ob_val [(5, .int .i64 (j : Int))] rfl rfl (fun _ => by kernel_rfl) (fun A w ⟨e0, _⟩ hB => doV_move e0)
        | 6, _ => exact ob_val [(21, .slice (some ⟨y, 0, none⟩) n n), (22, .int .i64 (j : Int))] rfl rfl (fun _ => by kernel_rfl) (fun A w ⟨e0, e1, _⟩ hB => ix_pts e0 e1 (by omega))
        | 7, _ => exact ob_val [(23, .pointer (some ⟨y, 0 + j * 3, none⟩))] rfl rfl (fun _ => by kernel_rfl) (fun A w ⟨e0, _⟩ hB => ld_pt e0 (keepC d0 hB) (keepC d1 hB) (keepC d2 hB))
        | 8, _ => exact ob_val [(20, .agg #[.int .u64 (tx : Int), .int .u64 (ty : Int), .bool tc]), (24, .agg #[.int .u64 (tx : Int), .int .u64 (ty : Int), .bool tc])] rfl rfl (fun _ => by kernel_rfl) (fun A w ⟨e0, e1, _⟩ hB => cl2 cf_eqPoint e0 e1 (E w))
        | 9, _ => exact ob_val [(25, .bool true)] rfl rfl (fun _ => by kernel_rfl) (fun A w ⟨e0, _⟩ hB => notT e0)
        | ix + 10, h => exact absurd h (by simp)
      intro f W2 hb2 _ _
      have hb2' : Below wr.heap.size wr W2 := (Below.refl _ wr).drew.trans hb2
      have R2 := hbl.trans (hb2'.mono hbl.size)
      clear c0 c1 c2 d0 d1 d2 E hb2 hb2' hbl
      simp only [puts, List.foldl, Act.put, List.setIfInBounds_toArray, List.set_cons_zero, List.set_cons_succ]
      go_wp2
      go_roundw
      case rel =>
        first
          | exact ⟨j + 1, by omega, by go_num, R2⟩
          | ((repeat apply Exists.intro); exact ⟨⟨j + 1, by omega, by go_num, R2⟩, rfl⟩)
      case measure => simp [intOf]; omega
    · obtain rfl : j = n := by omega
      go_wp2
      go_ret
      exact ⟨rfl, hbl⟩
end Go.Proofs.YtjmhmajfkdglnaaGreatDoor
namespace Go.Proofs.YtjmhmajfkdglnaaGreatDoor
open Go.ChangeShapes Go.WideShapes Go.ChangeAt Go.RowKit Go.Deep
theorem cellsU : Tryz.prog.cellsOf 22 = 1 := by kernel_rfl
theorem cellsB : Tryz.prog.cellsOf 4 = 1 := by kernel_rfl
theorem cellsLP : Tryz.prog.cellsOf 27 = 3 := by kernel_rfl
section
variable {H : Type} {enc : TypeId × Value → H} {W : World} {base b0 : Nat} {sp : Nat → Bool} {held : Bool}
theorem ars_of {a : Option Addr} {len cap : Nat} {d : DataW H} {p : List MemPlace} (h : DataW.Trod enc Tryz.prog W 0 (fun _ => true) true 36 (.slice a len cap) d p) : ∃ ps : List Tri, Ars W (.slice a len cap) ps ∧ ps.length ≤ maxLen := by
  obtain ⟨fuel, hf⟩ := h
  rcases DataW.trod_slice Tryz.underlying36 hf with ⟨hcs, -⟩ | ⟨ad, len', cap', elems, rest, n, -, hcs, -, -, hl, hm, hlen, hel, -, -⟩
  · simp [Value.cells] at hcs
    obtain ⟨rfl, rfl, rfl⟩ := hcs
    exact ⟨[], ⟨none, 0, 0, rfl, rfl, .inl rfl⟩, by simp⟩
  · simp [Value.cells] at hcs
    obtain ⟨rfl, rfl, rfl⟩ := hcs
    have key : ∀ i, i < len → ∃ t : Tri, W.cell? (ad.add (i * 3)) = some (.int .u64 (t.1 : Int)) ∧ W.cell? ((ad.add (i * 3)).add 1) = some (.int .u64 (t.2.1 : Int)) ∧ W.cell? ((ad.add (i * 3)).add 2) = some (.bool t.2.2) := by
      intro i hi
      have h1 := hel i hi
      rw [List.getElem?_eq_getElem (by omega), cellsLP, Option.bind_eq_some_iff] at h1
      obtain ⟨cs, hcs, ht⟩ := h1
      obtain ⟨-, hl3, hc3⟩ := World.cells?_some hcs
      obtain ⟨y0, y1, y2, m, hx, -, t0, t1, t2⟩ := trod_struct3 Tryz.underlying27 ht
      simp only [cellsU, cellsB] at t0 t1 t2
      obtain ⟨a, e0, -, w0⟩ := DataW.trod_int Tryz.underlying22 t0
      obtain ⟨b, e1, -, w1⟩ := DataW.trod_int Tryz.underlying22 t1
      obtain ⟨c, e2, -⟩ := DataW.trod_bool Tryz.underlying4 t2
      match cs, hl3 with
      | [p, q, s], _ =>
        simp at e0 e1 e2
        subst e0 e1 e2
        obtain ⟨x, rfl, lx⟩ := u64_nat w0
        obtain ⟨y, rfl, ly⟩ := u64_nat w1
        have k0 := hc3 0 (by simp)
        have k1 := hc3 1 (by simp)
        have k2 := hc3 2 (by simp)
        refine ⟨(x, y, c), ?_, ?_, ?_⟩
        · simpa [Addr.add] using k0
        · simpa using k1
        · simpa using k2
    by_cases h0 : len = 0
    · exact ⟨[], ⟨_, len, cap, rfl, by simp [h0], .inl h0⟩, by simp⟩
    · have hsp : ad.spot = none := by
        obtain ⟨t, k0, -⟩ := key 0 (by omega)
        simp only [Nat.zero_mul, Addr.add, if_true] at k0
        unfold World.cell? at k0
        split at k0
        · split at k0
          · cases k0
          · rename_i h; simpa using h
        · cases k0
      obtain ⟨b, o, sp⟩ := ad
      obtain rfl : sp = none := hsp
      have ha : ∀ (k i : Nat), (⟨b, k, none⟩ : Addr).add i = ⟨b, k + i, none⟩ := fun k i => by unfold Addr.add; split <;> simp_all
      have key' : ∀ i, i < len → ∃ t : Tri, W.cell? ⟨b, o + i * 3, none⟩ = some (.int .u64 (t.1 : Int)) ∧ W.cell? ⟨b, o + i * 3 + 1, none⟩ = some (.int .u64 (t.2.1 : Int)) ∧ W.cell? ⟨b, o + i * 3 + 2, none⟩ = some (.bool t.2.2) := fun i hi => by
        obtain ⟨t, k0, k1, k2⟩ := key i hi
        rw [ha] at k0 k1 k2
        rw [ha] at k1 k2
        exact ⟨t, k0, k1, k2⟩
      clear key
      refine ⟨(List.range len).attach.map fun i => (key' i.1 (List.mem_range.1 i.2)).choose, ⟨_, len, cap, rfl, by simp, .inr ⟨b, o, rfl, ?_⟩⟩, by simp; omega⟩
      have at' : ∀ i (t : Tri), ((List.range len).attach.map fun i => (key' i.1 (List.mem_range.1 i.2)).choose)[i]? = some t → ∃ hi : i < len, t = (key' i hi).choose := by
        intro i t ht
        rw [List.getElem?_map] at ht
        obtain ⟨j, hj, rfl⟩ := Option.map_eq_some_iff.1 ht
        have hj' := (List.getElem?_eq_some_iff.1 hj)
        obtain ⟨hlt, he⟩ := hj'
        have hi : i < len := by simpa using hlt
        have : j.1 = i := by rw [← he]; simp
        exact ⟨hi, by subst this; rfl⟩
      have hbl : b < W.heap.size := by
        obtain ⟨t, k0, -⟩ := key' 0 (by omega)
        exact World.block_lt_of_cell? W _ k0
      refine ⟨hbl, fun i t ht => ?_, fun i t ht => ?_, fun i t ht => ?_⟩
      · obtain ⟨hi, rfl⟩ := at' i t ht
        exact (key' i hi).choose_spec.1
      · obtain ⟨hi, rfl⟩ := at' i t ht
        exact (key' i hi).choose_spec.2.1
      · obtain ⟨hi, rfl⟩ := at' i t ht
        exact (key' i hi).choose_spec.2.2
end
theorem eqF (x y : Int) (w : World) :
    Calls Tryz.prog 51 #[.agg #[.int .u64 x, .int .u64 y], .agg #[.int .u64 x, .int .u64 y]] w fun e w' => e = .returned (.bool true) ∧ Below w.heap.size w w' := by
  go_enter Tryz.func51, Tryz.ntmps51
  go_wp2
  go_ret
  exact ⟨rfl, ((Below.refl _ w).alloc (Nat.le_refl _) _).alloc (by simp) _⟩
end Go.Proofs.YtjmhmajfkdglnaaGreatDoor
