/-
  'out = append(out, s...)', s a text, out nil or made by the call. No program is named here.
-/
import Derived.Test.YtenggagjgmonoaaDoorOwn
import Derived.Test.YtenggagjgmonoaaDoorPure4
import Derived.Deep.AppendSrc
namespace Go.Proofs.YtenggagjgmonoaaDoor
open Go Go.RowKit
set_option linter.unusedVariables false

def Row0 (w : World) (base : Nat) (v : Value) (n : Nat) (xs : List Value) : Prop :=
  (v = .slice none 0 0 ∧ n = 0 ∧ xs = []) ∨ ∃ g cap, v = .slice (some ⟨g, 0, none⟩) n cap ∧ Row w base g n cap xs
theorem byteCells_byt (s : ByteArray) : byteCells s = (byt s).map (Value.int .u8) := by
  rw [byteCells, byt, List.map_map]; rfl
theorem row_grown {w : World} {e : TypeId} {z : Value} {base n m old : Nat} {xs news : List Value} (hzs : z.cells.size = 1) (hx : xs.length = n) (hl : news.length = m) (h63 : n + m ≤ maxLen) (hbase : base ≤ w.heap.size) :
    Row (w.drew.alloc (.cells ((xs ++ news).toArray ++ Builtin.zeroCells z.cells (grownCap w (n + m) old e - (n + m))) e)) base w.heap.size (n + m) (grownCap w (n + m) old e) (xs ++ news) := by
  have hge := grownCap_ge w (n + m) old e
  have hcm : grownCap w (n + m) old e ≤ maxLen := grownCap_le_maxLen w (n + m) old e h63
  have hsz : ((xs ++ news).toArray ++ Builtin.zeroCells z.cells (grownCap w (n + m) old e - (n + m))).size = grownCap w (n + m) old e := by
    simp only [Array.size_append, List.size_toArray, List.length_append, size_zeroCells, hzs]; omega
  have hblk := Row.of_block (w := w.drew.alloc (.cells ((xs ++ news).toArray ++ Builtin.zeroCells z.cells (grownCap w (n + m) old e - (n + m))) e)) (base := base) (g := w.heap.size) (n := n + m) (heap_alloc_new w.drew _) hbase (by rw [hsz]; exact hge) (by rw [hsz]; exact hcm)
  rw [hsz] at hblk
  have htk : ((xs ++ news).toArray ++ Builtin.zeroCells z.cells (grownCap w (n + m) old e - (n + m))).toList.take (n + m) = xs ++ news := by
    simp only [Array.toList_append]
    rw [List.take_append_of_le_length (by simp; omega), List.take_of_length_le (by simp; omega)]
  rwa [htk] at hblk

theorem run_append_str {P : Program} (w : World) (t tx ty : TypeId) (base : Nat) (e : TypeId) (i : TypeInfo) (z : Value) (ht : P.underlying t = some (.slice e)) (htx : P.underlying tx = some .string) (hi : P.info? e = some i) (hz : i.zero = some z)
    (hsize : i.size = 1) (hby : i.bytes = 1) (hzs : z.cells.size = 1) (v : Value) (n : Nat) (xs : List Value) (hown : Row0 w base v n xs) (s : ByteArray) (hs0 : 0 < s.size)
    (h63 : n + s.size ≤ 140737488355328) (hbase : base ≤ w.heap.size) :
    ∃ g cap w', (Builtin.append_ #[t, tx] ty #[v, .string s]).run P w = .ok (.slice (some ⟨g, 0, none⟩) (n + s.size) cap) w' ∧
      Row w' base g (n + s.size) cap (xs ++ (byt s).map (Value.int .u8)) ∧ Below base w w' := by
  have hsrc : Src P i.size tx (.string s) s.size ((byt s).map (Value.int .u8)) w := by rw [hsize, ← byteCells_byt]; exact Src.ofString w htx s
  have hl : ((byt s).map (Value.int .u8)).length = s.size := by rw [List.length_map, byt_length]
  have hm : n + s.size ≤ maxLen := by unfold maxLen; omega
  rcases hown with ⟨rfl, rfl, rfl⟩ | ⟨g, cap, rfl, hrow⟩
  · have hr := run_append_grow_src (P := P) w t tx ty e i z ht hi hz none 0 0 [] (by rw [hsize]; exact run_firstCells_none w.drew 1 0 0 0) (.string s) s.size _ hsrc (by omega) (by omega) (growslice_fits (by omega) (by rw [hby]; omega))
    exact ⟨w.heap.size, _, _, hr, row_grown hzs rfl hl hm hbase, (Below.refl _ _).drew.alloc hbase _⟩
  · have hlx := hrow.len
    by_cases hroom : n + s.size ≤ cap
    · have hr := run_append_room_src (P := P) w t tx ty e i ht hi g 0 n cap (.string s) s.size _ hsrc hroom
        (fun j hj => by rw [hsize]; exact (hrow.room _ (by omega)).1) (fun j hj => by rw [hsize]; exact (hrow.room _ (by omega)).2)
      rw [hsize, Nat.zero_add, Nat.mul_one] at hr
      refine ⟨g, cap, _, hr, ⟨hrow.lo, by rw [setCells_size]; exact hrow.hi, by rw [List.length_append]; omega, hroom, hrow.max, fun j u hu => ?_, fun j hj => ?_⟩, below_setCells (Below.refl _ _) hrow.lo _ _⟩
      · by_cases hj : j < xs.length
        · rw [List.getElem?_append_left hj] at hu
          rw [World.cell?_setCells_out g _ n w ⟨g, j, none⟩ (fun _ _ => .inl (by show j < n; omega))]
          exact hrow.cells j u hu
        · rw [List.getElem?_append_right (by omega)] at hu
          have hj2 := (List.getElem?_eq_some_iff.1 hu).1
          have := World.cell?_setCells_in g ((byt s).map (Value.int .u8)) n w (fun q hq => (hrow.room _ (by omega)).1) (j - xs.length) hj2
          rw [show n + (j - xs.length) = j by omega] at this
          rw [this, ← hu, List.getElem?_eq_getElem hj2]
      · exact ⟨World.isSome_setCells g _ n w _ (hrow.room j hj).1, by rw [World.frozen?_setCells]; exact (hrow.room j hj).2⟩
    · have hr := run_append_grow_src (P := P) w t tx ty e i z ht hi hz (some ⟨g, 0, none⟩) n cap xs (by
          rw [hsize]
          exact run_firstCells_some w.drew 1 n ⟨g, 0, none⟩ n cap xs (by omega) (fun j u hu => by rw [Addr.add_mid, Nat.zero_add]; exact hrow.cells j u hu)) (.string s) s.size _ hsrc (by omega) (by omega) (growslice_fits (by omega) (by rw [hby]; omega))
      exact ⟨w.heap.size, _, _, hr, row_grown hzs hlx hl hm hbase, (Below.refl _ _).drew.alloc hbase _⟩

theorem wpList_append_str {P : Program} {w : World} {ops : Array Oper} {rest : List Oper} {o : Oper} {a : Act} {Q : Exit → Act → World → Prop} (hgd : o.guard = none) (sl x : Operand) (t tx : TypeId)
    (ho : o.op = .call { callee := .builtin .append, args := #[sl, x], argTypes := #[t, tx] })
    (base : Nat) (e : TypeId) (i : TypeInfo) (z : Value) (ht : P.underlying t = some (.slice e)) (htx : P.underlying tx = some .string) (hi : P.info? e = some i) (hz : i.zero = some z)
    (hsize : i.size = 1) (hby : i.bytes = 1) (hzs : z.cells.size = 1) (v : Value) (n : Nat) (xs : List Value) (hs : a.eval sl = v) (hown : Row0 w base v n xs) (s : ByteArray) (hx : a.eval x = .string s) (hs0 : 0 < s.size)
    (h63 : n + s.size ≤ 140737488355328) (hbase : base ≤ w.heap.size)
    (h : ∀ g cap w', Row w' base g (n + s.size) cap (xs ++ (byt s).map (Value.int .u8)) → Below base w w' → wpList P ops Q rest (a.put o.dst (.slice (some ⟨g, 0, none⟩) (n + s.size) cap)) w') : wpList P ops Q (o :: rest) a w := by
  refine wpList_plain hgd fun K hK => ?_
  obtain ⟨g, cap, w', hr, h2, h3⟩ := run_append_str (P := P) w t tx o.type base e i z ht htx hi hz hsize hby hzs v n xs hown s hs0 h63 hbase
  unfold Oper.wp execOp
  simp only [ho, resolve, invoke, builtin, Sem.run_bind, Sem.run_pure, Result.andThen_ok, List.map_toArray, List.map_cons, List.map_nil, hs, hx, hr]
  exact hK _ _ (h g cap w' h2 h3)
end Go.Proofs.YtenggagjgmonoaaDoor
