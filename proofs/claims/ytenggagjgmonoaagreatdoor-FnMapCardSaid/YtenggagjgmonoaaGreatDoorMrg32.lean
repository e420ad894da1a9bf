import Derived.Test.YtenggagjgmonoaaGreatDoorMrg12
import Derived.Test.YtenggagjgmonoaaGreatDoorMrg17
import Derived.Test.YtenggagjgmonoaaGreatDoorMrg19
import Derived.Test.YtenggagjgmonoaaGreatDoorMrg30
import Derived.Test.YtenggagjgmonoaaGreatDoorMrg31
import Derived.Test.YtenggagjgmonoaaGreatDoorMrg1
import Derived.Deep.AppendSrc
namespace Go.Proofs.YtenggagjgmonoaaGreatDoor
open Go.RowKit M
set_option linter.unusedVariables false

section
variable {ev : Operand → Value} {w : World} {dst : Option Tmp} {ty : TypeId} {ps : String} {af : Array Edge} {gd : Option (Nat × Bool)} {x y : Operand} {b i : Nat} {X Y X0 Y0 : Int} {c c0 : Bool}
theorem execM_storeP (hx : ev x = .pointer (some ⟨b, 0, none⟩)) (hy : ev y = .agg #[.int .u64 X, .int .u64 Y, .bool c]) (hr : K3 w 26 b X0 Y0 c0) :
    (execOp ev { dst := dst, op := .store 26 x y, type := ty, pos := ps, after := af, guard := gd }).run Tryz.prog w = .ok .skip (set3 w b X Y c) := by
  have h1 := hr.c0
  have h2 := hr.c1
  have h3 := hr.c2
  have h4 := hr.frz
  simp [execOp, hx, hy, h1, h2, h3, h4, go_sem, set3]
theorem execM_idxW {g n cap k : Nat} (hx : ev x = .slice (some ⟨g, 0, none⟩) n cap) (hy : ev y = .int .i64 (k : Int)) (hk : k < n) :
    (execOp ev { dst := dst, op := .indexAddr 34 x y, type := ty, pos := ps, after := af, guard := gd }).run Tryz.prog w = .ok (.value (.pointer (some ⟨g, k, none⟩))) w := by
  have h2 : (k : Int) < (n : Int) := by omega
  simp [execOp, hx, hy, h2, go_sem]
end
section
variable {A : Act} {w W0 : World} {dst : Option Tmp} {ty : TypeId} {ps : String} {af : Array Edge} {gd : Option (Nat × Bool)} {x y : Operand} {b i : Nat}
set_option maxRecDepth 100000
theorem doS_idx {g n cap k : Nat} (hx : A.eval x = .slice (some ⟨g, 0, none⟩) n cap) (hy : A.eval y = .int .i64 (k : Int)) (hk : k < n) :
    Does Tryz.prog { dst := dst, op := .indexAddr 34 x y, type := ty, pos := ps, after := af, guard := gd } A w fun v' w' => v' = .pointer (some ⟨g, k, none⟩) ∧ Below w.heap.size w w' := by
  have h := execM_idxW (ev := A.eval) (w := w) (dst := dst) (ty := ty) (ps := ps) (af := af) (gd := gd) hx hy hk
  exact does_value h ⟨rfl, Below.refl _ _⟩
end
theorem cf_mapS (args : Array Value) (w : World) : (callFunc 6 args).run Tryz.prog w = .ok (.enter 6 args) w := by kernel_rfl
theorem cf_sum (args : Array Value) (w : World) : (callFunc 31 args).run Tryz.prog w = .ok (.enter 31 args) w := by kernel_rfl
theorem ptt_res {W : World} {b : Nat} {x y : Int} {c : Bool} {fn : Func} {p u : Tmp} (h : fn.results = #[.cell p 26, .tmp u]) (tmps : Array Value) (hp : tmps.getD p undef = .pointer (some ⟨b, 0, none⟩)) (hc : K3 W 26 b x y c) :
    (results fn tmps).run Tryz.prog W = .ok (.tuple #[.agg #[.int .u64 x, .int .u64 y, .bool c], tmps.getD u undef]) W := by
  have hp' : tmps[p]?.getD undef = .pointer (some ⟨b, 0, none⟩) := by simpa using hp
  simp [results, h, hp', asAddr, run_loadVar_mid W b 0 26 [.int .u64 x, .int .u64 y, .bool c] _ hc.range Tryz.underlying26 rfl (by kernel_rfl)]
/-- the point of a message -/
noncomputable def mapP (u : Nat) : Pt := some (mXX (toF u), mYo (toF u))
theorem mapP_on (u : Nat) : on (mapP u) := map_on (toF u)
noncomputable def hPt (msg tag : ByteArray) : Pt := ad (mapP (hNum msg tag 2305843009213693951 2 0)) (mapP (hNum msg tag 2305843009213693951 2 1))

set_option maxRecDepth 100000 in
set_option maxHeartbeats 4000000 in
theorem h2gS_of (msg tag : ByteArray) (H : List Int) (u0 u1 ax ay dx dy sx sy : Int) (ac dc sc : Bool) (w : World)
    (X : ∀ w, Calls Tryz.prog 29 #[.string msg, .string tag, .int .u64 2305843009213693951, .int .i64 2] w fun e w' => ∃ g cap, e = .returned (.tuple #[.slice (some ⟨g, 0, none⟩) 2 cap, .bool true]) ∧ Row w' w.heap.size g 2 cap (H.map (Value.int .u64)) ∧ Below w.heap.size w w')
    (h0 : lk H 0 = u0) (h1 : lk H 1 = u1)
    (M0 : ∀ w, Calls Tryz.prog 6 #[.int .u64 u0] w fun e w' => e = .returned (.agg #[.int .u64 ax, .int .u64 ay, .bool ac]) ∧ Below w.heap.size w w')
    (M1 : ∀ w, Calls Tryz.prog 6 #[.int .u64 u1] w fun e w' => e = .returned (.agg #[.int .u64 dx, .int .u64 dy, .bool dc]) ∧ Below w.heap.size w w')
    (SU : ∀ w, Calls Tryz.prog 31 #[.agg #[.int .u64 ax, .int .u64 ay, .bool ac], .agg #[.int .u64 dx, .int .u64 dy, .bool dc]] w fun e w' => e = .returned (.agg #[.int .u64 sx, .int .u64 sy, .bool sc]) ∧ Below w.heap.size w w') :
    Calls Tryz.prog 12 #[.string msg, .string tag] w fun e w' => e = .returned (.tuple #[.agg #[.int .u64 sx, .int .u64 sy, .bool sc], .bool true]) ∧ Below w.heap.size w w' := by
  have hr := K3.new w 26 0 0 false
  have hb := (Below.refl _ w).alloc (Nat.le_refl _) (Obj.cells #[.int .u64 0, .int .u64 0, .bool false] 26)
  go_enter Tryz.func12, Tryz.ntmps12
  go_wp2_with fail
  refine (X _).mono ?_
  rintro e W1 ⟨g, cap, rfl, hrow, b1⟩
  replace hr := hr.keep b1
  replace hb := hb.trans (b1.mono hb.size)
  have c0 := hrow.drew.cell 0 (by omega)
  have c1 := hrow.drew.cell 1 (by omega)
  rw [h0] at c0
  rw [h1] at c1
  clear X hrow b1
  go_wp2
  refine pool_pre 9 [.val (.slice (some ⟨g, 0, none⟩) 2 cap),
      .val (.pointer (some ⟨g, 0, none⟩)),
      .val (.int .u64 u0),
      .val (.agg #[.int .u64 ax, .int .u64 ay, .bool ac]),
      .val (.slice (some ⟨g, 0, none⟩) 2 cap),
      .val (.pointer (some ⟨g, 1, none⟩)),
      .val (.int .u64 u1),
      .val (.agg #[.int .u64 dx, .int .u64 dy, .bool dc]),
      .val (.agg #[.int .u64 sx, .int .u64 sy, .bool sc])] [[6], [17], [18], [19], [6], [21], [22], [23], [20, 24]] (fun f => [(some 17, .slice (some ⟨g, 0, none⟩) 2 cap), (some 18, .pointer (some ⟨g, 0, none⟩)), (some 19, .int .u64 u0), (some 20, .agg #[.int .u64 ax, .int .u64 ay, .bool ac]), (some 21, .slice (some ⟨g, 0, none⟩) 2 cap), (some 22, .pointer (some ⟨g, 1, none⟩)), (some 23, .int .u64 u1), (some 24, .agg #[.int .u64 dx, .int .u64 dy, .bool dc]), (some 25, .agg #[.int .u64 sx, .int .u64 sy, .bool sc])]) (by kernel_rfl) (by kernel_rfl) (by kernel_rfl) (by kernel_rfl) (by decide) (by kernel_rfl) (fun _ => by kernel_rfl) ?_ ?_
  · intro ix hix
    match ix, hix with
    | 0, _ => exact ob_val [(6, .slice (some ⟨g, 0, none⟩) 2 cap)] rfl rfl (fun _ => by kernel_rfl) (fun A w ⟨e0, _⟩ hB => doS_move e0)
    | 1, _ => exact ob_val [(17, .slice (some ⟨g, 0, none⟩) 2 cap)] rfl rfl (fun _ => by kernel_rfl) (fun A w ⟨e0, _⟩ hB => doS_idx (k := 0) e0 rfl (by decide))
    | 2, _ => exact ob_val [(18, .pointer (some ⟨g, 0, none⟩))] rfl rfl (fun _ => by kernel_rfl) (fun A w ⟨e0, _⟩ hB => doS_loadW e0 (keepA c0 hB))
    | 3, _ => exact ob_val [(19, .int .u64 u0)] rfl rfl (fun _ => by kernel_rfl) (fun A w ⟨e0, _⟩ hB => doS_call1 cf_mapS e0 (M0 w))
    | 4, _ => exact ob_val [(6, .slice (some ⟨g, 0, none⟩) 2 cap)] rfl rfl (fun _ => by kernel_rfl) (fun A w ⟨e0, _⟩ hB => doS_move e0)
    | 5, _ => exact ob_val [(21, .slice (some ⟨g, 0, none⟩) 2 cap)] rfl rfl (fun _ => by kernel_rfl) (fun A w ⟨e0, _⟩ hB => doS_idx (k := 1) e0 rfl (by decide))
    | 6, _ => exact ob_val [(22, .pointer (some ⟨g, 1, none⟩))] rfl rfl (fun _ => by kernel_rfl) (fun A w ⟨e0, _⟩ hB => doS_loadW e0 (keepA c1 hB))
    | 7, _ => exact ob_val [(23, .int .u64 u1)] rfl rfl (fun _ => by kernel_rfl) (fun A w ⟨e0, _⟩ hB => doS_call1 cf_mapS e0 (M1 w))
    | 8, _ => exact ob_val [(20, .agg #[.int .u64 ax, .int .u64 ay, .bool ac]), (24, .agg #[.int .u64 dx, .int .u64 dy, .bool dc])] rfl rfl (fun _ => by kernel_rfl) (fun A w ⟨e0, e1, _⟩ hB => doS_call2 cf_sum e0 e1 (SU w))
    | ix + 9, h => exact absurd h (by simp)
  intro f w4 hB _ fuel hfuel
  replace hr := hr.drew.keep hB
  replace hb := hb.drew.trans (hB.mono hb.size)
  simp only [puts, List.foldl, Act.put, List.setIfInBounds_toArray, List.set_cons_zero, List.set_cons_succ]
  refine last_seq (vq := .bool true) 9 10 hfuel (by kernel_rfl) (by kernel_rfl) (by kernel_rfl) rfl rfl rfl rfl rfl (some 5) rfl (does_skip (execM_storeP rfl rfl hr) rfl) (fun w => does_value (execS_assign rfl) ⟨rfl, rfl⟩) ?_
  simp only [Act.put, List.setIfInBounds_toArray, List.set_cons_zero, List.set_cons_succ]
  go_wp2
  exact bodyPost_ret (v := .tuple #[.agg #[.int .u64 sx, .int .u64 sy, .bool sc], .bool true]) (ptt_res (fn := Tryz.f12) (p := 4) (u := 5) Tryz.results12 _ rfl (hr.set sx sy sc)) rfl ⟨rfl, set3_below hb (Nat.le_refl _)⟩
theorem h2gS_yes (msg tag : ByteArray) (w : World) (h : okT msg tag) :
    Calls Tryz.prog 12 #[.string msg, .string tag] w fun e w' => e = .returned (.tuple #[ptW (hPt msg tag), .bool true]) ∧ Below w.heap.size w w' := by
  rw [ptW_eq]
  exact h2gS_of msg tag (h2f (byt msg) (byt tag) 2305843009213693951 2) _ _ _ _ _ _ _ _ _ _ _ w (fun w => h2fS_yes msg tag 2305843009213693951 2 w (by decide) ((okT_H (by decide) (by decide) (by decide)).1 h))
    (h2f_at msg tag 2305843009213693951 2 0 (by omega)) (h2f_at msg tag 2305843009213693951 2 1 (by omega)) (fun w => mapS_any _ w) (fun w => mapS_any _ w) (fun w => sumS_xyz (mapP _) (mapP _) w)
set_option maxRecDepth 100000 in
set_option maxHeartbeats 2000000 in
theorem h2gS_no (msg tag : ByteArray) (w : World) (h : ¬ okT msg tag) :
    Calls Tryz.prog 12 #[.string msg, .string tag] w fun e w' => e = .returned (.tuple #[.agg #[.int .u64 0, .int .u64 0, .bool true], .bool false]) ∧ Below w.heap.size w w' := by
  have X : ∀ w, Calls Tryz.prog 29 #[.string msg, .string tag, .int .u64 2305843009213693951, .int .i64 2] w fun e w' => ∃ g cap, e = .returned (.tuple #[.slice (some ⟨g, 0, none⟩) 0 cap, .bool false]) ∧ Row w' w.heap.size g 0 cap [] ∧ Below w.heap.size w w' :=
    fun w => h2fS_no msg tag 2305843009213693951 2 w (fun hh => h ((okT_H (by decide) (by decide) (by decide)).2 hh))
  have hr := K3.new w 26 0 0 false
  have hb := (Below.refl _ w).alloc (Nat.le_refl _) (Obj.cells #[.int .u64 0, .int .u64 0, .bool false] 26)
  go_enter Tryz.func12, Tryz.ntmps12
  go_wp2_with fail
  refine (X _).mono ?_
  rintro e W1 ⟨g, cap, rfl, hrow, b1⟩
  replace hr := hr.keep b1
  replace hb := hb.trans (b1.mono hb.size)
  clear X hrow b1
  go_wp2_with fail
  refine (zeroS _).mono ?_
  rintro e w2 ⟨rfl, rfl⟩
  replace hr := hr.alloc (Obj.cells #[.int .u64 0, .int .u64 0, .bool true] 26)
  replace hb := hb.alloc hb.size (Obj.cells #[.int .u64 0, .int .u64 0, .bool true] 26)
  have k0 := hr.c0
  have k1 := hr.c1
  have k2 := hr.c2
  have kf := hr.frz
  go_wp2
  exact bodyPost_ret (v := .tuple #[.agg #[.int .u64 0, .int .u64 0, .bool true], .bool false]) (ptt_res (fn := Tryz.f12) (p := 4) (u := 5) Tryz.results12 _ rfl (hr.set 0 0 true)) rfl ⟨rfl, set3_below hb (Nat.le_refl _)⟩
end Go.Proofs.YtenggagjgmonoaaGreatDoor

/-
  'out = append(out, s...)', s a text, out nil or made by the call. No program is named here.
-/
namespace Go.Proofs.YtenggagjgmonoaaGreatDoor
open Go Go.RowKit
set_option linter.unusedVariables false

def Row0 (w : World) (base : Nat) (v : Value) (n : Nat) (xs : List Value) : Prop :=
  (v = .slice none 0 0 ∧ n = 0 ∧ xs = []) ∨ ∃ g cap, v = .slice (some ⟨g, 0, none⟩) n cap ∧ Row w base g n cap xs
theorem byteCells_byt (s : ByteArray) : byteCells s = (byt s).map (Value.int .u8) := by
  rw [byteCells, byt, List.map_map]; rfl
theorem row_grown {w : World} {e : TypeId} {z : Value} {base n m old : Nat} {xs news : List Value} (hzs : z.cells.size = 1) (hx : xs.length = n) (hl : news.length = m) (h63 : n + m ≤ maxLen) (hbase : base ≤ w.heap.size) :
    Row (w.drew.alloc (.cells ((xs ++ news).toArray ++ Builtin.zeroCells z.cells (grownCap w (n + m) old e - (n + m))) e)) base w.heap.size (n + m) (grownCap w (n + m) old e) (xs ++ news) := by
  have hge := grownCap_ge w (n + m) old e
  have hcm : grownCap w (n + m) old e ≤ maxLen := grownCap_le_maxLen w (n + m) old e h63
  have hsz : ((xs ++ news).toArray ++ Builtin.zeroCells z.cells (grownCap w (n + m) old e - (n + m))).size = grownCap w (n + m) old e := by
    simp only [Array.size_append, List.size_toArray, List.length_append, size_zeroCells, hzs]; omega
  have hblk := Row.of_block (w := w.drew.alloc (.cells ((xs ++ news).toArray ++ Builtin.zeroCells z.cells (grownCap w (n + m) old e - (n + m))) e)) (base := base) (g := w.heap.size) (n := n + m) (heap_alloc_new w.drew _) hbase (by rw [hsz]; exact hge) (by rw [hsz]; exact hcm)
  rw [hsz] at hblk
  have htk : ((xs ++ news).toArray ++ Builtin.zeroCells z.cells (grownCap w (n + m) old e - (n + m))).toList.take (n + m) = xs ++ news := by
    simp only [Array.toList_append]
    rw [List.take_append_of_le_length (by simp; omega), List.take_of_length_le (by simp; omega)]
  rwa [htk] at hblk

theorem run_append_str {P : Program} (w : World) (t tx ty : TypeId) (base : Nat) (e : TypeId) (i : TypeInfo) (z : Value) (ht : P.underlying t = some (.slice e)) (htx : P.underlying tx = some .string) (hi : P.info? e = some i) (hz : i.zero = some z)
    (hsize : i.size = 1) (hby : i.bytes = 1) (hzs : z.cells.size = 1) (v : Value) (n : Nat) (xs : List Value) (hown : Row0 w base v n xs) (s : ByteArray) (hs0 : 0 < s.size)
    (h63 : n + s.size ≤ 140737488355328) (hbase : base ≤ w.heap.size) :
    ∃ g cap w', (Builtin.append_ #[t, tx] ty #[v, .string s]).run P w = .ok (.slice (some ⟨g, 0, none⟩) (n + s.size) cap) w' ∧
      Row w' base g (n + s.size) cap (xs ++ (byt s).map (Value.int .u8)) ∧ Below base w w' := by
  have hsrc : Src P i.size tx (.string s) s.size ((byt s).map (Value.int .u8)) w := by rw [hsize, ← byteCells_byt]; exact Src.ofString w htx s
  have hl : ((byt s).map (Value.int .u8)).length = s.size := by rw [List.length_map, byt_length]
  have hm : n + s.size ≤ maxLen := by unfold maxLen; omega
  rcases hown with ⟨rfl, rfl, rfl⟩ | ⟨g, cap, rfl, hrow⟩
  · have hr := run_append_grow_src (P := P) w t tx ty e i z ht hi hz none 0 0 [] (by rw [hsize]; exact run_firstCells_none w.drew 1 0 0 0) (.string s) s.size _ hsrc (by omega) (by omega) (growslice_fits (by omega) (by rw [hby]; omega))
    exact ⟨w.heap.size, _, _, hr, row_grown hzs rfl hl hm hbase, (Below.refl _ _).drew.alloc hbase _⟩
  · have hlx := hrow.len
    by_cases hroom : n + s.size ≤ cap
    · have hr := run_append_room_src (P := P) w t tx ty e i ht hi g 0 n cap (.string s) s.size _ hsrc hroom
        (fun j hj => by rw [hsize]; exact (hrow.room _ (by omega)).1) (fun j hj => by rw [hsize]; exact (hrow.room _ (by omega)).2)
      rw [hsize, Nat.zero_add, Nat.mul_one] at hr
      refine ⟨g, cap, _, hr, ⟨hrow.lo, by rw [setCells_size]; exact hrow.hi, by rw [List.length_append]; omega, hroom, hrow.max, fun j u hu => ?_, fun j hj => ?_⟩, below_setCells (Below.refl _ _) hrow.lo _ _⟩
      · by_cases hj : j < xs.length
        · rw [List.getElem?_append_left hj] at hu
          rw [World.cell?_setCells_out g _ n w ⟨g, j, none⟩ (fun _ _ => .inl (by show j < n; omega))]
          exact hrow.cells j u hu
        · rw [List.getElem?_append_right (by omega)] at hu
          have hj2 := (List.getElem?_eq_some_iff.1 hu).1
          have := World.cell?_setCells_in g ((byt s).map (Value.int .u8)) n w (fun q hq => (hrow.room _ (by omega)).1) (j - xs.length) hj2
          rw [show n + (j - xs.length) = j by omega] at this
          rw [this, ← hu, List.getElem?_eq_getElem hj2]
      · exact ⟨World.isSome_setCells g _ n w _ (hrow.room j hj).1, by rw [World.frozen?_setCells]; exact (hrow.room j hj).2⟩
    · have hr := run_append_grow_src (P := P) w t tx ty e i z ht hi hz (some ⟨g, 0, none⟩) n cap xs (by
          rw [hsize]
          exact run_firstCells_some w.drew 1 n ⟨g, 0, none⟩ n cap xs (by omega) (fun j u hu => by rw [Addr.add_mid, Nat.zero_add]; exact hrow.cells j u hu)) (.string s) s.size _ hsrc (by omega) (by omega) (growslice_fits (by omega) (by rw [hby]; omega))
      exact ⟨w.heap.size, _, _, hr, row_grown hzs hlx hl hm hbase, (Below.refl _ _).drew.alloc hbase _⟩

theorem wpList_append_str {P : Program} {w : World} {ops : Array Oper} {rest : List Oper} {o : Oper} {a : Act} {Q : Exit → Act → World → Prop} (hgd : o.guard = none) (sl x : Operand) (t tx : TypeId)
    (ho : o.op = .call { callee := .builtin .append, args := #[sl, x], argTypes := #[t, tx] })
    (base : Nat) (e : TypeId) (i : TypeInfo) (z : Value) (ht : P.underlying t = some (.slice e)) (htx : P.underlying tx = some .string) (hi : P.info? e = some i) (hz : i.zero = some z)
    (hsize : i.size = 1) (hby : i.bytes = 1) (hzs : z.cells.size = 1) (v : Value) (n : Nat) (xs : List Value) (hs : a.eval sl = v) (hown : Row0 w base v n xs) (s : ByteArray) (hx : a.eval x = .string s) (hs0 : 0 < s.size)
    (h63 : n + s.size ≤ 140737488355328) (hbase : base ≤ w.heap.size)
    (h : ∀ g cap w', Row w' base g (n + s.size) cap (xs ++ (byt s).map (Value.int .u8)) → Below base w w' → wpList P ops Q rest (a.put o.dst (.slice (some ⟨g, 0, none⟩) (n + s.size) cap)) w') : wpList P ops Q (o :: rest) a w := by
  refine wpList_plain hgd fun K hK => ?_
  obtain ⟨g, cap, w', hr, h2, h3⟩ := run_append_str (P := P) w t tx o.type base e i z ht htx hi hz hsize hby hzs v n xs hown s hs0 h63 hbase
  unfold Oper.wp execOp
  simp only [ho, resolve, invoke, builtin, Sem.run_bind, Sem.run_pure, Result.andThen_ok, List.map_toArray, List.map_cons, List.map_nil, hs, hx, hr]
  exact hK _ _ (h g cap w' h2 h3)
end Go.Proofs.YtenggagjgmonoaaGreatDoor
