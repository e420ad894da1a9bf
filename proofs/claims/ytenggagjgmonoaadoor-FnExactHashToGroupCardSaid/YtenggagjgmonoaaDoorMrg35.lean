import Derived.Test.YtenggagjgmonoaaDoorMrg19
import Derived.Test.YtenggagjgmonoaaDoorMrg16
import Derived.Test.YtenggagjgmonoaaDoorMrg21
import Derived.Test.YtenggagjgmonoaaDoorMrg26
import Derived.Deep.RegionHeld3
import Derived.Test.YtenggagjgmonoaaDoorMrg27
namespace Go.Proofs.YtenggagjgmonoaaDoor
open Go.RowKit
set_option linter.unusedVariables false

theorem step_append_ownP {P : Program} {w : World} {ops : Array Oper} {o : Oper} {a : Act} {K : Act → World → Prop} {Q : Exit → Act → World → Prop} {E : Prop} (hgd : o.guard = none) (s x : Operand) (t : TypeId)
    (ho : o.op = .call { callee := .builtin .append, args := #[s, x], argTypes := #[t, t] })
    (base : Nat) (e : TypeId) (i : TypeInfo) (z : Value) (size bytes : Nat) (ht : P.underlying t = some (.slice e)) (hi : P.info? e = some i) (hz : i.zero = some z)
    (hsize : i.size = size) (hby : i.bytes = bytes) (hzs : z.cells.size = size) (hsz : 0 < size)
    (v : Value) (n : Nat) (xs : List Value) (hs : a.eval s = v) (hown : w.ownsRow base e size v n xs)
    (ad : Addr) (m c : Nat) (news : List Value) (hx : a.eval x = .slice (some ad) m c) (hl : news.length = m * size) (hnews : ∀ j u, news[j]? = some u → w.cell? (ad.add j) = some u) (h1 : ∀ u ∈ news, u.oneCell' = true)
    (h63 : n + m ≤ maxLen) (hbytes : (n + m) * bytes ≤ 140737488355328) (hbase : base ≤ w.heap.size)
    (h : ∀ v' w', w'.ownsRow base e size v' (n + m) (xs ++ news) → w.grownBy w' v.ownBlock → (v' = .slice none 0 0 ↔ v = .slice none 0 0 ∧ m = 0) → K (a.put o.dst v') w') :
    if Region.wanted o (yielded ops a.tmps) = true then Oper.wp P o a w K Q else E := by
  have hw : Region.wanted o (yielded ops a.tmps) = true := by simp [Region.wanted, hgd]
  rw [if_pos hw]
  exact wp_append_own w s x t ho base e i z size bytes ht hi hz hsize hby hzs hsz v n xs hs hown ad m c news hx hl hnews h1 h63 hbytes hbase h

theorem infoPr : (Tryd.prog.info? 91).map (fun i => (i.zero, i.size, i.bytes)) = some (some (.agg #[.int .u64 0]), 1, 8) := by kernel_rfl
def cellsPr (H : List Int) : List Value := H.map fun x => .int .u64 x
theorem cellsPr_app (l r : List Int) : cellsPr (l ++ r) = cellsPr l ++ cellsPr r := by simp [cellsPr]

set_option maxRecDepth 100000 in
set_option maxHeartbeats 2000000 in
theorem h2nP_yes (msg tag : ByteArray) (c : Nat) (w : World) (hT : TabK w) (h : okH msg tag 2305843009213693951 c) :
    Calls Tryd.prog 47 #[.string msg, .string tag, .agg #[], .int .i64 c] w fun e w' => ∃ v, e = .returned (.tuple #[v, .bool true]) ∧ w'.ownsRow w.heap.size 91 1 v c (cellsPr (h2f (byt msg) (byt tag) 2305843009213693951 c)) ∧ Below w.heap.size w w' := by
  obtain ⟨i0, hi, hz0, hz1, hz2⟩ := info_parts infoPr
  obtain ⟨h1, h2, h3, h4⟩ := h
  obtain ⟨N, hN⟩ : ∃ N : Nat, N = 24 * c := ⟨_, rfl⟩
  have hNi : (N : Int) = 24 * (c : Int) := by omega
  have X := fun w hT => exmI_yes msg tag N w hT (by rw [hNi]; exact h4)
  rw [hNi] at X
  have hlen := expM_length (byt msg) (byt tag) N
  have hby := expM_lt (byt msg) (byt tag) N
  have hll := h2f_length (byt msg) (byt tag) 2305843009213693951 c
  have htk := h2f_take (byt msg) (byt tag) 2305843009213693951 c
  rw [← hN] at htk
  generalize expM (byt msg) (byt tag) N = L at *
  generalize h2f (byt msg) (byt tag) 2305843009213693951 c = H at *
  have hzS : (strOfNums L).size = 24 * c := by rw [strOfNums_size]; omega
  have g1 : ¬ (c : Int) < 1 := by omega
  have g2 : ¬ (340 : Int) < (c : Int) := by omega
  have hme := methP
  have hgw : 2 < w.heap.size := World.block_lt_of_cell? w _ (hT 0 (by omega))
  have hbB : Below w.heap.size w (w.alloc (.cells #[] 87)) := (Below.refl _ _).alloc (Nat.le_refl _) _
  have hTB : TabK (w.alloc (.cells #[] 87)) := fun i hi => (hbB.cell (p := ⟨2, i, none⟩) hgw).trans (hT i hi)
  have V : ∀ w : World, Calls Tryd.prog 124 #[.agg #[]] w fun e w' => e = .returned (.int .u64 2305843009213693951) ∧ Below w.heap.size w w' := fun w => (valP w).mono fun e w' ⟨h, h'⟩ => ⟨h, h' ▸ (Below.refl _ _).alloc (Nat.le_refl _) _⟩
  go_enter Tryd.func47, Tryd.ntmps47
  go_wp2_with fail
  refine (X _ hTB).mono ?_
  rintro e W1 ⟨rfl, hb0⟩
  replace hb0 := hbB.trans (hb0.mono hbB.size)
  clear X hbB hTB
  go_wp2
  go_loopw [12, 13, 14, 32] (fun ov _ _ iv wr => ∃ k : Nat, k ≤ c ∧ iv = .int .i64 (k : Int) ∧ wr.ownsRow w.heap.size 91 1 ov k (cellsPr (H.take k)) ∧ Below w.heap.size w wr) (fun _ _ _ i _ => c - (intOf i).toNat)
  case atStart => exact ⟨0, by omega, rfl, World.ownsRow_nil _ _ _ _, hb0⟩
  case round =>
    clear hb0
    obtain ⟨k, hk, rfl, hown, hbl⟩ := hrel
    have hsz := hbl.size
    by_cases hlt : k < c
    · have hli : (k : Int) < (c : Int) := by omega
      have q1 : IntKind.i64.wrap (24 * (k : Int)) = 24 * (k : Int) := i64_in _ (by omega) (by omega)
      have q2 : IntKind.i64.wrap ((k : Int) + 1) = (k : Int) + 1 := i64_in _ (by omega) (by omega)
      have q5 : IntKind.i64.wrap (24 * ((k : Int) + 1)) = 24 * ((k : Int) + 1) := i64_in _ (by omega) (by omega)
      have q3 : (0 : Int) ≤ 24 * (k : Int) := by omega
      have q6 : 24 * (k : Int) ≤ 24 * ((k : Int) + 1) := by omega
      have q4 : 24 * ((k : Int) + 1) ≤ ((strOfNums L).size : Int) := by omega
      have t1 : (24 * (k : Int)).toNat = 24 * k := by omega
      have t2 : (24 * ((k : Int) + 1)).toNat = 24 * k + 24 := by omega
      have hp := piece_length (l := L) (c := c) (by omega) k hlt
      have R := fun w => reduI_any (strOfNums (piece L k)) 2305843009213693951 w (by rw [strOfNums_size]; omega) (by decide) h3
      rw [byt_str _ (piece_lt hby k)] at R
      have hpe := str_piece L k
      have ht := htk k hlt
      obtain ⟨z, hz⟩ : ∃ z : Nat, z = numL (piece L k) % 2305843009213693951 := ⟨_, rfl⟩
      rw [← hz] at R ht
      have hzm : z < 2305843009213693951 := by rw [hz]; exact Nat.mod_lt _ (by omega)
      clear hz
      have D := fun w => redP_of (z : Int) (z : Int) w (by omega) (Int.tmod_eq_of_lt (by omega) (by omega))

      go_wp2
      go_region_held3 (fun _ => True) (trivial) (first
        | (go_simp; go_at_call 124; refine (V _).mono ?_; rintro e Wv ⟨rfl, bv⟩)
        | (go_at_call 41; refine (R _).mono ?_; rintro e W2 ⟨rfl, hb2⟩)
        | (go_at_call 65; refine (D _).mono ?_; rintro e W3 ⟨rfl, hb3⟩; have hb4 : Below wr.heap.size wr W3 := (((Below.refl _ wr).drew).trans bv).trans ((hb2.trans (hb3.mono hb2.size)).mono bv.size); have hown4 := own_keep hown hb4; have hbl4 := hbl.trans (hb4.mono hsz); have hsz4 := hbl4.size)
        | (refine step_append_ownP (by rfl) _ _ _ (by rfl) w.heap.size 91 i0 (.agg #[.int .u64 0]) 1 8 Tryd.underlying84 hi hz0 hz1 hz2 rfl (by omega) _ k (cellsPr (H.take k)) (by rfl) (hown4.alloc _) ⟨W3.heap.size, 0, none⟩ 1 1 [.int .u64 z] (by rfl) (by rfl) (World.news_of_block (cs := #[.int .u64 z]) (heap_alloc_new W3 _)) (by simp [Value.oneCell']) (by unfold maxLen; omega) (by omega) (by simp; omega) ?_; intro v2 w2 hown2 hgr2 _))
      go_wp2
      have R1 : w2.ownsRow w.heap.size 91 1 v2 (k + 1) (cellsPr (H.take (k + 1))) := by rw [ht, cellsPr_app]; exact hown2
      have R2 : Below w.heap.size w w2 := (hbl4.alloc hsz4 _).grown hgr2 (by simp; omega) (fun r hr => ((hown4.alloc (.cells #[.int .u64 z] 91)).lt r hr).1)
      go_roundw
      case rel =>
        first
          | exact ⟨k + 1, by omega, by go_num, R1, R2⟩
          | ((repeat apply Exists.intro); exact ⟨⟨k + 1, by omega, by go_num, R1, R2⟩, rfl⟩)
      case measure => simp [intOf]; omega
    · obtain rfl : k = c := by omega
      rw [List.take_of_length_le (by omega)] at hown
      go_wp2
      go_ret2
      exact ⟨_, rfl, hown, hbl⟩

set_option maxRecDepth 100000 in
theorem h2nP_no (msg tag : ByteArray) (c : Int) (w : World) (h : ¬ okH msg tag 2305843009213693951 c) :
    Calls Tryd.prog 47 #[.string msg, .string tag, .agg #[], .int .i64 c] w fun e w' => e = .returned (.tuple #[.slice none 0 0, .bool false]) ∧ Below w.heap.size w w' := by
  by_cases h1 : c < 1
  · go_enter Tryd.func47, Tryd.ntmps47
    go_wp2
    go_ret2
    exact ⟨rfl, (Below.refl _ _).alloc (Nat.le_refl _) _⟩
  · by_cases h2 : 340 < c
    · go_enter Tryd.func47, Tryd.ntmps47
      go_wp2
      go_ret2
      exact ⟨rfl, (Below.refl _ _).alloc (Nat.le_refl _) _⟩
    · have X := fun w => exmI_no msg tag (24 * c) w (fun hh => h ⟨by omega, by omega, by decide, hh⟩)
      have q1 : IntKind.i64.wrap (24 * c) = 24 * c := i64_in _ (by omega) (by omega)
      go_enter Tryd.func47, Tryd.ntmps47
      go_wp2_with fail
      refine (X _).mono ?_
      rintro e W1 ⟨rfl, hb1⟩
      have hb2 : Below w.heap.size w W1 := ((Below.refl _ _).alloc (Nat.le_refl _) _).trans (hb1.mono (by simp))
      go_wp2
      go_ret2
      exact ⟨rfl, hb2⟩
end Go.Proofs.YtenggagjgmonoaaDoor

namespace Go.Proofs.YtenggagjgmonoaaDoor
open Go.RowKit M
set_option linter.unusedVariables false
set_option maxRecDepth 100000

/-- a block that holds a triple -/
def T3 (W : World) (b : Nat) (x y z : Int) : Prop := W.heap[b]? = some (.cells #[.int .u64 x, .int .u64 y, .int .u64 z] 123)
section
variable {W W' : World} {b : Nat} {x y z : Int}
theorem T3.c0 (h : T3 W b x y z) : W.cell? ⟨b, 0, none⟩ = some (.int .u64 x) := by unfold T3 at h; simp [World.cell?, h]
theorem T3.c1 (h : T3 W b x y z) : W.cell? ⟨b, 1, none⟩ = some (.int .u64 y) := by unfold T3 at h; simp [World.cell?, h]
theorem T3.c2 (h : T3 W b x y z) : W.cell? ⟨b, 2, none⟩ = some (.int .u64 z) := by unfold T3 at h; simp [World.cell?, h]
theorem T3.frz (h : T3 W b x y z) (i : Nat) : W.frozen? ⟨b, i, none⟩ = false := by unfold T3 at h; simp [World.frozen?, h]
theorem T3.lt (h : T3 W b x y z) : b < W.heap.size := (Array.getElem?_eq_some_iff.1 h).1
theorem T3.below {N : Nat} (h : T3 W b x y z) (hb : Below N W W') (hl : b < N) : T3 W' b x y z := (hb.block b hl).trans h
theorem T3.keep (h : T3 W b x y z) (hb : Below W.heap.size W W') : T3 W' b x y z := h.below hb h.lt
theorem T3.new (w : World) (x y z : Int) : T3 (w.alloc (.cells #[.int .u64 x, .int .u64 y, .int .u64 z] 123)) w.heap.size x y z := heap_alloc_new w _
theorem T3.alloc (h : T3 W b x y z) (o : Obj) : T3 (W.alloc o) b x y z := (Below.heap_alloc W o b h.lt).trans h
theorem T3.drew (h : T3 W b x y z) : T3 W.drew b x y z := h
theorem T3.at {b' : Nat} (h : T3 W b x y z) (e : b = b') : T3 W b' x y z := e ▸ h
theorem T3.range (h : T3 W b x y z) : W.rangeAt b 0 [.int .u64 x, .int .u64 y, .int .u64 z] := fun j v hj => by
  match j, hj with
  | 0, hj => cases hj; exact h.c0
  | 1, hj => cases hj; exact h.c1
  | 2, hj => cases hj; exact h.c2
def setT (W : World) (b : Nat) (x y z : Int) : World := ((W.setCell ⟨b, 0, none⟩ (.int .u64 x)).setCell ⟨b, 1, none⟩ (.int .u64 y)).setCell ⟨b, 2, none⟩ (.int .u64 z)
theorem T3.set (h : T3 W b x y z) (x' y' z' : Int) : T3 (setT W b x' y' z') b x' y' z' := by
  unfold T3 setT at *
  simp [World.setCell, Array.getElem?_modify, h]
theorem T3.other {b' : Nat} (h : T3 W b x y z) (hne : b ≠ b') (x' y' z' : Int) : T3 (setT W b' x' y' z') b x y z := by
  unfold T3 setT at *
  rw [← h]
  simp [World.setCell, Array.getElem?_modify, Ne.symm hne]
theorem setT_below {N : Nat} {w : World} (h : Below N w W) (hb : N ≤ b) : Below N w (setT W b x y z) :=
  ((h.setCell (p := ⟨b, 0, none⟩) hb _).setCell (p := ⟨b, 1, none⟩) hb _).setCell (p := ⟨b, 2, none⟩) hb _
theorem trip_res {fn : Func} {p : Tmp} (h : fn.results = #[.cell p 123]) (tmps : Array Value) (hp : tmps.getD p undef = .pointer (some ⟨b, 0, none⟩)) (hc : T3 W b x y z) :
    (results fn tmps).run Tryd.prog W = .ok (.agg #[.int .u64 x, .int .u64 y, .int .u64 z]) W :=
  results_mid h tmps W b 0 [.int .u64 x, .int .u64 y, .int .u64 z] _ hp hc.range Tryd.underlying123 rfl (by kernel_rfl)
end

section
variable {ev : Operand → Value} {w : World} {dst : Option Tmp} {ty : TypeId} {ps : String} {af : Array Edge} {gd : Option (Nat × Bool)} {x y : Operand} {b i : Nat}
theorem exec_idx {k : Nat} (hk : k < 3) (hx : ev x = .pointer (some ⟨b, 0, none⟩)) (hy : ev (.const (.int .i64 (k : Int))) = .int .i64 (k : Int)) :
    (execOp ev { dst := dst, op := .indexAddr 123 x (.const (.int .i64 (k : Int))), type := ty, pos := ps, after := af, guard := gd }).run Tryd.prog w = .ok (.value (.pointer (some ⟨b, k, none⟩))) w := by
  have h1 : (0 : Int) ≤ (k : Int) := by omega
  have h2 : (k : Int) < 3 := by omega
  simp [execOp, hx, hy, h2, go_sem]
theorem exec_idxT {k : Nat} (hk : k < 3) (hx : ev x = .pointer (some ⟨b, 0, none⟩)) (hy : ev y = .int .i64 (k : Int)) :
    (execOp ev { dst := dst, op := .indexAddr 123 x y, type := ty, pos := ps, after := af, guard := gd }).run Tryd.prog w = .ok (.value (.pointer (some ⟨b, k, none⟩))) w := by
  have h2 : (k : Int) < 3 := by omega
  simp [execOp, hx, hy, h2, go_sem]
theorem exec_loadT {X Y Z : Int} (hx : ev x = .pointer (some ⟨b, 0, none⟩)) (h0 : w.cell? ⟨b, 0, none⟩ = some (.int .u64 X)) (h1 : w.cell? ⟨b, 1, none⟩ = some (.int .u64 Y)) (h2 : w.cell? ⟨b, 2, none⟩ = some (.int .u64 Z)) :
    (execOp ev { dst := dst, op := .load 123 x, type := ty, pos := ps, after := af, guard := gd }).run Tryd.prog w = .ok (.value (.agg #[.int .u64 X, .int .u64 Y, .int .u64 Z])) w := by
  simp [execOp, hx, h0, h1, h2, go_sem]
theorem exec_storeT {X Y Z X0 Y0 Z0 : Int} (hx : ev x = .pointer (some ⟨b, 0, none⟩)) (hy : ev y = .agg #[.int .u64 X, .int .u64 Y, .int .u64 Z]) (hr : T3 w b X0 Y0 Z0) :
    (execOp ev { dst := dst, op := .store 123 x y, type := ty, pos := ps, after := af, guard := gd }).run Tryd.prog w = .ok .skip (setT w b X Y Z) := by
  have h1 := hr.c0
  have h2 := hr.c1
  have h3 := hr.c2
  have h4 := hr.frz
  simp [execOp, hx, hy, h1, h2, h3, h4, go_sem, setT]
theorem exec_build3 {x3 : Operand} {X Y Z : Int} (hx : ev x = .agg #[.int .u64 X]) (hy : ev y = .agg #[.int .u64 Y]) (hz : ev x3 = .agg #[.int .u64 Z]) :
    (execOp ev { dst := dst, op := .build 123 #[(0, x), (1, y), (2, x3)], type := ty, pos := ps, after := af, guard := gd }).run Tryd.prog w = .ok (.value (.agg #[.int .u64 X, .int .u64 Y, .int .u64 Z])) w := by
  simp [execOp, hx, hy, hz, go_sem]
theorem cf_crossed (args : Array Value) (w : World) : (callFunc 85 args).run Tryd.prog w = .ok (.enter 85 args) w := by kernel_rfl
end

section
variable {A : Act} {w W0 : World} {dst : Option Tmp} {ty : TypeId} {ps : String} {af : Array Edge} {gd : Option (Nat × Bool)} {x y x3 x4 : Operand} {b i : Nat}
theorem do_loadT {X Y Z : Int} (hx : A.eval x = .pointer (some ⟨b, 0, none⟩)) (hr : T3 W0 b X Y Z) (hB : Below W0.heap.size W0 w) :
    Does Tryd.prog { dst := dst, op := .load 123 x, type := ty, pos := ps, after := af, guard := gd } A w fun v' w' => v' = .agg #[.int .u64 X, .int .u64 Y, .int .u64 Z] ∧ Below w.heap.size w w' :=
  does_value (exec_loadT hx (hr.keep hB).c0 (hr.keep hB).c1 (hr.keep hB).c2) ⟨rfl, Below.refl _ _⟩
set_option maxRecDepth 100000 in
theorem do_idx {k : Nat} (hk : k < 3) (hx : A.eval x = .pointer (some ⟨b, 0, none⟩)) :
    Does Tryd.prog { dst := dst, op := .indexAddr 123 x (.const (.int .i64 (k : Int))), type := ty, pos := ps, after := af, guard := gd } A w fun v' w' => v' = .pointer (some ⟨b, k, none⟩) ∧ Below w.heap.size w w' :=
  by
  have h := exec_idx (ev := A.eval) (w := w) (dst := dst) (ty := ty) (ps := ps) (af := af) (gd := gd) hk hx rfl
  exact does_value h ⟨rfl, Below.refl _ _⟩
set_option maxRecDepth 100000 in
theorem do_idxT {k : Nat} (hk : k < 3) (hx : A.eval x = .pointer (some ⟨b, 0, none⟩)) (hy : A.eval y = .int .i64 (k : Int)) :
    Does Tryd.prog { dst := dst, op := .indexAddr 123 x y, type := ty, pos := ps, after := af, guard := gd } A w fun v' w' => v' = .pointer (some ⟨b, k, none⟩) ∧ Below w.heap.size w w' := by
  have h := exec_idxT (ev := A.eval) (w := w) (dst := dst) (ty := ty) (ps := ps) (af := af) (gd := gd) hk hx hy
  exact does_value h ⟨rfl, Below.refl _ _⟩
set_option maxRecDepth 100000 in
theorem do_build {X Y Z : Int} (hx : A.eval x = .agg #[.int .u64 X]) (hy : A.eval y = .agg #[.int .u64 Y]) (hz : A.eval x3 = .agg #[.int .u64 Z]) :
    Does Tryd.prog { dst := dst, op := .build 123 #[(0, x), (1, y), (2, x3)], type := ty, pos := ps, after := af, guard := gd } A w fun v' w' => v' = .agg #[.int .u64 X, .int .u64 Y, .int .u64 Z] ∧ Below w.heap.size w w' := by
  have h := exec_build3 (w := w) (dst := dst) (ty := ty) (ps := ps) (af := af) (gd := gd) hx hy hz
  exact does_value h ⟨rfl, Below.refl _ _⟩
end
end Go.Proofs.YtenggagjgmonoaaDoor
