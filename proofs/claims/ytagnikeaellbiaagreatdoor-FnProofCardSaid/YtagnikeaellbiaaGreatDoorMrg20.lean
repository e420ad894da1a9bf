import Derived.Test.YtagnikeaellbiaaGreatDoorMrg19
import Derived.Test.YtagnikeaellbiaaGreatDoorMrg0
import Derived.Deep.RegionHeld3
import Derived.Test.YtagnikeaellbiaaGreatDoorMrg17
import Derived.Test.YtagnikeaellbiaaGreatDoorMrg18
namespace Go.Proofs.YtagnikeaellbiaaGreatDoor
open Go.RowKit
set_option linter.unusedVariables false

theorem methP (w : World) : (method 325 103 (.agg #[]) "loop.example/s02095/impl.value").run Tryz.prog w = .ok (169, .agg #[]) w := by kernel_rfl
set_option maxRecDepth 100000 in
theorem valP (w : World) :
    Calls Tryz.prog 169 #[.agg #[]] w fun e w' => e = .returned (.int .u64 2305843009213693951) ∧ w' = w.alloc (.cells #[] 103) := by
  go_enter Tryz.func169, Tryz.ntmps169
  go_wp2
  go_ret
  exact ⟨rfl, rfl⟩
theorem foldP : Array.foldl (fun (cs : Array Value) (x : Value × Nat) => cs.setIfInBounds x.snd x.fst) #[Value.int IntKind.u64 0] (#[] : Array Value).zipIdx 0 0 = #[Value.int .u64 0] := rfl

set_option maxRecDepth 100000 in
set_option maxHeartbeats 2000000 in
theorem redP_one (w : World) :
    Calls Tryz.prog 88 #[.int .u64 1, .agg #[]] w fun e w' => e = .returned (.agg #[.int .u64 1]) ∧ w' = (((w.alloc (.cells #[] 103)).alloc (.cells #[.int .u64 1] 105)).alloc (.cells #[] 103)).drew := by
  have hm := methP
  have hf := foldP
  have V := valP
  go_enter Tryz.func88, Tryz.ntmps88
  go_wp2
  go_region_held3 (fun _ => True) (trivial) ((go_simp; go_at_call 169; refine (V _).mono ?_; rintro e w' ⟨rfl, rfl⟩))
  go_wp2
  refine bodyPost_ret (v := .agg #[.int .u64 1]) (by simp [results, Tryz.results88, go_sem]) rfl ⟨rfl, rfl⟩
theorem cellsP : Tryz.prog.cellsOf 105 = 1 := by kernel_rfl
theorem byteP : byteOfCell Tryz.prog Tryz.prog.depth 105 0 = some 0 := by kernel_rfl
theorem partP {W : World} {b : Nat} {cs : Array Value} (hW : W.heap[b]? = some (.cells cs 105)) : (partAt ⟨b, 0, none⟩ 0 0).run Tryz.prog W = .ok ⟨b, 0, none⟩ W := by
  have h : (byteOf ⟨b, 0, none⟩).run Tryz.prog W = .ok 0 W := by
    have hs : W.shape? b = some (105, cs.size) := by simp [World.shape?, hW]
    simp [byteOf, noView, viewAt, shape, program, Sem.run, hs, cellsP, byteP, go_sem]
  simp [partAt, h, go_sem]

set_option maxRecDepth 100000 in
set_option maxHeartbeats 2000000 in
theorem timP_any (a b : Nat) (w : World) (ha : a < 2305843009213693951) (hb : b < 2305843009213693951) :
    Calls Tryz.prog 60 #[.agg #[.int .u64 a], .agg #[.int .u64 b]] w fun e w' => e = .returned (.agg #[.int .u64 (a * b % 2305843009213693951 : Nat)]) ∧ Below w.heap.size w w' := by
  have hme := methP
  have hf := foldP
  have M := mul64_any a b (by omega) (by omega)
  have D := fun w => div_any (a * b / 18446744073709551616) (a * b % 18446744073709551616) 2305843009213693951 w (by
    rw [Nat.div_lt_iff_lt_mul (by decide)]
    have : a * b ≤ 2305843009213693950 * 2305843009213693950 := Nat.mul_le_mul (by omega) (by omega)
    omega) (by decide) (Nat.mod_lt _ (by decide))
  have e : a * b / 18446744073709551616 * 18446744073709551616 + a * b % 18446744073709551616 = a * b := by omega
  rw [e] at D
  clear e
  generalize a * b / 18446744073709551616 = hi at *
  generalize a * b % 18446744073709551616 = lo at *
  obtain ⟨c, hc⟩ : ∃ c, c = a * b % 2305843009213693951 := ⟨_, rfl⟩
  rw [← hc] at D ⊢
  clear hc ha hb
  obtain ⟨X, hX⟩ : ∃ X, X = ((w.alloc (Obj.cells #[.int .u64 (a : Int)] 105)).alloc (Obj.cells #[.int .u64 (b : Int)] 105)).alloc (Obj.cells #[.int .u64 0] 105) := ⟨_, rfl⟩
  have hX0 : X.heap[w.heap.size]? = some (.cells #[.int .u64 (a : Int)] 105) := by
    rw [hX]
    exact (Below.heap_alloc _ _ _ (by simp; omega)).trans ((Below.heap_alloc _ _ _ (by simp)).trans (heap_alloc_new w _))
  have hp1 := partP hX0
  have hX1 : (X.alloc (Obj.cells #[] 103)).heap[w.heap.size]? = some (.cells #[.int .u64 (a : Int)] 105) := (Below.heap_alloc _ _ _ (Array.getElem?_eq_some_iff.1 hX0).1).trans hX0
  have hp2 := partP hX1
  have hp3 := partP (W := (X.alloc (Obj.cells #[] 103)).drew) hX1
  rw [hX] at hp1 hp2 hp3
  clear hX hX0 hX1
  go_enter Tryz.func60, Tryz.ntmps60
  go_wp2_with fail
  refine (M _).mono ?_
  rintro e w' ⟨rfl, rfl⟩
  go_wp2_with fail
  refine (valP _).mono ?_
  rintro e w' ⟨rfl, rfl⟩
  go_wp2_with fail
  refine (D _).mono ?_
  rintro e w' ⟨⟨z, rfl⟩, rfl | rfl⟩
  · go_wp2
    refine bodyPost_ret (v := .agg #[.int .u64 c]) (by simp [results, Tryz.results60, go_sem]) rfl ⟨rfl, ?_⟩
    exact ((((Below.refl _ _).alloc (Nat.le_refl _) _).alloc (by simp) _).alloc (by simp; omega) _).alloc (by simp; omega) _
  · go_wp2
    refine bodyPost_ret (v := .agg #[.int .u64 c]) (by simp [results, Tryz.results60, go_sem]) rfl ⟨rfl, ?_⟩
    exact (((((Below.refl _ _).alloc (Nat.le_refl _) _).alloc (by simp) _).alloc (by simp; omega) _).alloc (by simp; omega) _).drew
end Go.Proofs.YtagnikeaellbiaaGreatDoor

namespace Go.Proofs.YtagnikeaellbiaaGreatDoor
open Go.RowKit
set_option linter.unusedVariables false

/-- what stands stays through a call -/
theorem keepC {w1 w2 : World} {p : Addr} {v : Value} (h : w1.cell? p = some v) (b : Below w1.heap.size w1 w2) : w2.cell? p = some v := by
  by_cases hl : p.block < w1.heap.size
  · rw [← h]; unfold World.cell?; rw [b.block _ hl]
  · exfalso
    have : w1.heap[p.block]? = none := Array.getElem?_eq_none (by omega)
    simp [World.cell?, this] at h
theorem keepS {w1 : World} {p : Addr} {v u : Value} {b i : Nat} (h : w1.cell? p = some v) (hne : p.block ≠ b) : (w1.setCell ⟨b, i, none⟩ u).cell? p = some v := by
  rw [← h]; unfold World.cell?; simp [World.setCell, Array.getElem?_modify, Ne.symm hne]
theorem keepB {n : Nat} {w0 w1 w2 : World} (h : Below n w0 w1) (hn : n ≤ w1.heap.size) (b : Below w1.heap.size w1 w2) : Below n w0 w2 := h.trans (b.mono hn)

/-- a block that holds one number's word -/
def R1 (W : World) (b : Nat) (y : Int) : Prop := W.heap[b]? = some (.cells #[.int .u64 y] 105)
section
variable {W W' : World} {b : Nat} {y : Int}
theorem R1.cell (h : R1 W b y) : W.cell? ⟨b, 0, none⟩ = some (.int .u64 y) := by unfold R1 at h; simp [World.cell?, h]
theorem R1.frz (h : R1 W b y) : W.frozen? ⟨b, 0, none⟩ = false := by unfold R1 at h; simp [World.frozen?, h]
theorem R1.lt (h : R1 W b y) : b < W.heap.size := (Array.getElem?_eq_some_iff.1 h).1
theorem R1.below {N : Nat} (h : R1 W b y) (hb : Below N W W') (hl : b < N) : R1 W' b y := (hb.block b hl).trans h
theorem R1.keep (h : R1 W b y) (hb : Below W.heap.size W W') : R1 W' b y := h.below hb h.lt
theorem R1.new (w : World) (y : Int) : R1 (w.alloc (.cells #[.int .u64 y] 105)) w.heap.size y := heap_alloc_new w _
theorem R1.alloc (h : R1 W b y) (o : Obj) : R1 (W.alloc o) b y := (Below.heap_alloc W o b h.lt).trans h
theorem R1.drew (h : R1 W b y) : R1 W.drew b y := h
theorem R1.range (h : R1 W b y) : W.rangeAt b 0 [.int .u64 y] := fun j v hj => by
  match j, hj with
  | 0, hj => cases hj; exact h.cell
theorem R1.at {b' : Nat} (h : R1 W b y) (e : b = b') : R1 W b' y := e ▸ h
theorem R1.set (h : R1 W b y) (y' : Int) : R1 (W.setCell ⟨b, 0, none⟩ (.int .u64 y')) b y' := by
  unfold R1 at *
  simp [World.setCell, Array.getElem?_modify, h]
theorem R1.other (h : R1 W b y) {b' : Nat} (hne : b ≠ b') (i : Nat) (v : Value) : R1 (W.setCell ⟨b', i, none⟩ v) b y := by
  unfold R1 at *
  rw [← h]
  simp [World.setCell, Array.getElem?_modify, Ne.symm hne]
theorem num_res {fn : Func} {p : Tmp} (h : fn.results = #[.cell p 105]) (tmps : Array Value) (hp : tmps.getD p undef = .pointer (some ⟨b, 0, none⟩)) (hc : R1 W b y) :
    (results fn tmps).run Tryz.prog W = .ok (.agg #[.int .u64 y]) W :=
  results_mid h tmps W b 0 [.int .u64 y] _ hp hc.range Tryz.underlying105 rfl (by kernel_rfl)
end

set_option maxRecDepth 100000 in
set_option maxHeartbeats 2000000 in
theorem mnP_lt (a b d c : Int) (w : World) (h : a < b) (hd : IntKind.u64.wrap (a - b) = d) (hc : IntKind.u64.wrap (d + 2305843009213693951) = c) :
    Calls Tryz.prog 87 #[.agg #[.int .u64 a], .agg #[.int .u64 b]] w fun e w' => e = .returned (.agg #[.int .u64 c]) ∧ Below w.heap.size w w' := by
  have hme := methP
  have hf := foldP
  obtain ⟨X, hX⟩ : ∃ X, X = ((w.alloc (Obj.cells #[.int .u64 a] 105)).alloc (Obj.cells #[.int .u64 b] 105)).alloc (Obj.cells #[.int .u64 0] 105) := ⟨_, rfl⟩
  have hX0 : X.heap[w.heap.size]? = some (.cells #[.int .u64 a] 105) := by
    rw [hX]
    exact (Below.heap_alloc _ _ _ (by simp; omega)).trans ((Below.heap_alloc _ _ _ (by simp)).trans (heap_alloc_new w _))
  have hp1 := partP hX0
  have hX1 : (X.alloc (Obj.cells #[] 103)).heap[w.heap.size]? = some (.cells #[.int .u64 a] 105) := (Below.heap_alloc _ _ _ (Array.getElem?_eq_some_iff.1 hX0).1).trans hX0
  have hp2 := partP hX1
  rw [hX] at hp1 hp2
  clear hX hX0 hX1
  go_enter Tryz.func87, Tryz.ntmps87
  go_wp2_with fail
  refine (valP _).mono ?_
  rintro e w' ⟨rfl, rfl⟩
  go_wp2
  refine bodyPost_ret (v := .agg #[.int .u64 c]) (by simp [results, Tryz.results87, go_sem]) rfl ⟨rfl, ?_⟩
  exact ((((Below.refl _ _).alloc (Nat.le_refl _) _).alloc (by simp) _).alloc (by simp; omega) _).alloc (by simp; omega) _
set_option maxRecDepth 100000 in
set_option maxHeartbeats 2000000 in
theorem mnP_ge (a b d : Int) (w : World) (h : b ≤ a) (hd : IntKind.u64.wrap (a - b) = d) :
    Calls Tryz.prog 87 #[.agg #[.int .u64 a], .agg #[.int .u64 b]] w fun e w' => e = .returned (.agg #[.int .u64 d]) ∧ Below w.heap.size w w' := by
  have hme := methP
  have hf := foldP
  have hlt : ¬ a < b := by omega
  clear h
  obtain ⟨X, hX⟩ : ∃ X, X = ((w.alloc (Obj.cells #[.int .u64 a] 105)).alloc (Obj.cells #[.int .u64 b] 105)).alloc (Obj.cells #[.int .u64 0] 105) := ⟨_, rfl⟩
  have hX0 : X.heap[w.heap.size]? = some (.cells #[.int .u64 a] 105) := by
    rw [hX]
    exact (Below.heap_alloc _ _ _ (by simp; omega)).trans ((Below.heap_alloc _ _ _ (by simp)).trans (heap_alloc_new w _))
  have hp1 := partP hX0
  rw [hX] at hp1
  clear hX hX0
  go_enter Tryz.func87, Tryz.ntmps87
  go_wp2
  refine bodyPost_ret (v := .agg #[.int .u64 d]) (by simp [results, Tryz.results87, go_sem]) rfl ⟨rfl, ?_⟩
  exact (((Below.refl _ _).alloc (Nat.le_refl _) _).alloc (by simp) _).alloc (by simp; omega) _
/-- the difference, over numbers below P -/
theorem mnP_any (a b c : Int) (w : World) (ha0 : 0 ≤ a) (ha : a < 2305843009213693951) (hb0 : 0 ≤ b) (hb : b < 2305843009213693951) (hc : c = if a < b then a - b + 2305843009213693951 else a - b) :
    Calls Tryz.prog 87 #[.agg #[.int .u64 a], .agg #[.int .u64 b]] w fun e w' => e = .returned (.agg #[.int .u64 c]) ∧ Below w.heap.size w w' := by
  by_cases h : a < b
  · rw [if_pos h] at hc
    exact mnP_lt a b (a - b + 18446744073709551616) c w h (by rw [IntKind.wrap_u64]; omega) (by rw [IntKind.wrap_u64]; omega)
  · rw [if_neg h] at hc
    exact mnP_ge a b c w (by omega) (by rw [IntKind.wrap_u64]; omega)

set_option maxRecDepth 100000 in
set_option maxHeartbeats 2000000 in
theorem ngP_of (a c : Int) (w : World)
    (M : ∀ w, Calls Tryz.prog 87 #[.agg #[.int .u64 0], .agg #[.int .u64 a]] w fun e w' => e = .returned (.agg #[.int .u64 c]) ∧ Below w.heap.size w w') :
    Calls Tryz.prog 105 #[.agg #[.int .u64 a]] w fun e w' => e = .returned (.agg #[.int .u64 c]) ∧ Below w.heap.size w w' := by
  have hf := foldP
  obtain ⟨X, hX⟩ : ∃ X, X = (w.alloc (Obj.cells #[.int .u64 a] 105)).alloc (Obj.cells #[.int .u64 0] 105) := ⟨_, rfl⟩
  have hX0 : X.heap[w.heap.size]? = some (.cells #[.int .u64 a] 105) := by
    rw [hX]
    exact (Below.heap_alloc _ _ _ (by simp)).trans (heap_alloc_new w _)
  have hp1 := partP hX0
  have hr : R1 X (w.heap.size + 1) 0 := by rw [hX]; exact (R1.new _ 0).at (by simp)
  have hbX : Below w.heap.size w X := by rw [hX]; exact ((Below.refl _ w).alloc (Nat.le_refl _) _).alloc (by simp) _
  rw [hX] at hp1 hr hbX
  clear hX hX0
  go_enter Tryz.func105, Tryz.ntmps105
  go_wp2_with fail
  refine (M _).mono ?_
  rintro e w' ⟨rfl, hb⟩
  have hr1 := hr.keep hb
  have cc := hr1.cell
  have ff := hr1.frz
  have hb2 := keepB hbX (by simp; omega) hb
  clear hb hbX hr hp1
  go_wp2
  exact bodyPost_ret (v := .agg #[.int .u64 c]) (num_res (fn := Tryz.f105) (p := 2) Tryz.results105 _ rfl (hr1.set c)) rfl ⟨rfl, hb2.setCell (p := ⟨w.heap.size + 1, 0, none⟩) (by simp) _⟩
set_option maxRecDepth 100000 in
set_option maxHeartbeats 2000000 in
theorem plP_of (a b d c : Int) (w : World)
    (N : ∀ w, Calls Tryz.prog 105 #[.agg #[.int .u64 b]] w fun e w' => e = .returned (.agg #[.int .u64 d]) ∧ Below w.heap.size w w')
    (M : ∀ w, Calls Tryz.prog 87 #[.agg #[.int .u64 a], .agg #[.int .u64 d]] w fun e w' => e = .returned (.agg #[.int .u64 c]) ∧ Below w.heap.size w w') :
    Calls Tryz.prog 89 #[.agg #[.int .u64 a], .agg #[.int .u64 b]] w fun e w' => e = .returned (.agg #[.int .u64 c]) ∧ Below w.heap.size w w' := by
  obtain ⟨X, hX⟩ : ∃ X, X = (((w.alloc (Obj.cells #[.int .u64 a] 105)).alloc (Obj.cells #[.int .u64 b] 105)).alloc (Obj.cells #[.int .u64 0] 105)).drew := ⟨_, rfl⟩
  have hr : R1 X (w.heap.size + 1 + 1) 0 := by rw [hX]; exact ((R1.new _ 0).drew).at (by simp)
  have hbX : Below w.heap.size w X := by rw [hX]; exact ((((Below.refl _ w).alloc (Nat.le_refl _) _).alloc (by simp) _).alloc (by simp; omega) _).drew
  have hl : w.heap.size ≤ X.heap.size := hbX.size
  rw [hX] at hr hbX hl
  clear hX
  go_enter Tryz.func89, Tryz.ntmps89
  go_wp2
  go_region_held3 (fun w' => w'.cell? ⟨w.heap.size, 0, none⟩ = some (.int .u64 a) ∧ w'.cell? ⟨w.heap.size + 1, 0, none⟩ = some (.int .u64 b)) (first | exact ⟨keepC (keepC (by simp [go_sem]) b1) b2, keepC (keepC (by simp [go_sem]) b1) b2⟩ | exact ⟨keepC (by simp [go_sem]) b1, keepC (by simp [go_sem]) b1⟩ | exact ⟨keepS (keepC (keepC (by simp [go_sem]) b1) b2) (by simp; omega), keepS (keepC (keepC (by simp [go_sem]) b1) b2) (by simp)⟩ | go_keep) (first
    | (go_at_call 105; refine (N _).mono ?_; rintro e w1 ⟨rfl, b1⟩)
    | (go_at_call 87; refine (M _).mono ?_; rintro e w2 ⟨rfl, b2⟩; have hr2 := (hr.keep b1).keep b2; have cc := hr2.cell; have ff := hr2.frz))
  go_wp2
  have hb2 := keepB (keepB hbX hl b1) (Nat.le_trans hl b1.size) b2
  exact bodyPost_ret (v := .agg #[.int .u64 c]) (num_res (fn := Tryz.f89) (p := 4) Tryz.results89 _ rfl (hr2.set c)) rfl ⟨rfl, hb2.setCell (p := ⟨w.heap.size + 1 + 1, 0, none⟩) (by simp; omega) _⟩
end Go.Proofs.YtagnikeaellbiaaGreatDoor

/-
  Slices of points of the laws: toPointS, eqPointS, szPointS.
-/
namespace Go.Proofs.YtagnikeaellbiaaGreatDoor
open Go.RowKit M
set_option linter.unusedVariables false

/-- a slice that came in: nil, empty, or points in a row -/
def Ars (W : World) (v : Value) (ps : List Tri) : Prop := ∃ a n cap, v = .slice a n cap ∧ ps.length = n ∧ (n = 0 ∨ ∃ g o, a = some ⟨g, o, none⟩ ∧ Pts W g o ps)
theorem Ars.keep {W W' : World} {v : Value} {ps : List Tri} (h : Ars W v ps) (hb : Below W.heap.size W W') : Ars W' v ps := by
  obtain ⟨a, n, cap, hv, hl, h0 | ⟨g, o, ha, hp⟩⟩ := h
  · exact ⟨a, n, cap, hv, hl, .inl h0⟩
  · exact ⟨a, n, cap, hv, hl, .inr ⟨g, o, ha, hp.keep hb⟩⟩
theorem Ars.keep' {W W' : World} {v : Value} {ps : List Tri} (h : Ars W v ps) (hb : Below W.heap.size W W') : Ars W' v ps := h.keep hb
/-- points in a block of cells -/
def InA (cur : Array Value) (ps : List Tri) : Prop := ∀ i (t : Tri), ps[i]? = some t → cur[i * 3]? = some (.int .u64 (t.1 : Int)) ∧ cur[i * 3 + 1]? = some (.int .u64 (t.2.1 : Int)) ∧ cur[i * 3 + 2]? = some (.bool t.2.2)
theorem InA.pts {W : World} {g : Nat} {T : TypeId} {cur : Array Value} {ps : List Tri} (h : InA cur ps) (hg : W.heap[g]? = some (.cells cur T)) : Pts W g 0 ps := by
  refine ⟨(Array.getElem?_eq_some_iff.1 hg).1, fun i t ht => ?_, fun i t ht => ?_, fun i t ht => ?_⟩
  · rw [cell_of_row _ _ _ _ _ _ hg, Nat.zero_add]; exact (h i t ht).1
  · rw [cell_of_row _ _ _ _ _ _ hg, Nat.zero_add]; exact (h i t ht).2.1
  · rw [cell_of_row _ _ _ _ _ _ hg, Nat.zero_add]; exact (h i t ht).2.2
theorem set3_at {W : World} {g k : Nat} {T : TypeId} {cur : Array Value} (hg : W.heap[g]? = some (.cells cur T)) (hk : k + 2 < cur.size) (v0 v1 v2 : Value) :
    ∃ cur', (((W.setCell ⟨g, k, none⟩ v0).setCell ⟨g, k + 1, none⟩ v1).setCell ⟨g, k + 2, none⟩ v2).heap[g]? = some (.cells cur' T) ∧ cur'.size = cur.size ∧ cur'[k]? = some v0 ∧ cur'[k + 1]? = some v1 ∧ cur'[k + 2]? = some v2 ∧ ∀ i, i < k → cur'[i]? = cur[i]? := by
  refine ⟨((cur.setIfInBounds k v0).setIfInBounds (k + 1) v1).setIfInBounds (k + 2) v2, ?_, by simp, ?_, ?_, ?_, fun i hi => ?_⟩
  · simp [World.setCell, Array.getElem?_modify, hg]
  · rw [Array.getElem?_setIfInBounds, if_neg (by omega), Array.getElem?_setIfInBounds, if_neg (by omega), Array.getElem?_setIfInBounds, if_pos rfl, if_pos (by omega)]
  · rw [Array.getElem?_setIfInBounds, if_neg (by omega), Array.getElem?_setIfInBounds, if_pos rfl, if_pos (by simp; omega)]
  · rw [Array.getElem?_setIfInBounds, if_pos rfl, if_pos (by simp; omega)]
  · rw [Array.getElem?_setIfInBounds, if_neg (by omega), Array.getElem?_setIfInBounds, if_neg (by omega), Array.getElem?_setIfInBounds, if_neg (by omega)]
theorem infoPt : (Tryz.prog.info? 27).map (fun i => (i.zero, i.size, i.bytes)) = some (some (.agg #[.int .u64 0, .int .u64 0, .bool false]), 3, 24) := by kernel_rfl
set_option maxRecDepth 100000 in
set_option maxHeartbeats 2000000 in
theorem toP5 (x y : Int) (c : Bool) (w : World) :
    Calls Tryz.prog 9 #[.agg #[.int .u64 x, .int .u64 y, .bool c]] w fun e w' => e = .returned (.agg #[.int .u64 x, .int .u64 y, .bool c]) ∧ Below w.heap.size w w' := by
  go_enter Tryz.func9, Tryz.ntmps9
  go_wp2
  refine bodyPost_ret (v := .agg #[.int .u64 x, .int .u64 y, .bool c]) (by simp [results, Tryz.results9, go_sem]) rfl ⟨rfl, ?_⟩
  exact (((Below.refl _ w).alloc (Nat.le_refl _) _).alloc (by simp) _).alloc (by simp; omega) _
/-- the block of a slice of points that a law has made -/
def Mad (x : Nat) (ps : List Tri) (w : World) : Prop := ∃ cur, w.heap[x]? = some (.cells cur 27) ∧ InA cur ps
theorem Mad.pts {x : Nat} {ps : List Tri} {w : World} (h : Mad x ps w) : Pts w x 0 ps := by obtain ⟨cur, h1, h2⟩ := h; exact h2.pts h1
theorem Mad.keep {x : Nat} {ps : List Tri} {w w' : World} (h : Mad x ps w) (hb : Below w.heap.size w w') : Mad x ps w' := by
  obtain ⟨cur, h1, h2⟩ := h
  exact ⟨cur, (hb.block x (Array.getElem?_eq_some_iff.1 h1).1).trans h1, h2⟩
set_option maxRecDepth 100000 in
set_option maxHeartbeats 2000000 in
theorem tpsL_any (v : Value) (ps : List Tri) (w : World) (hA : Ars w v ps) (hn : ps.length ≤ 1048576) :
    Calls Tryz.prog 10 #[v] w fun e w' => ∃ x, e = .returned (.slice (some ⟨x, 0, none⟩) ps.length ps.length) ∧ Mad x ps w' ∧ Below w.heap.size w w' := by
  obtain ⟨a, n, cap, rfl, hl, hA⟩ := hA
  obtain ⟨i0, hi, hz0, hz1, hz2⟩ := info_parts infoPt
  rw [hl] at hn ⊢
  obtain ⟨w1, hmk, ⟨cur1, hg1, hs1⟩, hbl1⟩ : ∃ w1, (Instr.makeSlice 31 (.int .i64 n) (.int .i64 n)).run Tryz.prog w = .ok (.slice (some ⟨w.heap.size, 0, none⟩) n n) w1 ∧ (∃ cur, w1.heap[w.heap.size]? = some (.cells cur 27) ∧ cur.size = n * 3) ∧ Below w.heap.size w w1 := by
    obtain ⟨w1, hr, ho, hg⟩ := run_make_full (P := Tryz.prog) w w.heap.size 31 27 i0 (.agg #[.int .u64 0, .int .u64 0, .bool false]) 3 Tryz.underlying31 hi hz0 hz1 .i64 .i64 n (by rw [hz2]; omega) (by unfold maxLen; omega) (Nat.le_refl _)
    refine ⟨w1, hr, ?_, (Below.refl _ _).grown hg (Nat.le_refl _) (fun r hr => by cases hr)⟩
    rcases ho.2 with ⟨h0, _⟩ | ⟨g, cp, cur, hv, -, hcur, -, -, hsz, -⟩
    · cases h0
    · injection hv with e1 e2 e3
      injection e1 with e1
      injection e1 with e1
      subst e1 e3
      exact ⟨cur, hcur, hsz⟩
  have hT := toP5
  go_enter Tryz.func10, Tryz.ntmps10
  go_wp2
  go_loopw [4] (fun iv wr => ∃ (j : Nat) (cur : Array Value), j ≤ n ∧ iv = .int .i64 (j : Int) ∧ wr.heap[w.heap.size]? = some (.cells cur 27) ∧ cur.size = n * 3 ∧ InA cur (ps.take j) ∧ Below w.heap.size w wr) (fun i _ => n - (intOf i).toNat)
  case atStart => exact ⟨0, cur1, by omega, rfl, hg1, hs1, fun i t ht => by simp at ht, hbl1⟩
  case round =>
    clear hg1 hs1 hbl1 hmk
    obtain ⟨j, cur, hj, rfl, hg, hs, hin, hbl⟩ := hrel
    by_cases hlt : j < n
    · have hli : (j : Int) < (n : Int) := by omega
      obtain ⟨g, o, rfl, hp⟩ : ∃ g o, a = some ⟨g, o, none⟩ ∧ Pts w g o ps := by
        rcases hA with h0 | h
        · omega
        · exact h
      obtain ⟨t, ht⟩ : ∃ t, ps[j]? = some t := ⟨_, List.getElem?_eq_getElem (by omega)⟩
      have pp := hp.below hbl hp.lt
      have c0 := pp.c0 j t ht
      have c1 := pp.c1 j t ht
      have c2 := pp.c2 j t ht
      have htk : Hid (ps.take (j + 1) = ps.take j ++ [t]) := by simp only [Hid]; rw [List.take_add_one, ht]; rfl
      obtain ⟨tx, ty, tc⟩ := t
      dsimp only at c0 c1 c2
      have hl3 : (ps.take j).length = j := by rw [List.length_take]; omega
      clear ht pp hp hA
      go_wp2_with fail
      refine (hT _ _ _ _).mono ?_
      rintro e w2 ⟨rfl, b2⟩
      have hlt2 : w.heap.size < wr.heap.size := (Array.getElem?_eq_some_iff.1 hg).1
      replace hg := (b2.block _ hlt2).trans hg
      replace hbl := hbl.trans (b2.mono hbl.size)
      clear b2 c0 c1 c2 hlt2
      have d0 : w2.cell? ⟨w.heap.size, j * 3, none⟩ = some cur[j * 3] := by rw [cell_of_row _ _ _ _ _ _ hg]; exact Array.getElem?_eq_getElem (by omega)
      have d1 : w2.cell? ⟨w.heap.size, j * 3 + 1, none⟩ = some cur[j * 3 + 1] := by rw [cell_of_row _ _ _ _ _ _ hg]; exact Array.getElem?_eq_getElem (by omega)
      have d2 : w2.cell? ⟨w.heap.size, j * 3 + 2, none⟩ = some cur[j * 3 + 2] := by rw [cell_of_row _ _ _ _ _ _ hg]; exact Array.getElem?_eq_getElem (by omega)
      have f0 : ∀ i, w2.frozen? ⟨w.heap.size, i, none⟩ = false := fun i => frozen_of_row _ _ i _ _ hg
      generalize cur[j * 3] = u0 at *
      generalize cur[j * 3 + 1] = u1 at *
      generalize cur[j * 3 + 2] = u2 at *
      go_wp2
      obtain ⟨cur', q1, q2, q3, q4, q5, q6⟩ := set3_at hg (k := j * 3) (by omega) (.int .u64 (tx : Int)) (.int .u64 (ty : Int)) (.bool tc)
      have R1 : InA cur' (ps.take (j + 1)) := by
        rw [htk.out]
        intro i t ht
        by_cases hij : i < j
        · rw [List.getElem?_append_left (by omega)] at ht
          have := hin i t ht
          rw [q6 _ (by omega), q6 _ (by omega), q6 _ (by omega)]
          exact this
        · rw [List.getElem?_append_right (by omega), hl3] at ht
          have h0 : i = j := by
            have := (List.getElem?_eq_some_iff.1 ht).1
            simp at this
            omega
          subst h0
          simp at ht
          subst ht
          exact ⟨q3, q4, q5⟩
      have R2 : Below w.heap.size w (((w2.setCell ⟨w.heap.size, j * 3, none⟩ (.int .u64 (tx : Int))).setCell ⟨w.heap.size, j * 3 + 1, none⟩ (.int .u64 (ty : Int))).setCell ⟨w.heap.size, j * 3 + 2, none⟩ (.bool tc)) :=
        ((hbl.setCell (p := ⟨w.heap.size, j * 3, none⟩) (Nat.le_refl _) _).setCell (p := ⟨w.heap.size, j * 3 + 1, none⟩) (Nat.le_refl _) _).setCell (p := ⟨w.heap.size, j * 3 + 2, none⟩) (Nat.le_refl _) _
      rw [hs] at q2
      clear d0 d1 d2 f0 hin hg hbl q3 q4 q5 q6
      generalize ((w2.setCell ⟨w.heap.size, j * 3, none⟩ (.int .u64 (tx : Int))).setCell ⟨w.heap.size, j * 3 + 1, none⟩ (.int .u64 (ty : Int))).setCell ⟨w.heap.size, j * 3 + 2, none⟩ (.bool tc) = W3 at *
      go_roundw
      case rel =>
        first
          | exact ⟨j + 1, cur', by omega, by go_num, q1, q2, R1, R2⟩
          | ((repeat apply Exists.intro); exact ⟨⟨j + 1, cur', by omega, by go_num, q1, q2, R1, R2⟩, rfl⟩)
      case measure => simp [intOf]; omega
    · obtain rfl : j = n := by omega
      rw [List.take_of_length_le (by omega)] at hin
      go_wp2
      go_ret
      exact ⟨w.heap.size, rfl, ⟨cur, hg, hin⟩, hbl⟩
set_option maxRecDepth 100000 in
theorem szL_yes (a : Option Addr) (n cap : Nat) (left : Int) (w : World) (h : (n : Int) ≤ left) (hl : left ≤ 1048576) :
    Calls Tryz.prog 7 #[.slice a n cap, .int .i64 left] w fun e w' => e = .returned (.int .i64 (left - n)) ∧ w = w' := by
  have e : IntKind.i64.wrap (left - n) = left - n := i64_in _ (by omega) (by omega)
  have g : ¬ (left - n : Int) < 0 := by omega
  go_enter Tryz.func7, Tryz.ntmps7
  go_wp2
  go_ret
  exact ⟨rfl, rfl⟩
set_option maxRecDepth 100000 in
theorem szL_no (a : Option Addr) (n cap : Nat) (left : Int) (w : World) (h : left < (n : Int)) (hl : left ≤ 1048576) (h0 : 0 ≤ left) (hn : n ≤ maxLen) :
    Calls Tryz.prog 7 #[.slice a n cap, .int .i64 left] w fun e w' => e = .returned (.int .i64 (-1)) ∧ w = w' := by
  unfold maxLen at hn
  have e : IntKind.i64.wrap (left - n) = left - n := i64_in _ (by omega) (by omega)
  have g : (left - n : Int) < 0 := by omega
  go_enter Tryz.func7, Tryz.ntmps7
  go_wp2
  go_ret
  exact ⟨rfl, rfl⟩
theorem cf_eqPoint (args : Array Value) (w : World) : (callFunc 12 args).run Tryz.prog w = .ok (.enter 12 args) w := by kernel_rfl
theorem notT {A : Act} {w : World} {dst : Option Tmp} {ty : TypeId} {ps : String} {af : Array Edge} {gd : Option (Nat × Bool)} {x : Operand} (hx : A.eval x = .bool true) :
    Does Tryz.prog { dst := dst, op := .unOp .not 4 x, type := ty, pos := ps, after := af, guard := gd } A w fun v' w' => v' = .bool false ∧ Below w.heap.size w w' := by
  have h : (execOp A.eval { dst := dst, op := .unOp .not 4 x, type := ty, pos := ps, after := af, guard := gd }).run Tryz.prog w = .ok (.value (.bool false)) w := by generalize A.eval = ev at *; simp [execOp, hx, go_sem]
  exact does_value h ⟨rfl, Below.refl _ _⟩
set_option maxRecDepth 100000 in
set_option maxHeartbeats 2000000 in
theorem epsL_any (ps : List Tri) (x y : Nat) (w : World) (hx : Mad x ps w) (hy : Mad y ps w) (hn : ps.length ≤ 1048576) :
    Calls Tryz.prog 13 #[.slice (some ⟨x, 0, none⟩) ps.length ps.length, .slice (some ⟨y, 0, none⟩) ps.length ps.length] w fun e w' => e = .returned (.bool true) ∧ Below w.heap.size w w' := by
  have hX := hx.pts
  have hY := hy.pts
  obtain ⟨n, hl⟩ : ∃ n, ps.length = n := ⟨_, rfl⟩
  rw [hl] at hn ⊢
  clear hx hy
  go_enter Tryz.func13, Tryz.ntmps13
  go_wp2
  go_loopw [5] (fun iv wr => ∃ j : Nat, j ≤ n ∧ iv = .int .i64 (j : Int) ∧ Below w.heap.size w wr) (fun i _ => n - (intOf i).toNat)
  case atStart => exact ⟨0, by omega, rfl, Below.refl _ _⟩
  case round =>
    obtain ⟨j, hj, rfl, hbl⟩ := hrel
    by_cases hlt : j < n
    · have hli : (j : Int) < (n : Int) := by omega
      obtain ⟨t, ht⟩ : ∃ t, ps[j]? = some t := ⟨_, List.getElem?_eq_getElem (by omega)⟩
      have px' := (hX.below hbl hX.lt).drew
      have py' := (hY.below hbl hY.lt).drew
      have c0 := px'.c0 j t ht
      have c1 := px'.c1 j t ht
      have c2 := px'.c2 j t ht
      have d0 := py'.c0 j t ht
      have d1 := py'.c1 j t ht
      have d2 := py'.c2 j t ht
      have E := eqP (t.1 : Int) (t.2.1 : Int) t.2.2
      obtain ⟨tx, ty, tc⟩ := t
      dsimp only at c0 c1 c2 d0 d1 d2 E
      clear ht px' py'
      go_wp2
      refine pool_list [.val (.slice (some ⟨x, 0, none⟩) n n),
          .val (.int .i64 (j : Int)),
          .val (.pointer (some ⟨x, 0 + j * 3, none⟩)),
          .val (.agg #[.int .u64 (tx : Int), .int .u64 (ty : Int), .bool tc]),
          .val (.slice (some ⟨y, 0, none⟩) n n),
          .val (.int .i64 (j : Int)),
          .val (.pointer (some ⟨y, 0 + j * 3, none⟩)),
          .val (.agg #[.int .u64 (tx : Int), .int .u64 (ty : Int), .bool tc]),
          .val (.bool true),
          .val (.bool false)] [[0], [5], [17, 18], [19], [1], [5], [21, 22], [23], [20, 24], [25]] (fun f => [(some 17, .slice (some ⟨x, 0, none⟩) n n), (some 18, .int .i64 (j : Int)), (some 19, .pointer (some ⟨x, 0 + j * 3, none⟩)), (some 20, .agg #[.int .u64 (tx : Int), .int .u64 (ty : Int), .bool tc]), (some 21, .slice (some ⟨y, 0, none⟩) n n), (some 22, .int .i64 (j : Int)), (some 23, .pointer (some ⟨y, 0 + j * 3, none⟩)), (some 24, .agg #[.int .u64 (tx : Int), .int .u64 (ty : Int), .bool tc]), (some 25, .bool true), (some 26, .bool false)]) (by kernel_rfl) (by kernel_rfl) (by kernel_rfl) (by kernel_rfl) (fun _ => by kernel_rfl) ?_ ?_
      · intro ix hix
        match ix, hix with
        | 0, _ => exact ob_val [(0, .slice (some ⟨x, 0, none⟩) n n)] rfl rfl (fun _ => by kernel_rfl) (fun A w ⟨e0, _⟩ hB => doV_move e0)
        | 1, _ => exact ob_val [(5, .int .i64 (j : Int))] rfl rfl (fun _ => by kernel_rfl) (fun A w ⟨e0, _⟩ hB => doV_move e0)
        | 2, _ => exact ob_val [(17, .slice (some ⟨x, 0, none⟩) n n), (18, .int .i64 (j : Int))] rfl rfl (fun _ => by kernel_rfl) (fun A w ⟨e0, e1, _⟩ hB => ix_pts e0 e1 (by omega))
        | 3, _ => exact ob_val [(19, .pointer (some ⟨x, 0 + j * 3, none⟩))] rfl rfl (fun _ => by kernel_rfl) (fun A w ⟨e0, _⟩ hB => ld_pt e0 (keepC c0 hB) (keepC c1 hB) (keepC c2 hB))
        | 4, _ => exact ob_val [(1, .slice (some ⟨y, 0, none⟩) n n)] rfl rfl (fun _ => by kernel_rfl) (fun A w ⟨e0, _⟩ hB => doV_move e0)
        | 5, _ => exact ob_val [(5, .int .i64 (j : Int))] rfl rfl (fun _ => by kernel_rfl) (fun A w ⟨e0, _⟩ hB => doV_move e0)
        | 6, _ => exact ob_val [(21, .slice (some ⟨y, 0, none⟩) n n), (22, .int .i64 (j : Int))] rfl rfl (fun _ => by kernel_rfl) (fun A w ⟨e0, e1, _⟩ hB => ix_pts e0 e1 (by omega))
        | 7, _ => exact ob_val [(23, .pointer (some ⟨y, 0 + j * 3, none⟩))] rfl rfl (fun _ => by kernel_rfl) (fun A w ⟨e0, _⟩ hB => ld_pt e0 (keepC d0 hB) (keepC d1 hB) (keepC d2 hB))
        | 8, _ => exact ob_val [(20, .agg #[.int .u64 (tx : Int), .int .u64 (ty : Int), .bool tc]), (24, .agg #[.int .u64 (tx : Int), .int .u64 (ty : Int), .bool tc])] rfl rfl (fun _ => by kernel_rfl) (fun A w ⟨e0, e1, _⟩ hB => cl2 cf_eqPoint e0 e1 (E w))
        | 9, _ => exact ob_val [(25, .bool true)] rfl rfl (fun _ => by kernel_rfl) (fun A w ⟨e0, _⟩ hB => notT e0)
        | ix + 10, h => exact absurd h (by simp)
      intro f W2 hb2 _ _
      have hb2' : Below wr.heap.size wr W2 := (Below.refl _ wr).drew.trans hb2
      have R2 := hbl.trans (hb2'.mono hbl.size)
      clear c0 c1 c2 d0 d1 d2 E hb2 hb2' hbl
      simp only [puts, List.foldl, Act.put, List.setIfInBounds_toArray, List.set_cons_zero, List.set_cons_succ]
      go_wp2
      go_roundw
      case rel =>
        first
          | exact ⟨j + 1, by omega, by go_num, R2⟩
          | ((repeat apply Exists.intro); exact ⟨⟨j + 1, by omega, by go_num, R2⟩, rfl⟩)
      case measure => simp [intOf]; omega
    · obtain rfl : j = n := by omega
      go_wp2
      go_ret
      exact ⟨rfl, hbl⟩
end Go.Proofs.YtagnikeaellbiaaGreatDoor
