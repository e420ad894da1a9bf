import Derived.Test.YtenggagjgmonoaaGreatDoorMrg19
import Derived.Test.YtenggagjgmonoaaGreatDoorMrg1
import Derived.Deep.RegionHeld3
namespace Go.Proofs.YtenggagjgmonoaaGreatDoor
open Go.RowKit
set_option linter.unusedVariables false

theorem methP (w : World) : (method 264 47 (.agg #[]) "loop.example/s02095/impl.value").run Tryz.prog w = .ok (113, .agg #[]) w := by kernel_rfl
set_option maxRecDepth 100000 in
theorem valP (w : World) :
    Calls Tryz.prog 113 #[.agg #[]] w fun e w' => e = .returned (.int .u64 2305843009213693951) ∧ w' = w.alloc (.cells #[] 47) := by
  go_enter Tryz.func113, Tryz.ntmps113
  go_wp2
  go_ret
  exact ⟨rfl, rfl⟩
theorem foldP : Array.foldl (fun (cs : Array Value) (x : Value × Nat) => cs.setIfInBounds x.snd x.fst) #[Value.int IntKind.u64 0] (#[] : Array Value).zipIdx 0 0 = #[Value.int .u64 0] := rfl

set_option maxRecDepth 100000 in
set_option maxHeartbeats 2000000 in
theorem redP_one (w : World) :
    Calls Tryz.prog 17 #[.int .u64 1, .agg #[]] w fun e w' => e = .returned (.agg #[.int .u64 1]) ∧ w' = (((w.alloc (.cells #[] 47)).alloc (.cells #[.int .u64 1] 49)).alloc (.cells #[] 47)).drew := by
  have hm := methP
  have hf := foldP
  have V := valP
  go_enter Tryz.func17, Tryz.ntmps17
  go_wp2
  go_region_held3 (fun _ => True) (trivial) ((go_simp; go_at_call 113; refine (V _).mono ?_; rintro e w' ⟨rfl, rfl⟩))
  go_wp2
  refine bodyPost_ret (v := .agg #[.int .u64 1]) (by simp [results, Tryz.results17, go_sem]) rfl ⟨rfl, rfl⟩
theorem cellsP : Tryz.prog.cellsOf 49 = 1 := by kernel_rfl
theorem byteP : byteOfCell Tryz.prog Tryz.prog.depth 49 0 = some 0 := by kernel_rfl
theorem partP {W : World} {b : Nat} {cs : Array Value} (hW : W.heap[b]? = some (.cells cs 49)) : (partAt ⟨b, 0, none⟩ 0 0).run Tryz.prog W = .ok ⟨b, 0, none⟩ W := by
  have h : (byteOf ⟨b, 0, none⟩).run Tryz.prog W = .ok 0 W := by
    have hs : W.shape? b = some (49, cs.size) := by simp [World.shape?, hW]
    simp [byteOf, noView, viewAt, shape, program, Sem.run, hs, cellsP, byteP, go_sem]
  simp [partAt, h, go_sem]

set_option maxRecDepth 100000 in
set_option maxHeartbeats 2000000 in
theorem timP_any (a b : Nat) (w : World) (ha : a < 2305843009213693951) (hb : b < 2305843009213693951) :
    Calls Tryz.prog 37 #[.agg #[.int .u64 a], .agg #[.int .u64 b]] w fun e w' => e = .returned (.agg #[.int .u64 (a * b % 2305843009213693951 : Nat)]) ∧ Below w.heap.size w w' := by
  have hme := methP
  have hf := foldP
  have M := mul64_any a b (by omega) (by omega)
  have D := fun w => div_any (a * b / 18446744073709551616) (a * b % 18446744073709551616) 2305843009213693951 w (by
    rw [Nat.div_lt_iff_lt_mul (by decide)]
    have : a * b ≤ 2305843009213693950 * 2305843009213693950 := Nat.mul_le_mul (by omega) (by omega)
    omega) (by decide) (Nat.mod_lt _ (by decide))
  have e : a * b / 18446744073709551616 * 18446744073709551616 + a * b % 18446744073709551616 = a * b := by omega
  rw [e] at D
  clear e
  generalize a * b / 18446744073709551616 = hi at *
  generalize a * b % 18446744073709551616 = lo at *
  obtain ⟨c, hc⟩ : ∃ c, c = a * b % 2305843009213693951 := ⟨_, rfl⟩
  rw [← hc] at D ⊢
  clear hc ha hb
  obtain ⟨X, hX⟩ : ∃ X, X = ((w.alloc (Obj.cells #[.int .u64 (a : Int)] 49)).alloc (Obj.cells #[.int .u64 (b : Int)] 49)).alloc (Obj.cells #[.int .u64 0] 49) := ⟨_, rfl⟩
  have hX0 : X.heap[w.heap.size]? = some (.cells #[.int .u64 (a : Int)] 49) := by
    rw [hX]
    exact (Below.heap_alloc _ _ _ (by simp; omega)).trans ((Below.heap_alloc _ _ _ (by simp)).trans (heap_alloc_new w _))
  have hp1 := partP hX0
  have hX1 : (X.alloc (Obj.cells #[] 47)).heap[w.heap.size]? = some (.cells #[.int .u64 (a : Int)] 49) := (Below.heap_alloc _ _ _ (Array.getElem?_eq_some_iff.1 hX0).1).trans hX0
  have hp2 := partP hX1
  have hp3 := partP (W := (X.alloc (Obj.cells #[] 47)).drew) hX1
  rw [hX] at hp1 hp2 hp3
  clear hX hX0 hX1
  go_enter Tryz.func37, Tryz.ntmps37
  go_wp2_with fail
  refine (M _).mono ?_
  rintro e w' ⟨rfl, rfl⟩
  go_wp2_with fail
  refine (valP _).mono ?_
  rintro e w' ⟨rfl, rfl⟩
  go_wp2_with fail
  refine (D _).mono ?_
  rintro e w' ⟨⟨z, rfl⟩, rfl | rfl⟩
  · go_wp2
    refine bodyPost_ret (v := .agg #[.int .u64 c]) (by simp [results, Tryz.results37, go_sem]) rfl ⟨rfl, ?_⟩
    exact ((((Below.refl _ _).alloc (Nat.le_refl _) _).alloc (by simp) _).alloc (by simp; omega) _).alloc (by simp; omega) _
  · go_wp2
    refine bodyPost_ret (v := .agg #[.int .u64 c]) (by simp [results, Tryz.results37, go_sem]) rfl ⟨rfl, ?_⟩
    exact (((((Below.refl _ _).alloc (Nat.le_refl _) _).alloc (by simp) _).alloc (by simp; omega) _).alloc (by simp; omega) _).drew
end Go.Proofs.YtenggagjgmonoaaGreatDoor

namespace Go.Proofs.YtenggagjgmonoaaGreatDoor
open Go.RowKit
set_option linter.unusedVariables false

/-- what stands stays through a call -/
theorem keepC {w1 w2 : World} {p : Addr} {v : Value} (h : w1.cell? p = some v) (b : Below w1.heap.size w1 w2) : w2.cell? p = some v := by
  by_cases hl : p.block < w1.heap.size
  · rw [← h]; unfold World.cell?; rw [b.block _ hl]
  · exfalso
    have : w1.heap[p.block]? = none := Array.getElem?_eq_none (by omega)
    simp [World.cell?, this] at h
theorem keepS {w1 : World} {p : Addr} {v u : Value} {b i : Nat} (h : w1.cell? p = some v) (hne : p.block ≠ b) : (w1.setCell ⟨b, i, none⟩ u).cell? p = some v := by
  rw [← h]; unfold World.cell?; simp [World.setCell, Array.getElem?_modify, Ne.symm hne]
theorem keepB {n : Nat} {w0 w1 w2 : World} (h : Below n w0 w1) (hn : n ≤ w1.heap.size) (b : Below w1.heap.size w1 w2) : Below n w0 w2 := h.trans (b.mono hn)

/-- a block that holds one number's word -/
def R1 (W : World) (b : Nat) (y : Int) : Prop := W.heap[b]? = some (.cells #[.int .u64 y] 49)
section
variable {W W' : World} {b : Nat} {y : Int}
theorem R1.cell (h : R1 W b y) : W.cell? ⟨b, 0, none⟩ = some (.int .u64 y) := by unfold R1 at h; simp [World.cell?, h]
theorem R1.frz (h : R1 W b y) : W.frozen? ⟨b, 0, none⟩ = false := by unfold R1 at h; simp [World.frozen?, h]
theorem R1.lt (h : R1 W b y) : b < W.heap.size := (Array.getElem?_eq_some_iff.1 h).1
theorem R1.below {N : Nat} (h : R1 W b y) (hb : Below N W W') (hl : b < N) : R1 W' b y := (hb.block b hl).trans h
theorem R1.keep (h : R1 W b y) (hb : Below W.heap.size W W') : R1 W' b y := h.below hb h.lt
theorem R1.new (w : World) (y : Int) : R1 (w.alloc (.cells #[.int .u64 y] 49)) w.heap.size y := heap_alloc_new w _
theorem R1.alloc (h : R1 W b y) (o : Obj) : R1 (W.alloc o) b y := (Below.heap_alloc W o b h.lt).trans h
theorem R1.drew (h : R1 W b y) : R1 W.drew b y := h
theorem R1.range (h : R1 W b y) : W.rangeAt b 0 [.int .u64 y] := fun j v hj => by
  match j, hj with
  | 0, hj => cases hj; exact h.cell
theorem R1.at {b' : Nat} (h : R1 W b y) (e : b = b') : R1 W b' y := e ▸ h
theorem R1.set (h : R1 W b y) (y' : Int) : R1 (W.setCell ⟨b, 0, none⟩ (.int .u64 y')) b y' := by
  unfold R1 at *
  simp [World.setCell, Array.getElem?_modify, h]
theorem R1.other (h : R1 W b y) {b' : Nat} (hne : b ≠ b') (i : Nat) (v : Value) : R1 (W.setCell ⟨b', i, none⟩ v) b y := by
  unfold R1 at *
  rw [← h]
  simp [World.setCell, Array.getElem?_modify, Ne.symm hne]
theorem num_res {fn : Func} {p : Tmp} (h : fn.results = #[.cell p 49]) (tmps : Array Value) (hp : tmps.getD p undef = .pointer (some ⟨b, 0, none⟩)) (hc : R1 W b y) :
    (results fn tmps).run Tryz.prog W = .ok (.agg #[.int .u64 y]) W :=
  results_mid h tmps W b 0 [.int .u64 y] _ hp hc.range Tryz.underlying49 rfl (by kernel_rfl)
end

set_option maxRecDepth 100000 in
set_option maxHeartbeats 2000000 in
theorem mnP_lt (a b d c : Int) (w : World) (h : a < b) (hd : IntKind.u64.wrap (a - b) = d) (hc : IntKind.u64.wrap (d + 2305843009213693951) = c) :
    Calls Tryz.prog 55 #[.agg #[.int .u64 a], .agg #[.int .u64 b]] w fun e w' => e = .returned (.agg #[.int .u64 c]) ∧ Below w.heap.size w w' := by
  have hme := methP
  have hf := foldP
  obtain ⟨X, hX⟩ : ∃ X, X = ((w.alloc (Obj.cells #[.int .u64 a] 49)).alloc (Obj.cells #[.int .u64 b] 49)).alloc (Obj.cells #[.int .u64 0] 49) := ⟨_, rfl⟩
  have hX0 : X.heap[w.heap.size]? = some (.cells #[.int .u64 a] 49) := by
    rw [hX]
    exact (Below.heap_alloc _ _ _ (by simp; omega)).trans ((Below.heap_alloc _ _ _ (by simp)).trans (heap_alloc_new w _))
  have hp1 := partP hX0
  have hX1 : (X.alloc (Obj.cells #[] 47)).heap[w.heap.size]? = some (.cells #[.int .u64 a] 49) := (Below.heap_alloc _ _ _ (Array.getElem?_eq_some_iff.1 hX0).1).trans hX0
  have hp2 := partP hX1
  rw [hX] at hp1 hp2
  clear hX hX0 hX1
  go_enter Tryz.func55, Tryz.ntmps55
  go_wp2_with fail
  refine (valP _).mono ?_
  rintro e w' ⟨rfl, rfl⟩
  go_wp2
  refine bodyPost_ret (v := .agg #[.int .u64 c]) (by simp [results, Tryz.results55, go_sem]) rfl ⟨rfl, ?_⟩
  exact ((((Below.refl _ _).alloc (Nat.le_refl _) _).alloc (by simp) _).alloc (by simp; omega) _).alloc (by simp; omega) _
set_option maxRecDepth 100000 in
set_option maxHeartbeats 2000000 in
theorem mnP_ge (a b d : Int) (w : World) (h : b ≤ a) (hd : IntKind.u64.wrap (a - b) = d) :
    Calls Tryz.prog 55 #[.agg #[.int .u64 a], .agg #[.int .u64 b]] w fun e w' => e = .returned (.agg #[.int .u64 d]) ∧ Below w.heap.size w w' := by
  have hme := methP
  have hf := foldP
  have hlt : ¬ a < b := by omega
  clear h
  obtain ⟨X, hX⟩ : ∃ X, X = ((w.alloc (Obj.cells #[.int .u64 a] 49)).alloc (Obj.cells #[.int .u64 b] 49)).alloc (Obj.cells #[.int .u64 0] 49) := ⟨_, rfl⟩
  have hX0 : X.heap[w.heap.size]? = some (.cells #[.int .u64 a] 49) := by
    rw [hX]
    exact (Below.heap_alloc _ _ _ (by simp; omega)).trans ((Below.heap_alloc _ _ _ (by simp)).trans (heap_alloc_new w _))
  have hp1 := partP hX0
  rw [hX] at hp1
  clear hX hX0
  go_enter Tryz.func55, Tryz.ntmps55
  go_wp2
  refine bodyPost_ret (v := .agg #[.int .u64 d]) (by simp [results, Tryz.results55, go_sem]) rfl ⟨rfl, ?_⟩
  exact (((Below.refl _ _).alloc (Nat.le_refl _) _).alloc (by simp) _).alloc (by simp; omega) _
/-- the difference, over numbers below P -/
theorem mnP_any (a b c : Int) (w : World) (ha0 : 0 ≤ a) (ha : a < 2305843009213693951) (hb0 : 0 ≤ b) (hb : b < 2305843009213693951) (hc : c = if a < b then a - b + 2305843009213693951 else a - b) :
    Calls Tryz.prog 55 #[.agg #[.int .u64 a], .agg #[.int .u64 b]] w fun e w' => e = .returned (.agg #[.int .u64 c]) ∧ Below w.heap.size w w' := by
  by_cases h : a < b
  · rw [if_pos h] at hc
    exact mnP_lt a b (a - b + 18446744073709551616) c w h (by rw [IntKind.wrap_u64]; omega) (by rw [IntKind.wrap_u64]; omega)
  · rw [if_neg h] at hc
    exact mnP_ge a b c w (by omega) (by rw [IntKind.wrap_u64]; omega)

set_option maxRecDepth 100000 in
set_option maxHeartbeats 2000000 in
theorem ngP_of (a c : Int) (w : World)
    (M : ∀ w, Calls Tryz.prog 55 #[.agg #[.int .u64 0], .agg #[.int .u64 a]] w fun e w' => e = .returned (.agg #[.int .u64 c]) ∧ Below w.heap.size w w') :
    Calls Tryz.prog 36 #[.agg #[.int .u64 a]] w fun e w' => e = .returned (.agg #[.int .u64 c]) ∧ Below w.heap.size w w' := by
  have hf := foldP
  obtain ⟨X, hX⟩ : ∃ X, X = (w.alloc (Obj.cells #[.int .u64 a] 49)).alloc (Obj.cells #[.int .u64 0] 49) := ⟨_, rfl⟩
  have hX0 : X.heap[w.heap.size]? = some (.cells #[.int .u64 a] 49) := by
    rw [hX]
    exact (Below.heap_alloc _ _ _ (by simp)).trans (heap_alloc_new w _)
  have hp1 := partP hX0
  have hr : R1 X (w.heap.size + 1) 0 := by rw [hX]; exact (R1.new _ 0).at (by simp)
  have hbX : Below w.heap.size w X := by rw [hX]; exact ((Below.refl _ w).alloc (Nat.le_refl _) _).alloc (by simp) _
  rw [hX] at hp1 hr hbX
  clear hX hX0
  go_enter Tryz.func36, Tryz.ntmps36
  go_wp2_with fail
  refine (M _).mono ?_
  rintro e w' ⟨rfl, hb⟩
  have hr1 := hr.keep hb
  have cc := hr1.cell
  have ff := hr1.frz
  have hb2 := keepB hbX (by simp; omega) hb
  clear hb hbX hr hp1
  go_wp2
  exact bodyPost_ret (v := .agg #[.int .u64 c]) (num_res (fn := Tryz.f36) (p := 2) Tryz.results36 _ rfl (hr1.set c)) rfl ⟨rfl, hb2.setCell (p := ⟨w.heap.size + 1, 0, none⟩) (by simp) _⟩
set_option maxRecDepth 100000 in
set_option maxHeartbeats 2000000 in
theorem plP_of (a b d c : Int) (w : World)
    (N : ∀ w, Calls Tryz.prog 36 #[.agg #[.int .u64 b]] w fun e w' => e = .returned (.agg #[.int .u64 d]) ∧ Below w.heap.size w w')
    (M : ∀ w, Calls Tryz.prog 55 #[.agg #[.int .u64 a], .agg #[.int .u64 d]] w fun e w' => e = .returned (.agg #[.int .u64 c]) ∧ Below w.heap.size w w') :
    Calls Tryz.prog 38 #[.agg #[.int .u64 a], .agg #[.int .u64 b]] w fun e w' => e = .returned (.agg #[.int .u64 c]) ∧ Below w.heap.size w w' := by
  obtain ⟨X, hX⟩ : ∃ X, X = (((w.alloc (Obj.cells #[.int .u64 a] 49)).alloc (Obj.cells #[.int .u64 b] 49)).alloc (Obj.cells #[.int .u64 0] 49)).drew := ⟨_, rfl⟩
  have hr : R1 X (w.heap.size + 1 + 1) 0 := by rw [hX]; exact ((R1.new _ 0).drew).at (by simp)
  have hbX : Below w.heap.size w X := by rw [hX]; exact ((((Below.refl _ w).alloc (Nat.le_refl _) _).alloc (by simp) _).alloc (by simp; omega) _).drew
  have hl : w.heap.size ≤ X.heap.size := hbX.size
  rw [hX] at hr hbX hl
  clear hX
  go_enter Tryz.func38, Tryz.ntmps38
  go_wp2
  go_region_held3 (fun w' => w'.cell? ⟨w.heap.size, 0, none⟩ = some (.int .u64 a) ∧ w'.cell? ⟨w.heap.size + 1, 0, none⟩ = some (.int .u64 b)) (first | exact ⟨keepC (keepC (by simp [go_sem]) b1) b2, keepC (keepC (by simp [go_sem]) b1) b2⟩ | exact ⟨keepC (by simp [go_sem]) b1, keepC (by simp [go_sem]) b1⟩ | exact ⟨keepS (keepC (keepC (by simp [go_sem]) b1) b2) (by simp; omega), keepS (keepC (keepC (by simp [go_sem]) b1) b2) (by simp)⟩ | go_keep) (first
    | (go_at_call 36; refine (N _).mono ?_; rintro e w1 ⟨rfl, b1⟩)
    | (go_at_call 55; refine (M _).mono ?_; rintro e w2 ⟨rfl, b2⟩; have hr2 := (hr.keep b1).keep b2; have cc := hr2.cell; have ff := hr2.frz))
  go_wp2
  have hb2 := keepB (keepB hbX hl b1) (Nat.le_trans hl b1.size) b2
  exact bodyPost_ret (v := .agg #[.int .u64 c]) (num_res (fn := Tryz.f38) (p := 4) Tryz.results38 _ rfl (hr2.set c)) rfl ⟨rfl, hb2.setCell (p := ⟨w.heap.size + 1 + 1, 0, none⟩) (by simp; omega) _⟩
end Go.Proofs.YtenggagjgmonoaaGreatDoor
