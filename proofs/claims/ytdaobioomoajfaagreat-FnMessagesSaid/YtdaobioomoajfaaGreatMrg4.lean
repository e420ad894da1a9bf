import Derived.Test.YtdaobioomoajfaaGreatMrg3
import Derived.Test.YtdaobioomoajfaaGreatMrg0
set_option linter.unusedVariables false
set_option maxRecDepth 100000
set_option maxHeartbeats 16000000
namespace Go.Proofs.YtdaobioomoajfaaGreat
open Go.RowKit M
theorem zeroS (w : World) : Calls Tryz.prog 43 #[] w fun e w' => e = .returned (.agg #[.int .u64 0, .int .u64 0, .bool true]) ∧ w' = w.alloc (.cells #[.int .u64 0, .int .u64 0, .bool true] 25) := by
  go_enter Tryz.func43, Tryz.ntmps43
  go_wp2
  refine bodyPost_ret (v := .agg #[.int .u64 0, .int .u64 0, .bool true]) (by simp [results, Tryz.results43, go_sem]) rfl ⟨rfl, by simp⟩
theorem sumS_inf (x y : Int) (b : Bool) (w : World) :
    Calls Tryz.prog 54 #[.agg #[.int .u64 0, .int .u64 0, .bool true], .agg #[.int .u64 x, .int .u64 y, .bool b]] w fun e w' => e = .returned (.agg #[.int .u64 x, .int .u64 y, .bool b]) ∧ Below w.heap.size w w' := by
  go_enter Tryz.func54, Tryz.ntmps54
  go_wp2
  refine bodyPost_ret (v := .agg #[.int .u64 x, .int .u64 y, .bool b]) (by simp [results, Tryz.results54, go_sem]) rfl ⟨rfl, ?_⟩
  exact (((Below.refl _ w).alloc (Nat.le_refl _) _).alloc (by simp) _).alloc (by simp; omega) _
theorem sumS_inf2 (x y : Int) (w : World) :
    Calls Tryz.prog 54 #[.agg #[.int .u64 x, .int .u64 y, .bool false], .agg #[.int .u64 0, .int .u64 0, .bool true]] w fun e w' => e = .returned (.agg #[.int .u64 x, .int .u64 y, .bool false]) ∧ Below w.heap.size w w' := by
  go_enter Tryz.func54, Tryz.ntmps54
  go_wp2
  refine bodyPost_ret (v := .agg #[.int .u64 x, .int .u64 y, .bool false]) (by simp [results, Tryz.results54, go_sem]) rfl ⟨rfl, ?_⟩
  exact (((Below.refl _ w).alloc (Nat.le_refl _) _).alloc (by simp) _).alloc (by simp; omega) _
theorem sumS_opp (x y z : Fp) (w : World) (h : y + z = 0) :
    Calls Tryz.prog 54 #[.agg #[.int .u64 (fv x), .int .u64 (fv y), .bool false], .agg #[.int .u64 (fv x), .int .u64 (fv z), .bool false]] w fun e w' => e = .returned (.agg #[.int .u64 0, .int .u64 0, .bool true]) ∧ Below w.heap.size w w' := by
  have h1 : fv (y + z) = 0 := by rw [h]; rfl
  clear h
  go_enter Tryz.func54, Tryz.ntmps54
  go_wp2_with (first
    | (go_at_call 53; refine (vsub _ _ _).mono ?_; rintro e w' ⟨rfl, rfl⟩)
    | (go_at_call 52; refine (vadd _ _ _).mono ?_; rintro e w' ⟨rfl, rfl⟩)
    | (go_at_call 43; refine (zeroS _).mono ?_; rintro e w' ⟨rfl, rfl⟩))
  refine bodyPost_ret (v := .agg #[.int .u64 0, .int .u64 0, .bool true]) (by simp [results, Tryz.results54, go_sem]) rfl ⟨rfl, ?_⟩
  exact ((((Below.refl _ w).alloc (Nat.le_refl _) _).alloc (by simp) _).alloc (by simp; omega) _).alloc (by simp; omega) _
theorem sumS_dif (x y u v : Fp) (w : World) (h : x ≠ u) :
    Calls Tryz.prog 54 #[.agg #[.int .u64 (fv x), .int .u64 (fv y), .bool false], .agg #[.int .u64 (fv u), .int .u64 (fv v), .bool false]] w fun e w' => e = .returned (ptW (third x y u ((v - y) * fi (u - x)))) ∧ Below w.heap.size w w' := by
  have h1 : (fv x == fv u) = false := by rw [fv_eq]; simp [h]
  clear h
  go_enter Tryz.func54, Tryz.ntmps54
  go_wp2_with (first
    | (go_at_call 53; refine (vsub _ _ _).mono ?_; rintro e w' ⟨rfl, rfl⟩)
    | (go_at_call 56; refine (vinv _ _).mono ?_; rintro e w' ⟨rfl, rfl⟩)
    | (go_at_call 50; refine (vmul _ _ _).mono ?_; rintro e w' ⟨rfl, rfl⟩))
  go_region_held3 (fun w' => w'.cell? ⟨w.heap.size, 0, none⟩ = some (.int .u64 (fv x)) ∧ w'.cell? ⟨w.heap.size, 1, none⟩ = some (.int .u64 (fv y)) ∧ w'.cell? ⟨w.heap.size + 1, 0, none⟩ = some (.int .u64 (fv u))) (go_keep) (first
    | (go_at_call 53; refine (vsub _ _ _).mono ?_; rintro e w' ⟨rfl, rfl⟩)
    | (go_at_call 50; refine (vmul _ _ _).mono ?_; rintro e w' ⟨rfl, rfl⟩))
  go_wp2
  go_region_held3 (fun w' => w'.cell? ⟨w.heap.size, 0, none⟩ = some (.int .u64 (fv x)) ∧ w'.cell? ⟨w.heap.size, 1, none⟩ = some (.int .u64 (fv y)) ∧ w'.cell? ⟨w.heap.size + 1, 0, none⟩ = some (.int .u64 (fv u))) (go_keep) (first
    | (go_at_call 53; refine (vsub _ _ _).mono ?_; rintro e w' ⟨rfl, rfl⟩)
    | (go_at_call 50; refine (vmul _ _ _).mono ?_; rintro e w' ⟨rfl, rfl⟩))
  go_wp2
  refine bodyPost_ret (v := ptW (third x y u ((v - y) * fi (u - x)))) (by simp [results, Tryz.results54, go_sem, ptW, third]) rfl ⟨rfl, ?_⟩
  exact (((((Below.refl _ w).alloc (Nat.le_refl _) _).alloc (by simp) _).alloc (by simp; omega) _).drew).drew
theorem sumS_dbl (x y z : Fp) (w : World) (h : y + z ≠ 0) :
    Calls Tryz.prog 54 #[.agg #[.int .u64 (fv x), .int .u64 (fv y), .bool false], .agg #[.int .u64 (fv x), .int .u64 (fv z), .bool false]] w fun e w' => e = .returned (ptW (third x y x ((3 * (x * x) - 3) * fi (y + y)))) ∧ Below w.heap.size w w' := by
  have h1 : (fv (y + z) == 0) = false := by rw [fv_zero]; simp [h]
  clear h
  go_enter Tryz.func54, Tryz.ntmps54
  go_wp2_with fail
  refine (vsub z y _).mono ?_
  rintro e w' ⟨rfl, rfl⟩
  go_wp2_with fail
  refine (vsub x x _).mono ?_
  rintro e w' ⟨rfl, rfl⟩
  go_wp2_with fail
  refine (vadd y z _).mono ?_
  rintro e w' ⟨rfl, rfl⟩
  go_wp2_with fail
  refine (vmul x x _).mono ?_
  rintro e w' ⟨rfl, rfl⟩
  go_wp2_with fail
  refine (vmul3 (x * x) _).mono ?_
  rintro e w' ⟨rfl, rfl⟩
  go_wp2_with fail
  refine (vsub3 (3 * (x * x)) _).mono ?_
  rintro e w' ⟨rfl, rfl⟩
  go_wp2_with fail
  refine (vadd y y _).mono ?_
  rintro e w' ⟨rfl, rfl⟩
  go_wp2_with fail
  refine (vinv (y + y) _).mono ?_
  rintro e w' ⟨rfl, rfl⟩
  go_wp2_with fail
  refine (vmul (3 * (x * x) - 3) (fi (y + y)) _).mono ?_
  rintro e w' ⟨rfl, rfl⟩
  go_wp2_with fail
  go_region_held3 (fun w' => w'.cell? ⟨w.heap.size, 0, none⟩ = some (.int .u64 (fv x)) ∧ w'.cell? ⟨w.heap.size, 1, none⟩ = some (.int .u64 (fv y)) ∧ w'.cell? ⟨w.heap.size + 1, 0, none⟩ = some (.int .u64 (fv x))) (go_keep) (first
    | (go_at_call 53; refine (vsub _ _ _).mono ?_; rintro e w' ⟨rfl, rfl⟩)
    | (go_at_call 50; refine (vmul _ _ _).mono ?_; rintro e w' ⟨rfl, rfl⟩))
  go_wp2
  go_region_held3 (fun w' => w'.cell? ⟨w.heap.size, 0, none⟩ = some (.int .u64 (fv x)) ∧ w'.cell? ⟨w.heap.size, 1, none⟩ = some (.int .u64 (fv y)) ∧ w'.cell? ⟨w.heap.size + 1, 0, none⟩ = some (.int .u64 (fv x))) (go_keep) (first
    | (go_at_call 53; refine (vsub _ _ _).mono ?_; rintro e w' ⟨rfl, rfl⟩)
    | (go_at_call 50; refine (vmul _ _ _).mono ?_; rintro e w' ⟨rfl, rfl⟩))
  go_wp2
  refine bodyPost_ret (v := ptW (third x y x ((3 * (x * x) - 3) * fi (y + y)))) (by simp [results, Tryz.results54, go_sem, ptW, third]) rfl ⟨rfl, ?_⟩
  exact (((((Below.refl _ w).alloc (Nat.le_refl _) _).alloc (by simp) _).alloc (by simp; omega) _).drew).drew
theorem sumS_any (p q : Pt) (w : World) :
    Calls Tryz.prog 54 #[ptW p, ptW q] w fun e w' => e = .returned (ptW (ad p q)) ∧ Below w.heap.size w w' := by
  rcases p with _ | ⟨x, y⟩
  · rcases q with _ | ⟨u, v⟩
    · exact sumS_inf 0 0 true w
    · exact sumS_inf (fv u) (fv v) false w
  · rcases q with _ | ⟨u, v⟩
    · exact sumS_inf2 (fv x) (fv y) w
    · by_cases hx : x = u
      · subst hx
        by_cases hy : y + v = 0
        · rw [ad_c0 rfl hy]; exact sumS_opp x y v w hy
        · rw [ad_c1 rfl hy]; exact sumS_dbl x y v w hy
      · rw [ad_c2 hx]; exact sumS_dif x y u v w hx
end Go.Proofs.YtdaobioomoajfaaGreat
namespace Go.Proofs.YtdaobioomoajfaaGreat
open Go.RowKit M
end Go.Proofs.YtdaobioomoajfaaGreat
namespace Go.Proofs.YtdaobioomoajfaaGreat
open Go.RowKit M
section
variable {W : World} {b : Nat} {x y : Int} {c : Bool}
def set3 (W : World) (b : Nat) (x y : Int) (c : Bool) : World := ((W.setCell ⟨b, 0, none⟩ (.int .u64 x)).setCell ⟨b, 1, none⟩ (.int .u64 y)).setCell ⟨b, 2, none⟩ (.bool c)
theorem setCell_heap3 (W : World) (b i : Nat) (v : Value) (k : Nat) (h : k ≠ b) : (W.setCell ⟨b, i, none⟩ v).heap[k]? = W.heap[k]? := by
  simp [World.setCell, Array.getElem?_modify, Ne.symm h]
theorem set3_below {N : Nat} {w : World} (h : Below N w W) (hb : N ≤ b) : Below N w (set3 W b x y c) :=
  ((h.setCell (p := ⟨b, 0, none⟩) hb _).setCell (p := ⟨b, 1, none⟩) hb _).setCell (p := ⟨b, 2, none⟩) hb _
end
def K3 (W : World) (t : TypeId) (b : Nat) (x y : Int) (c : Bool) : Prop := W.heap[b]? = some (.cells #[.int .u64 x, .int .u64 y, .bool c] t)
section
variable {W W' : World} {t : TypeId} {b : Nat} {x y : Int} {c : Bool}
theorem K3.c0 (h : K3 W t b x y c) : W.cell? ⟨b, 0, none⟩ = some (.int .u64 x) := by unfold K3 at h; simp [World.cell?, h]
theorem K3.c1 (h : K3 W t b x y c) : W.cell? ⟨b, 1, none⟩ = some (.int .u64 y) := by unfold K3 at h; simp [World.cell?, h]
theorem K3.c2 (h : K3 W t b x y c) : W.cell? ⟨b, 2, none⟩ = some (.bool c) := by unfold K3 at h; simp [World.cell?, h]
theorem K3.frz (h : K3 W t b x y c) (i : Nat) : W.frozen? ⟨b, i, none⟩ = false := by unfold K3 at h; simp [World.frozen?, h]
theorem K3.lt (h : K3 W t b x y c) : b < W.heap.size := (Array.getElem?_eq_some_iff.1 h).1
theorem K3.keep (h : K3 W t b x y c) (hb : Below W.heap.size W W') : K3 W' t b x y c := (hb.block b h.lt).trans h
theorem K3.new (w : World) (t : TypeId) (x y : Int) (c : Bool) : K3 (w.alloc (.cells #[.int .u64 x, .int .u64 y, .bool c] t)) t w.heap.size x y c := heap_alloc_new w _
theorem K3.alloc (h : K3 W t b x y c) (o : Obj) : K3 (W.alloc o) t b x y c := (Below.heap_alloc W o b h.lt).trans h
theorem K3.drew (h : K3 W t b x y c) : K3 W.drew t b x y c := h
theorem K3.at {b' : Nat} (h : K3 W t b x y c) (e : b = b') : K3 W t b' x y c := e ▸ h
theorem K3.range (h : K3 W t b x y c) : W.rangeAt b 0 [.int .u64 x, .int .u64 y, .bool c] := fun j v hj => by
  match j, hj with
  | 0, hj => cases hj; exact h.c0
  | 1, hj => cases hj; exact h.c1
  | 2, hj => cases hj; exact h.c2
theorem K3.set (h : K3 W t b x y c) (x' y' : Int) (c' : Bool) : K3 (set3 W b x' y' c') t b x' y' c' := by
  unfold K3 set3 at *
  simp [World.setCell, Array.getElem?_modify, h]
end
theorem fldK (X Y : Int) (c : Bool) (w : World) : (Instr.field 118 (.agg #[.int .u64 X, .int .u64 Y, .bool c]) 0).run Tryz.prog w = .ok (.agg #[.int .u64 X, .int .u64 Y, .bool c]) w := by kernel_rfl
end Go.Proofs.YtdaobioomoajfaaGreat
namespace Go.Proofs.YtdaobioomoajfaaGreat
open Go.RowKit M
def px : Pt → Int
  | none => 0
  | some (x, _) => fv x
def py : Pt → Int
  | none => 0
  | some (_, y) => fv y
def pb : Pt → Bool
  | none => true
  | some _ => false
theorem ptW_eq : ∀ p, ptW p = .agg #[.int .u64 (px p), .int .u64 (py p), .bool (pb p)]
  | none => rfl
  | some (_, _) => rfl
theorem sumS_xyz (p q : Pt) (w : World) :
    Calls Tryz.prog 54 #[.agg #[.int .u64 (px p), .int .u64 (py p), .bool (pb p)], .agg #[.int .u64 (px q), .int .u64 (py q), .bool (pb q)]] w fun e w' => e = .returned (.agg #[.int .u64 (px (ad p q)), .int .u64 (py (ad p q)), .bool (pb (ad p q))]) ∧ Below w.heap.size w w' := by
  have := sumS_any p q w
  rwa [ptW_eq, ptW_eq, ptW_eq] at this
def R3 (W : World) (b : Nat) (x y : Int) (c : Bool) : Prop := W.heap[b]? = some (.cells #[.int .u64 x, .int .u64 y, .bool c] 25)
variable {W W' : World} {b : Nat} {x y : Int} {c : Bool}
theorem R3.c0 (h : R3 W b x y c) : W.cell? ⟨b, 0, none⟩ = some (.int .u64 x) := by unfold R3 at h; simp [World.cell?, h]
theorem R3.c1 (h : R3 W b x y c) : W.cell? ⟨b, 1, none⟩ = some (.int .u64 y) := by unfold R3 at h; simp [World.cell?, h]
theorem R3.c2 (h : R3 W b x y c) : W.cell? ⟨b, 2, none⟩ = some (.bool c) := by unfold R3 at h; simp [World.cell?, h]
theorem R3.frz (h : R3 W b x y c) (i : Nat) : W.frozen? ⟨b, i, none⟩ = false := by unfold R3 at h; simp [World.frozen?, h]
theorem R3.lt (h : R3 W b x y c) : b < W.heap.size := (Array.getElem?_eq_some_iff.1 h).1
theorem R3.below {N : Nat} (h : R3 W b x y c) (hb : Below N W W') (hl : b < N) : R3 W' b x y c := (hb.block b hl).trans h
theorem R3.new (w : World) (x y : Int) (c : Bool) : R3 (w.alloc (.cells #[.int .u64 x, .int .u64 y, .bool c] 25)) w.heap.size x y c := heap_alloc_new w _
theorem R3.alloc (h : R3 W b x y c) (o : Obj) : R3 (W.alloc o) b x y c := (Below.heap_alloc W o b h.lt).trans h
theorem R3.at {b' : Nat} (h : R3 W b x y c) (e : b = b') : R3 W b' x y c := e ▸ h
theorem R3.range (h : R3 W b x y c) : W.rangeAt b 0 [.int .u64 x, .int .u64 y, .bool c] := fun j v hj => by
  match j, hj with
  | 0, hj => cases hj; exact h.c0
  | 1, hj => cases hj; exact h.c1
  | 2, hj => cases hj; exact h.c2
theorem R3.set (h : R3 W b x y c) (x' y' : Int) (c' : Bool) : R3 (set3 W b x' y' c') b x' y' c' := by
  unfold R3 set3 at *
  simp [World.setCell, Array.getElem?_modify, h]
theorem R3.other {b' : Nat} (h : R3 W b x y c) (hne : b ≠ b') (x' y' : Int) (c' : Bool) : R3 (set3 W b' x' y' c') b x y c := by
  unfold R3 set3 at *
  rw [setCell_heap3 _ _ _ _ _ hne, setCell_heap3 _ _ _ _ _ hne, setCell_heap3 _ _ _ _ _ hne]; exact h
theorem point_res {fn : Func} {p : Tmp} (h : fn.results = #[.cell p 25]) (tmps : Array Value) (hp : tmps.getD p undef = .pointer (some ⟨b, 0, none⟩)) (hc : R3 W b x y c) :
    (results fn tmps).run Tryz.prog W = .ok (.agg #[.int .u64 x, .int .u64 y, .bool c]) W :=
  results_mid h tmps W b 0 [.int .u64 x, .int .u64 y, .bool c] _ hp hc.range Tryz.underlying25 rfl (by kernel_rfl)
end Go.Proofs.YtdaobioomoajfaaGreat
namespace Go.Proofs.YtdaobioomoajfaaGreat
open Go.RowKit M
theorem pt_ct {W : World} {b : Nat} {x y : Int} {c : Bool} {fn : Func} {p u : Tmp} (h : fn.results = #[.cell p 25, .tmp u]) (tmps : Array Value)
    (hp : tmps.getD p undef = .pointer (some ⟨b, 0, none⟩)) (hc : R3 W b x y c) :
    (results fn tmps).run Tryz.prog W = .ok (.tuple #[.agg #[.int .u64 x, .int .u64 y, .bool c], tmps.getD u undef]) W := by
  have hp' : tmps[p]?.getD undef = .pointer (some ⟨b, 0, none⟩) := by simpa using hp
  simp [results, h, hp', asAddr, run_loadVar_mid W b 0 25 [.int .u64 x, .int .u64 y, .bool c] _ hc.range Tryz.underlying25 rfl (by kernel_rfl)]
end Go.Proofs.YtdaobioomoajfaaGreat
