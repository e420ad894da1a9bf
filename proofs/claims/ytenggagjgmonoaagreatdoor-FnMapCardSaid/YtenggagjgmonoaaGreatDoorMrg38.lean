import Derived.Test.YtenggagjgmonoaaGreatDoorMrg37
import Derived.Test.YtenggagjgmonoaaGreatDoorMrg32
import Derived.Test.YtenggagjgmonoaaGreatDoorMrg34
namespace Go.Proofs.YtenggagjgmonoaaGreatDoor
open Go.RowKit M
set_option linter.unusedVariables false


theorem rep_point {X Y Z : Fp} : ∀ {p : Pt}, rep X Y Z p → (p = none ∧ Z = 0) ∨ (Z ≠ 0 ∧ p = some (X * fi Z, Y * fi Z))
  | none, ⟨l, _, _, _, hZ⟩ => .inl ⟨rfl, by rw [hZ]; show l * 0 = 0; grobner⟩
  | some (x, y), ⟨l, hl, hX, hY, hZ⟩ => by
    have e : Z = l := by rw [hZ]; show l * 1 = l; grobner
    subst e
    have hf := fi_mul hl
    refine .inr ⟨hl, ?_⟩
    have h1 : X * fi Z = x := by
      have : X = Z * x := hX
      grobner
    have h2 : Y * fi Z = y := by
      have : Y = Z * y := hY
      grobner
    rw [h1, h2]
theorem pntV {X Y Z : Fp} {p : Pt} (h : rep X Y Z p) (w : World) :
    Calls Tryz.prog 54 #[.agg #[.int .u64 (fv X), .int .u64 (fv Y), .int .u64 (fv Z)]] w fun e w' => e = .returned (ptW p) ∧ Below w.heap.size w w' := by
  rcases rep_point h with ⟨rfl, hz⟩ | ⟨hz, rfl⟩
  · exact pntP_no X Y Z w (by rw [fv_zero]; simp [hz])
  · exact pntP_yes X Y Z w (by rw [fv_zero]; simp [hz])
theorem cplV {p q : Pt} (hp : on p) (hq : on q) (w : World) :
    Calls Tryz.prog 33 #[ptW p, ptW q] w fun e w' => e = .returned (ptW (ad p q)) ∧ Below w.heap.size w w' := by
  have K1 := triV p
  have K2 := triV q
  have K4 := pntV (rep_ad hp hq)
  rw [ptW_eq] at K1 K2 K4 ⊢
  rw [ptW_eq q, ptW_eq (ad p q)]
  exact cplus_of _ _ _ _ _ _ _ _ _ _ _ _ _ _ _ _ _ _ w K1 K2 (trV _ _ _ _ _ _) K4
end Go.Proofs.YtenggagjgmonoaaGreatDoor

namespace Go.Proofs.YtenggagjgmonoaaGreatDoor
open Go.RowKit M
set_option linter.unusedVariables false

section
variable {ev : Operand → Value} {w : World} {dst : Option Tmp} {ty : TypeId} {ps : String} {af : Array Edge} {gd : Option (Nat × Bool)} {x y : Operand} {b i : Nat}
theorem execM_idxN {g n cap k : Nat} (hx : ev x = .slice (some ⟨g, 0, none⟩) n cap) (hy : ev y = .int .i64 (k : Int)) (hk : k < n) :
    (execOp ev { dst := dst, op := .indexAddr 79 x y, type := ty, pos := ps, after := af, guard := gd }).run Tryz.prog w = .ok (.value (.pointer (some ⟨g, k, none⟩))) w := by
  have h2 : (k : Int) < (n : Int) := by omega
  simp [execOp, hx, hy, h2, go_sem]
end
section
variable {A : Act} {w W0 : World} {dst : Option Tmp} {ty : TypeId} {ps : String} {af : Array Edge} {gd : Option (Nat × Bool)} {x y : Operand} {b i : Nat}
set_option maxRecDepth 100000
theorem doM_idx {g n cap k : Nat} (hx : A.eval x = .slice (some ⟨g, 0, none⟩) n cap) (hy : A.eval y = .int .i64 (k : Int)) (hk : k < n) :
    Does Tryz.prog { dst := dst, op := .indexAddr 79 x y, type := ty, pos := ps, after := af, guard := gd } A w fun v' w' => v' = .pointer (some ⟨g, k, none⟩) ∧ Below w.heap.size w w' := by
  have h := execM_idxN (ev := A.eval) (w := w) (dst := dst) (ty := ty) (ps := ps) (af := af) (gd := gd) hx hy hk
  exact does_value h ⟨rfl, Below.refl _ _⟩
theorem doM_loadN {z : Int} (hx : A.eval x = .pointer (some ⟨b, i, none⟩)) (hc : w.cell? ⟨b, i, none⟩ = some (.int .u64 z)) :
    Does Tryz.prog { dst := dst, op := .load 49 x, type := ty, pos := ps, after := af, guard := gd } A w fun v' w' => v' = .agg #[.int .u64 z] ∧ Below w.heap.size w w' := by
  have h := exec_loadN (ev := A.eval) (w := w) (dst := dst) (ty := ty) (ps := ps) (af := af) (gd := gd) hx hc
  exact does_value h ⟨rfl, Below.refl _ _⟩
end
theorem cf_mapI (args : Array Value) (w : World) : (callFunc 16 args).run Tryz.prog w = .ok (.enter 16 args) w := by kernel_rfl
theorem cf_plusC (args : Array Value) (w : World) : (callFunc 33 args).run Tryz.prog w = .ok (.enter 33 args) w := by kernel_rfl
theorem cpt_res {W : World} {b : Nat} {x y : Int} {c : Bool} {fn : Func} {p u : Tmp} (h : fn.results = #[.cell p 44, .tmp u]) (tmps : Array Value) (hp : tmps.getD p undef = .pointer (some ⟨b, 0, none⟩)) (hc : K3 W 44 b x y c) :
    (results fn tmps).run Tryz.prog W = .ok (.tuple #[.agg #[.int .u64 x, .int .u64 y, .bool c], tmps.getD u undef]) W := by
  have hp' : tmps[p]?.getD undef = .pointer (some ⟨b, 0, none⟩) := by simpa using hp
  simp [results, h, hp', asAddr, run_loadVar_mid W b 0 44 [.int .u64 x, .int .u64 y, .bool c] _ hc.range Tryz.underlying44 rfl (by kernel_rfl)]

set_option maxRecDepth 100000 in
set_option maxHeartbeats 4000000 in
theorem h2gN_of (msg tag : ByteArray) (H : List Int) (u0 u1 ax ay dx dy sx sy : Int) (ac dc sc : Bool) (w : World) (hT : TabK w)
    (X : ∀ w, TabK w → Calls Tryz.prog 46 #[.string msg, .string tag, .agg #[], .int .i64 2] w fun e w' => ∃ v, e = .returned (.tuple #[v, .bool true]) ∧ w'.ownsRow w.heap.size 49 1 v 2 (cellsPr H) ∧ Below w.heap.size w w')
    (hl : H.length = 2) (h0 : lk H 0 = u0) (h1 : lk H 1 = u1)
    (M0 : ∀ w, Calls Tryz.prog 16 #[.agg #[.int .u64 u0]] w fun e w' => e = .returned (.agg #[.int .u64 ax, .int .u64 ay, .bool ac]) ∧ Below w.heap.size w w')
    (M1 : ∀ w, Calls Tryz.prog 16 #[.agg #[.int .u64 u1]] w fun e w' => e = .returned (.agg #[.int .u64 dx, .int .u64 dy, .bool dc]) ∧ Below w.heap.size w w')
    (SU : ∀ w, Calls Tryz.prog 33 #[.agg #[.int .u64 ax, .int .u64 ay, .bool ac], .agg #[.int .u64 dx, .int .u64 dy, .bool dc]] w fun e w' => e = .returned (.agg #[.int .u64 sx, .int .u64 sy, .bool sc]) ∧ Below w.heap.size w w') :
    Calls Tryz.prog 27 #[.string msg, .string tag] w fun e w' => e = .returned (.tuple #[.agg #[.int .u64 sx, .int .u64 sy, .bool sc], .bool true]) ∧ Below w.heap.size w w' := by
  have hr := K3.new w 44 0 0 false
  have hb := (Below.refl _ w).alloc (Nat.le_refl _) (Obj.cells #[.int .u64 0, .int .u64 0, .bool false] 44)
  have hgw : 2 < w.heap.size := World.block_lt_of_cell? w _ (hT 0 (by omega))
  have hTB : TabK (w.alloc (Obj.cells #[.int .u64 0, .int .u64 0, .bool false] 44)) := fun i hi => (hb.cell (p := ⟨2, i, none⟩) hgw).trans (hT i hi)
  go_enter Tryz.func27, Tryz.ntmps27
  go_wp2_with fail
  refine (X _ hTB).mono ?_
  rintro e W1 ⟨v, rfl, hown, b1⟩
  obtain ⟨g, cap, rfl⟩ : ∃ g cap, v = .slice (some ⟨g, 0, none⟩) 2 cap := by
    rcases hown.2 with ⟨_, hc⟩ | ⟨g, cap, cur, hv, _⟩
    · omega
    · exact ⟨g, cap, hv⟩
  have hcc : ∀ i, i < 2 → W1.drew.cell? ⟨g, i, none⟩ = some (.int .u64 (lk H i)) := fun i hi => by
    have := hown.cells (g := g) rfl i (.int .u64 (lk H i)) (by
      rw [cellsPr, List.getElem?_map]
      unfold lk
      rw [List.getD_eq_getElem?_getD, List.getElem?_eq_getElem (by omega)]
      rfl)
    rw [Addr.add_mid, Nat.zero_add] at this
    exact this
  have c0 := hcc 0 (by omega)
  have c1 := hcc 1 (by omega)
  rw [h0] at c0
  rw [h1] at c1
  replace hr := hr.keep b1
  replace hb := hb.trans (b1.mono hb.size)
  clear X hown b1 hcc hTB hT
  go_wp2
  refine pool_pre 9 [.val (.slice (some ⟨g, 0, none⟩) 2 cap),
      .val (.pointer (some ⟨g, 0, none⟩)),
      .val (.agg #[.int .u64 u0]),
      .val (.agg #[.int .u64 ax, .int .u64 ay, .bool ac]),
      .val (.slice (some ⟨g, 0, none⟩) 2 cap),
      .val (.pointer (some ⟨g, 1, none⟩)),
      .val (.agg #[.int .u64 u1]),
      .val (.agg #[.int .u64 dx, .int .u64 dy, .bool dc]),
      .val (.agg #[.int .u64 sx, .int .u64 sy, .bool sc])] [[6], [18], [19], [20], [6], [22], [23], [24], [21, 25]] (fun f => [(some 18, .slice (some ⟨g, 0, none⟩) 2 cap), (some 19, .pointer (some ⟨g, 0, none⟩)), (some 20, .agg #[.int .u64 u0]), (some 21, .agg #[.int .u64 ax, .int .u64 ay, .bool ac]), (some 22, .slice (some ⟨g, 0, none⟩) 2 cap), (some 23, .pointer (some ⟨g, 1, none⟩)), (some 24, .agg #[.int .u64 u1]), (some 25, .agg #[.int .u64 dx, .int .u64 dy, .bool dc]), (some 26, .agg #[.int .u64 sx, .int .u64 sy, .bool sc])]) (by kernel_rfl) (by kernel_rfl) (by kernel_rfl) (by kernel_rfl) (by decide) (by kernel_rfl) (fun _ => by kernel_rfl) ?_ ?_
  · intro ix hix
    match ix, hix with
    | 0, _ => exact ob_val [(6, .slice (some ⟨g, 0, none⟩) 2 cap)] rfl rfl (fun _ => by kernel_rfl) (fun A w ⟨e0, _⟩ hB => doS_move e0)
    | 1, _ => exact ob_val [(18, .slice (some ⟨g, 0, none⟩) 2 cap)] rfl rfl (fun _ => by kernel_rfl) (fun A w ⟨e0, _⟩ hB => doM_idx (k := 0) e0 rfl (by decide))
    | 2, _ => exact ob_val [(19, .pointer (some ⟨g, 0, none⟩))] rfl rfl (fun _ => by kernel_rfl) (fun A w ⟨e0, _⟩ hB => doM_loadN e0 (keepA c0 hB))
    | 3, _ => exact ob_val [(20, .agg #[.int .u64 u0])] rfl rfl (fun _ => by kernel_rfl) (fun A w ⟨e0, _⟩ hB => doS_call1 cf_mapI e0 (M0 w))
    | 4, _ => exact ob_val [(6, .slice (some ⟨g, 0, none⟩) 2 cap)] rfl rfl (fun _ => by kernel_rfl) (fun A w ⟨e0, _⟩ hB => doS_move e0)
    | 5, _ => exact ob_val [(22, .slice (some ⟨g, 0, none⟩) 2 cap)] rfl rfl (fun _ => by kernel_rfl) (fun A w ⟨e0, _⟩ hB => doM_idx (k := 1) e0 rfl (by decide))
    | 6, _ => exact ob_val [(23, .pointer (some ⟨g, 1, none⟩))] rfl rfl (fun _ => by kernel_rfl) (fun A w ⟨e0, _⟩ hB => doM_loadN e0 (keepA c1 hB))
    | 7, _ => exact ob_val [(24, .agg #[.int .u64 u1])] rfl rfl (fun _ => by kernel_rfl) (fun A w ⟨e0, _⟩ hB => doS_call1 cf_mapI e0 (M1 w))
    | 8, _ => exact ob_val [(21, .agg #[.int .u64 ax, .int .u64 ay, .bool ac]), (25, .agg #[.int .u64 dx, .int .u64 dy, .bool dc])] rfl rfl (fun _ => by kernel_rfl) (fun A w ⟨e0, e1, _⟩ hB => doS_call2 cf_plusC e0 e1 (SU w))
    | ix + 9, h => exact absurd h (by simp)
  intro f w4 hB _ fuel hfuel
  replace hr := hr.drew.keep hB
  replace hb := hb.drew.trans (hB.mono hb.size)
  simp only [puts, List.foldl, Act.put, List.setIfInBounds_toArray, List.set_cons_zero, List.set_cons_succ]
  refine last_seq (vq := .bool true) 9 10 hfuel (by kernel_rfl) (by kernel_rfl) (by kernel_rfl) rfl rfl rfl rfl rfl (some 5) rfl (does_skip (exec_storeK rfl rfl hr) rfl) (fun w => does_value (execS_assign rfl) ⟨rfl, rfl⟩) ?_
  simp only [Act.put, List.setIfInBounds_toArray, List.set_cons_zero, List.set_cons_succ]
  go_wp2
  exact bodyPost_ret (v := .tuple #[.agg #[.int .u64 sx, .int .u64 sy, .bool sc], .bool true]) (cpt_res (fn := Tryz.f27) (p := 4) (u := 5) Tryz.results27 _ rfl (hr.set sx sy sc)) rfl ⟨rfl, set3_below hb (Nat.le_refl _)⟩
theorem mapI_nat (u : Nat) (hu : u < 2305843009213693951) (w : World) :
    Calls Tryz.prog 16 #[.agg #[.int .u64 u]] w fun e w' => e = .returned (.agg #[.int .u64 (px (mapP u)), .int .u64 (py (mapP u)), .bool (pb (mapP u))]) ∧ Below w.heap.size w w' := by
  have := mapI_in (toF u) w
  have e : fv (toF u) = (u : Int) := by
    unfold fv toF
    rw [Fin.val_ofNat, Nat.mod_eq_of_lt hu]
  rw [e] at this
  exact this
theorem cplX {p q : Pt} (hp : on p) (hq : on q) (w : World) :
    Calls Tryz.prog 33 #[.agg #[.int .u64 (px p), .int .u64 (py p), .bool (pb p)], .agg #[.int .u64 (px q), .int .u64 (py q), .bool (pb q)]] w fun e w' => e = .returned (.agg #[.int .u64 (px (ad p q)), .int .u64 (py (ad p q)), .bool (pb (ad p q))]) ∧ Below w.heap.size w w' := by
  have := cplV hp hq w
  rwa [ptW_eq, ptW_eq, ptW_eq] at this
theorem hNum_lt (msg tag : ByteArray) (m c i : Nat) (h : 0 < m) : hNum msg tag m c i < m := Nat.mod_lt _ h
theorem h2gN_yes (msg tag : ByteArray) (w : World) (hT : TabK w) (h : okT msg tag) :
    Calls Tryz.prog 27 #[.string msg, .string tag] w fun e w' => e = .returned (.tuple #[.agg #[.int .u64 (px (hPt msg tag)), .int .u64 (py (hPt msg tag)), .bool (pb (hPt msg tag))], .bool true]) ∧ Below w.heap.size w w' :=
  h2gN_of msg tag (h2f (byt msg) (byt tag) 2305843009213693951 2) _ _ _ _ _ _ _ _ _ _ _ w hT (fun w hT => h2nP_yes msg tag 2 w hT ((okT_H (by decide) (by decide) (by decide)).1 h)) (h2f_length _ _ _ _)
    (h2f_at msg tag 2305843009213693951 2 0 (by omega)) (h2f_at msg tag 2305843009213693951 2 1 (by omega)) (fun w => mapI_nat _ (hNum_lt _ _ _ _ _ (by decide)) w) (fun w => mapI_nat _ (hNum_lt _ _ _ _ _ (by decide)) w) (fun w => cplX (mapP_on _) (mapP_on _) w)
set_option maxRecDepth 100000 in
set_option maxHeartbeats 2000000 in
theorem h2gN_no (msg tag : ByteArray) (w : World) (h : ¬ okT msg tag) :
    Calls Tryz.prog 27 #[.string msg, .string tag] w fun e w' => e = .returned (.tuple #[.agg #[.int .u64 0, .int .u64 0, .bool true], .bool false]) ∧ Below w.heap.size w w' := by
  have X := fun w => h2nP_no msg tag 2 w (fun hh => h ((okT_H (by decide) (by decide) (by decide)).2 hh))
  have hr := K3.new w 44 0 0 false
  have hb := (Below.refl _ w).alloc (Nat.le_refl _) (Obj.cells #[.int .u64 0, .int .u64 0, .bool false] 44)
  go_enter Tryz.func27, Tryz.ntmps27
  go_wp2_with fail
  refine (X _).mono ?_
  rintro e W1 ⟨rfl, b1⟩
  replace hr := hr.keep b1
  replace hb := hb.trans (b1.mono hb.size)
  clear X b1
  go_wp2_with fail
  refine (zpP _).mono ?_
  rintro e w2 ⟨rfl, b2⟩
  replace hr := hr.keep b2
  replace hb := hb.trans (b2.mono hb.size)
  have k0 := hr.c0
  have k1 := hr.c1
  have k2 := hr.c2
  have kf := hr.frz
  go_wp2
  exact bodyPost_ret (v := .tuple #[.agg #[.int .u64 0, .int .u64 0, .bool true], .bool false]) (cpt_res (fn := Tryz.f27) (p := 4) (u := 5) Tryz.results27 _ rfl (hr.set 0 0 true)) rfl ⟨rfl, set3_below hb (Nat.le_refl _)⟩
set_option maxRecDepth 100000 in
set_option maxHeartbeats 2000000 in
theorem h2gI_of (msg tag : ByteArray) (x y : Int) (c b : Bool) (w : World) (L : ∀ w', Below w.heap.size w w' → Calls Tryz.prog 27 #[.string msg, .string tag] w' fun e w'' => e = .returned (.tuple #[.agg #[.int .u64 x, .int .u64 y, .bool c], .bool b]) ∧ Below w'.heap.size w' w'') :
    Calls Tryz.prog 10 #[.string msg, .string tag] w fun e w' => e = .returned (.tuple #[.agg #[.int .u64 x, .int .u64 y, .bool c], .bool b]) ∧ Below w.heap.size w w' := by
  have hr := K3.new w 26 0 0 false
  have hb := (Below.refl _ w).alloc (Nat.le_refl _) (Obj.cells #[.int .u64 0, .int .u64 0, .bool false] 26)
  go_enter Tryz.func10, Tryz.ntmps10
  go_wp2_with fail
  refine (L _ hb).mono ?_
  rintro e W1 ⟨rfl, b1⟩
  replace hr := (hr.keep b1).alloc (Obj.cells #[.int .u64 x, .int .u64 y, .bool c] 44)
  replace hb := hb.trans (b1.mono hb.size)
  replace hb := hb.alloc hb.size (Obj.cells #[.int .u64 x, .int .u64 y, .bool c] 44)
  have k0 := hr.c0
  have k1 := hr.c1
  have k2 := hr.c2
  have kf := hr.frz
  go_wp2
  exact bodyPost_ret (v := .tuple #[.agg #[.int .u64 x, .int .u64 y, .bool c], .bool b]) (ptt_res (fn := Tryz.f10) (p := 4) (u := 5) Tryz.results10 _ rfl (hr.set x y c)) rfl ⟨rfl, set3_below hb (Nat.le_refl _)⟩
end Go.Proofs.YtenggagjgmonoaaGreatDoor
