import Derived.Test.YtenggagjgmonoaaDoorMrg12
import Derived.Test.YtenggagjgmonoaaDoorMrg22
import Derived.Test.YtenggagjgmonoaaDoorMrg18
import Derived.Test.YtenggagjgmonoaaDoorMrg32
import Derived.Test.YtenggagjgmonoaaDoorMrg33
/-
  A pool in front: the first m operations, for all of which the others wait.
-/
namespace Go.Proofs.YtenggagjgmonoaaDoor
open Go.RowKit
set_option linter.unusedVariables false

def preOk (ops : Array Oper) (md : Region.Mode) (m : Nat) : Bool := (List.range ops.size).all fun i => decide (i < m) || (match ops[i]? with
  | none => true
  | some o => (List.range m).all fun j => o.after.toList.any fun e => e.on == j && Region.binds md e)
section
variable {P : Program} {ops : Array Oper} {Q : Exit → Act → World → Prop} {md : Region.Mode} {kind : Nat → Knd} {a0 : Act} {uses : Nat → List Nat}
theorem preOk_lt {m i : Nat} (h : preOk ops md m = true) {l : Array Bool} (hi : i ∈ Region.ready md ops l) (hn : ¬ ∀ j, j < m → l.getD j false = true) : i < m := by
  obtain ⟨h1, -, -, o, ho, hedge⟩ := ready_get hi
  by_cases hl : i < m
  · exact hl
  · exfalso
    apply hn
    intro j hj
    unfold preOk at h
    rw [List.all_eq_true] at h
    have h2 := h i (List.mem_range.2 (Array.getElem?_eq_some_iff.1 ho).1)
    rw [decide_eq_false hl, Bool.false_or, ho] at h2
    simp only [List.all_eq_true] at h2
    have h3 := h2 j (List.mem_range.2 hj)
    rw [List.any_eq_true] at h3
    obtain ⟨e, he, h4⟩ := h3
    rw [Bool.and_eq_true] at h4
    have h5 : e.on = j := by simpa using h4.1
    exact h5 ▸ hedge e he h4.2
theorem any_until (m : Nat) (I : Array Bool → Act → World → Prop)
    (stop : ∀ fuel l a w, I l a w → (∀ j, j < m → l.getD j false = true) → l.toList.count false ≤ fuel → wpAny P md ops Q fuel l a w)
    (stuck : ∀ l a w, I l a w → (¬ ∀ j, j < m → l.getD j false = true) → Region.ready md ops l ≠ [])
    (step : ∀ l a w i, I l a w → (¬ ∀ j, j < m → l.getD j false = true) → i ∈ Region.ready md ops l → wpOp P ops Q i (I (l.setIfInBounds i true)) a w) :
    ∀ fuel l a w, l.toList.count false ≤ fuel → I l a w → wpAny P md ops Q fuel l a w := by
  intro fuel
  induction fuel with
  | zero =>
    intro l a w hc hI
    by_cases hm : ∀ j, j < m → l.getD j false = true
    · exact stop 0 l a w hI hm hc
    · exfalso
      cases hr : Region.ready md ops l with
      | nil => exact stuck l a w hI hm hr
      | cons i r =>
        obtain ⟨h1, h2, -, -⟩ := ready_get (i := i) (md := md) (ops := ops) (l := l) (by rw [hr]; simp)
        have : false ∈ l.toList := by
          rw [Array.getD_eq_getD_getElem?, Array.getElem?_eq_getElem h1] at h2
          rw [← show l[i] = false from h2]
          exact Array.mem_toList_iff.2 (Array.getElem_mem h1)
        have := List.count_pos_iff.2 this
        omega
  | succ fuel ih =>
    intro l a w hc hI
    by_cases hm : ∀ j, j < m → l.getD j false = true
    · exact stop _ l a w hI hm hc
    · refine ⟨fun hr => absurd hr (stuck l a w hI hm), fun i hi => ?_⟩
      refine wpOp_mono (fun a w hI' => ih _ a w ?_ hI') (step l a w i hI hm hi)
      obtain ⟨h1, h2, -, -⟩ := ready_get hi
      have h3 : l.toList[i]? = some false := by
        rw [Array.getD_eq_getD_getElem?] at h2
        rw [Array.getElem?_toList, Array.getElem?_eq_getElem h1] at *
        simpa using h2
      have := count_set h3
      rw [Array.toList_setIfInBounds]
      omega
theorem upto_eq {l : Array Bool} {n m : Nat} (hs : l.size = n) (h1 : ∀ j, j < m → l.getD j false = true) (h2 : ∀ j, m ≤ j → l.getD j false = false) : l = upto n m := by
  apply Array.ext
  · rw [hs]; simp [upto]
  · intro i hi _
    have h3 : l.getD i false = l[i] := by rw [Array.getD_eq_getD_getElem?, Array.getElem?_eq_getElem hi]; rfl
    have h4 : (upto n m)[i] = decide (i < m) := by simp [upto]
    rw [h4, ← h3]
    by_cases h : i < m
    · rw [h1 i h, decide_eq_true h]
    · rw [h2 i (by omega), decide_eq_false h]
theorem count_upto (n m : Nat) (h : m ≤ n) : (upto n m).toList.count false = n - m := by
  have : (upto n m).toList = List.replicate m true ++ List.replicate (n - m) false := by
    apply List.ext_getElem
    · simp [upto]; omega
    · intro i h1 h2
      by_cases hi : i < m
      · simp [upto, hi]
      · simp [upto, hi, List.getElem_append]
  rw [this]
  simp [List.count_append, List.count_replicate]
/-- the first m operations of a drawn region, for which all others wait -/
theorem pool_pre {id : Nat} {W : World} (m : Nat) (kinds : List Knd) (us : List (List Nat)) (dl : (Nat → Nat) → List (Option Tmp × Value)) (hm : P.follows .mixedOrders = true) (hok : (okOps ops a0 .any (usesOf us) && okG ops (kindOf kinds) .any) = true) (hdag : dag ops = true) (hkk : okK kinds ops.size = true) (hmn : decide (m < ops.size) = true) (hpre : preOk ops .any m = true)
    (hdl : ∀ f, ((List.range m).map fun i => ((ops[i]?).bind (·.dst), vl (kindOf kinds) f i)) = dl f)
    (hob : ∀ i, i < m → Ob P ops (kindOf kinds) (usesOf us) a0 W.drew i)
    (fin : ∀ (f : Nat → Nat) (w : World), Below W.drew.heap.size W.drew w →
      (∀ i ob ob' k, kindOf kinds i = .new ob ob' k → i < m → W.drew.heap.size ≤ f i ∧ w.heap[f i]? = some (if k < m then ob' else ob)) →
      ∀ fuel, ops.size - m ≤ fuel → wpAny P .any ops Q fuel (upto ops.size m) (puts (dl f) a0) w) :
    (Code.region id ops true).wp P Q a0 W := by
  have hmn' := of_decide_eq_true hmn
  refine wp_region_any hm ?_
  refine any_until m (fun l a w => (∀ j, m ≤ j → l.getD j false = false) ∧ PInv .any ops (kindOf kinds) a0 W.drew l a w) ?_ ?_ ?_ _ _ _ _ ?_ ?_
  · rintro fuel l a w ⟨h1, hs, f, rfl, hB, hN, -, -, -⟩ h2 hc
    obtain rfl := upto_eq hs h2 h1
    rw [count_upto _ _ (by omega)] at hc
    rw [canon_upto (and_l hok) f m (by omega), hdl f]
    refine fin f w hB (fun i ob ob' k hk hi => ?_) fuel hc
    obtain ⟨g1, -, g3⟩ := hN i ob ob' k hk (h2 i hi)
    refine ⟨g1, g3.trans ?_⟩
    by_cases hkm : k < m
    · rw [if_pos (h2 k hkm), if_pos hkm]
    · rw [h1 k (by omega), if_neg hkm]; rfl
  · rintro l a w ⟨h1, hs, -⟩ hn hr
    have := all_listed hdag l hs hr (m + 1) m (by omega) (by omega)
    rw [h1 m (Nat.le_refl _)] at this; cases this
  · rintro l a w i ⟨h1, hI⟩ hn hi
    have him := preOk_lt hpre hi hn
    refine wpOp_mono (fun a w h => ⟨fun j hj => ?_, h⟩) (pinv_step (and_l hok) (and_r hok) (okK_is hkk) (hob i him) hI hi)
    obtain ⟨hil, -⟩ := ready_get hi
    rw [getD_set l i j hil, if_neg (by omega)]
    exact h1 j hj
  · simp
  · exact ⟨fun j _ => by rw [Array.getD_eq_getD_getElem?, Array.getElem?_replicate]; split <;> rfl, pinv_start _⟩
theorem op_go {i : Nat} {o : Oper} {a : Act} {w : World} {K : Act → World → Prop} {R : Value → World → Prop} (ho : ops[i]? = some o) (hg : o.guard = none)
    (hd : Does P o a w R) (h : ∀ v w', R v w' → K (a.put o.dst v) w') : wpOp P ops Q i K a w := by
  unfold wpOp
  simp only [ho]
  rw [if_pos (by unfold Region.wanted; rw [hg])]
  exact .inl (hd _ _ h)
/-- a store and an assignment at the end, in either order -/
theorem last_two {fuel : Nat} {l : Array Bool} {A : Act} {w w1 : World} (p q : Nat) {op oq : Oper} {vq : Value} (hf : 2 ≤ fuel)
    (hr : Region.ready md ops l = [p, q]) (hrp : Region.ready md ops (l.setIfInBounds p true) = [q]) (hrq : Region.ready md ops (l.setIfInBounds q true) = [p])
    (hpq : Region.ready md ops ((l.setIfInBounds p true).setIfInBounds q true) = []) (hqp : Region.ready md ops ((l.setIfInBounds q true).setIfInBounds p true) = [])
    (hop : ops[p]? = some op) (hgp : op.guard = none) (hdp : op.dst = none) (hoq : ops[q]? = some oq) (hgq : oq.guard = none) (d : Option Tmp) (hdq : oq.dst = d)
    (dp : Does P op A w fun _ w' => w' = w1) (dp' : Does P op (A.put d vq) w fun _ w' => w' = w1)
    (dq : ∀ w, Does P oq A w fun v w' => v = vq ∧ w' = w) (fin : Q .normal (A.put d vq) w1) : wpAny P md ops Q fuel l A w := by
  subst hdq
  obtain ⟨n, rfl⟩ : ∃ n, fuel = n + 1 + 1 := ⟨fuel - 2, by omega⟩
  have done : ∀ (l : Array Bool), Region.ready md ops l = [] → wpAny P md ops Q n l (A.put oq.dst vq) w1 := fun l hl => by
    cases n with
    | zero => exact ⟨hl, fin⟩
    | succ n => exact ⟨fun _ => fin, fun i hi => by rw [hl] at hi; cases hi⟩
  refine ⟨fun h => (by rw [hr] at h; cases h), fun i hi => ?_⟩
  rw [hr] at hi
  rcases List.mem_cons.1 hi with rfl | hi
  · refine op_go hop hgp dp ?_
    rintro v w' rfl
    rw [hdp]
    refine ⟨fun h => (by rw [hrp] at h; cases h), fun i hi => ?_⟩
    rw [hrp] at hi
    obtain rfl := List.mem_singleton.1 hi
    refine op_go hoq hgq (dq _) ?_
    rintro v w' ⟨rfl, rfl⟩
    exact done _ hpq
  · obtain rfl := List.mem_singleton.1 hi
    refine op_go hoq hgq (dq _) ?_
    rintro v w' ⟨rfl, rfl⟩
    refine ⟨fun h => (by rw [hrq] at h; cases h), fun i hi => ?_⟩
    rw [hrq] at hi
    obtain rfl := List.mem_singleton.1 hi
    refine op_go hop hgp dp' ?_
    rintro v w' rfl
    rw [hdp]
    exact done _ hqp
/-- a store and then an assignment -/
theorem last_seq {fuel : Nat} {l : Array Bool} {A : Act} {w w1 : World} (p q : Nat) {op oq : Oper} {vq : Value} (hf : 2 ≤ fuel)
    (hr : Region.ready md ops l = [p]) (hrp : Region.ready md ops (l.setIfInBounds p true) = [q])
    (hpq : Region.ready md ops ((l.setIfInBounds p true).setIfInBounds q true) = [])
    (hop : ops[p]? = some op) (hgp : op.guard = none) (hdp : op.dst = none) (hoq : ops[q]? = some oq) (hgq : oq.guard = none) (d : Option Tmp) (hdq : oq.dst = d)
    (dp : Does P op A w fun _ w' => w' = w1)
    (dq : ∀ w, Does P oq A w fun v w' => v = vq ∧ w' = w) (fin : Q .normal (A.put d vq) w1) : wpAny P md ops Q fuel l A w := by
  subst hdq
  obtain ⟨n, rfl⟩ : ∃ n, fuel = n + 1 + 1 := ⟨fuel - 2, by omega⟩
  have done : ∀ (l : Array Bool), Region.ready md ops l = [] → wpAny P md ops Q n l (A.put oq.dst vq) w1 := fun l hl => by
    cases n with
    | zero => exact ⟨hl, fin⟩
    | succ n => exact ⟨fun _ => fin, fun i hi => by rw [hl] at hi; cases hi⟩
  refine ⟨fun h => (by rw [hr] at h; cases h), fun i hi => ?_⟩
  rw [hr] at hi
  obtain rfl := List.mem_singleton.1 hi
  refine op_go hop hgp dp ?_
  rintro v w' rfl
  rw [hdp]
  refine ⟨fun h => (by rw [hrp] at h; cases h), fun i hi => ?_⟩
  rw [hrp] at hi
  obtain rfl := List.mem_singleton.1 hi
  refine op_go hoq hgq (dq _) ?_
  rintro v w' ⟨rfl, rfl⟩
  exact done _ hpq
end
end Go.Proofs.YtenggagjgmonoaaDoor

namespace Go.Proofs.YtenggagjgmonoaaDoor
open Go.RowKit M
set_option linter.unusedVariables false

section
variable {ev : Operand → Value} {w : World} {dst : Option Tmp} {ty : TypeId} {ps : String} {af : Array Edge} {gd : Option (Nat × Bool)} {x y : Operand} {b i : Nat} {X Y X0 Y0 : Int} {c c0 : Bool}
theorem execM_storeP (hx : ev x = .pointer (some ⟨b, 0, none⟩)) (hy : ev y = .agg #[.int .u64 X, .int .u64 Y, .bool c]) (hr : K3 w 36 b X0 Y0 c0) :
    (execOp ev { dst := dst, op := .store 36 x y, type := ty, pos := ps, after := af, guard := gd }).run Tryd.prog w = .ok .skip (set3 w b X Y c) := by
  have h1 := hr.c0
  have h2 := hr.c1
  have h3 := hr.c2
  have h4 := hr.frz
  simp [execOp, hx, hy, h1, h2, h3, h4, go_sem, set3]
theorem execM_idxW {g n cap k : Nat} (hx : ev x = .slice (some ⟨g, 0, none⟩) n cap) (hy : ev y = .int .i64 (k : Int)) (hk : k < n) :
    (execOp ev { dst := dst, op := .indexAddr 29 x y, type := ty, pos := ps, after := af, guard := gd }).run Tryd.prog w = .ok (.value (.pointer (some ⟨g, k, none⟩))) w := by
  have h2 : (k : Int) < (n : Int) := by omega
  simp [execOp, hx, hy, h2, go_sem]
end
section
variable {A : Act} {w W0 : World} {dst : Option Tmp} {ty : TypeId} {ps : String} {af : Array Edge} {gd : Option (Nat × Bool)} {x y : Operand} {b i : Nat}
set_option maxRecDepth 100000
theorem doS_idx {g n cap k : Nat} (hx : A.eval x = .slice (some ⟨g, 0, none⟩) n cap) (hy : A.eval y = .int .i64 (k : Int)) (hk : k < n) :
    Does Tryd.prog { dst := dst, op := .indexAddr 29 x y, type := ty, pos := ps, after := af, guard := gd } A w fun v' w' => v' = .pointer (some ⟨g, k, none⟩) ∧ Below w.heap.size w w' := by
  have h := execM_idxW (ev := A.eval) (w := w) (dst := dst) (ty := ty) (ps := ps) (af := af) (gd := gd) hx hy hk
  exact does_value h ⟨rfl, Below.refl _ _⟩
end
theorem cf_mapS (args : Array Value) (w : World) : (callFunc 28 args).run Tryd.prog w = .ok (.enter 28 args) w := by kernel_rfl
theorem cf_sum (args : Array Value) (w : World) : (callFunc 27 args).run Tryd.prog w = .ok (.enter 27 args) w := by kernel_rfl
theorem ptt_res {W : World} {b : Nat} {x y : Int} {c : Bool} {fn : Func} {p u : Tmp} (h : fn.results = #[.cell p 36, .tmp u]) (tmps : Array Value) (hp : tmps.getD p undef = .pointer (some ⟨b, 0, none⟩)) (hc : K3 W 36 b x y c) :
    (results fn tmps).run Tryd.prog W = .ok (.tuple #[.agg #[.int .u64 x, .int .u64 y, .bool c], tmps.getD u undef]) W := by
  have hp' : tmps[p]?.getD undef = .pointer (some ⟨b, 0, none⟩) := by simpa using hp
  simp [results, h, hp', asAddr, run_loadVar_mid W b 0 36 [.int .u64 x, .int .u64 y, .bool c] _ hc.range Tryd.underlying36 rfl (by kernel_rfl)]
/-- the point of a message -/
noncomputable def mapP (u : Nat) : Pt := some (mXX (toF u), mYo (toF u))
theorem mapP_on (u : Nat) : on (mapP u) := map_on (toF u)
noncomputable def hPt (msg tag : ByteArray) : Pt := ad (mapP (hNum msg tag 2305843009213693951 2 0)) (mapP (hNum msg tag 2305843009213693951 2 1))

set_option maxRecDepth 100000 in
set_option maxHeartbeats 4000000 in
theorem h2gS_of (msg tag : ByteArray) (H : List Int) (u0 u1 ax ay dx dy sx sy : Int) (ac dc sc : Bool) (w : World)
    (X : ∀ w, Calls Tryd.prog 11 #[.string msg, .string tag, .int .u64 2305843009213693951, .int .i64 2] w fun e w' => ∃ g cap, e = .returned (.tuple #[.slice (some ⟨g, 0, none⟩) 2 cap, .bool true]) ∧ Row w' w.heap.size g 2 cap (H.map (Value.int .u64)) ∧ Below w.heap.size w w')
    (h0 : lk H 0 = u0) (h1 : lk H 1 = u1)
    (M0 : ∀ w, Calls Tryd.prog 28 #[.int .u64 u0] w fun e w' => e = .returned (.agg #[.int .u64 ax, .int .u64 ay, .bool ac]) ∧ Below w.heap.size w w')
    (M1 : ∀ w, Calls Tryd.prog 28 #[.int .u64 u1] w fun e w' => e = .returned (.agg #[.int .u64 dx, .int .u64 dy, .bool dc]) ∧ Below w.heap.size w w')
    (SU : ∀ w, Calls Tryd.prog 27 #[.agg #[.int .u64 ax, .int .u64 ay, .bool ac], .agg #[.int .u64 dx, .int .u64 dy, .bool dc]] w fun e w' => e = .returned (.agg #[.int .u64 sx, .int .u64 sy, .bool sc]) ∧ Below w.heap.size w w') :
    Calls Tryd.prog 16 #[.string msg, .string tag] w fun e w' => e = .returned (.tuple #[.agg #[.int .u64 sx, .int .u64 sy, .bool sc], .bool true]) ∧ Below w.heap.size w w' := by
  have hr := K3.new w 36 0 0 false
  have hb := (Below.refl _ w).alloc (Nat.le_refl _) (Obj.cells #[.int .u64 0, .int .u64 0, .bool false] 36)
  go_enter Tryd.func16, Tryd.ntmps16
  go_wp2_with fail
  refine (X _).mono ?_
  rintro e W1 ⟨g, cap, rfl, hrow, b1⟩
  replace hr := hr.keep b1
  replace hb := hb.trans (b1.mono hb.size)
  have c0 := hrow.drew.cell 0 (by omega)
  have c1 := hrow.drew.cell 1 (by omega)
  rw [h0] at c0
  rw [h1] at c1
  clear X hrow b1
  go_wp2
  refine pool_pre 9 [.val (.slice (some ⟨g, 0, none⟩) 2 cap),
      .val (.pointer (some ⟨g, 0, none⟩)),
      .val (.int .u64 u0),
      .val (.agg #[.int .u64 ax, .int .u64 ay, .bool ac]),
      .val (.slice (some ⟨g, 0, none⟩) 2 cap),
      .val (.pointer (some ⟨g, 1, none⟩)),
      .val (.int .u64 u1),
      .val (.agg #[.int .u64 dx, .int .u64 dy, .bool dc]),
      .val (.agg #[.int .u64 sx, .int .u64 sy, .bool sc])] [[6], [17], [18], [19], [6], [21], [22], [23], [20, 24]] (fun f => [(some 17, .slice (some ⟨g, 0, none⟩) 2 cap), (some 18, .pointer (some ⟨g, 0, none⟩)), (some 19, .int .u64 u0), (some 20, .agg #[.int .u64 ax, .int .u64 ay, .bool ac]), (some 21, .slice (some ⟨g, 0, none⟩) 2 cap), (some 22, .pointer (some ⟨g, 1, none⟩)), (some 23, .int .u64 u1), (some 24, .agg #[.int .u64 dx, .int .u64 dy, .bool dc]), (some 25, .agg #[.int .u64 sx, .int .u64 sy, .bool sc])]) (by kernel_rfl) (by kernel_rfl) (by kernel_rfl) (by kernel_rfl) (by decide) (by kernel_rfl) (fun _ => by kernel_rfl) ?_ ?_
  · intro ix hix
    match ix, hix with
    | 0, _ => exact ob_val [(6, .slice (some ⟨g, 0, none⟩) 2 cap)] rfl rfl (fun _ => by kernel_rfl) (fun A w ⟨e0, _⟩ hB => doS_move e0)
    | 1, _ => exact ob_val [(17, .slice (some ⟨g, 0, none⟩) 2 cap)] rfl rfl (fun _ => by kernel_rfl) (fun A w ⟨e0, _⟩ hB => doS_idx (k := 0) e0 rfl (by decide))
    | 2, _ => exact ob_val [(18, .pointer (some ⟨g, 0, none⟩))] rfl rfl (fun _ => by kernel_rfl) (fun A w ⟨e0, _⟩ hB => doS_loadW e0 (keepA c0 hB))
    | 3, _ => exact ob_val [(19, .int .u64 u0)] rfl rfl (fun _ => by kernel_rfl) (fun A w ⟨e0, _⟩ hB => doS_call1 cf_mapS e0 (M0 w))
    | 4, _ => exact ob_val [(6, .slice (some ⟨g, 0, none⟩) 2 cap)] rfl rfl (fun _ => by kernel_rfl) (fun A w ⟨e0, _⟩ hB => doS_move e0)
    | 5, _ => exact ob_val [(21, .slice (some ⟨g, 0, none⟩) 2 cap)] rfl rfl (fun _ => by kernel_rfl) (fun A w ⟨e0, _⟩ hB => doS_idx (k := 1) e0 rfl (by decide))
    | 6, _ => exact ob_val [(22, .pointer (some ⟨g, 1, none⟩))] rfl rfl (fun _ => by kernel_rfl) (fun A w ⟨e0, _⟩ hB => doS_loadW e0 (keepA c1 hB))
    | 7, _ => exact ob_val [(23, .int .u64 u1)] rfl rfl (fun _ => by kernel_rfl) (fun A w ⟨e0, _⟩ hB => doS_call1 cf_mapS e0 (M1 w))
    | 8, _ => exact ob_val [(20, .agg #[.int .u64 ax, .int .u64 ay, .bool ac]), (24, .agg #[.int .u64 dx, .int .u64 dy, .bool dc])] rfl rfl (fun _ => by kernel_rfl) (fun A w ⟨e0, e1, _⟩ hB => doS_call2 cf_sum e0 e1 (SU w))
    | ix + 9, h => exact absurd h (by simp)
  intro f w4 hB _ fuel hfuel
  replace hr := hr.drew.keep hB
  replace hb := hb.drew.trans (hB.mono hb.size)
  simp only [puts, List.foldl, Act.put, List.setIfInBounds_toArray, List.set_cons_zero, List.set_cons_succ]
  refine last_seq (vq := .bool true) 9 10 hfuel (by kernel_rfl) (by kernel_rfl) (by kernel_rfl) rfl rfl rfl rfl rfl (some 5) rfl (does_skip (execM_storeP rfl rfl hr) rfl) (fun w => does_value (execS_assign rfl) ⟨rfl, rfl⟩) ?_
  simp only [Act.put, List.setIfInBounds_toArray, List.set_cons_zero, List.set_cons_succ]
  go_wp2
  exact bodyPost_ret (v := .tuple #[.agg #[.int .u64 sx, .int .u64 sy, .bool sc], .bool true]) (ptt_res (fn := Tryd.f16) (p := 4) (u := 5) Tryd.results16 _ rfl (hr.set sx sy sc)) rfl ⟨rfl, set3_below hb (Nat.le_refl _)⟩
theorem h2gS_yes (msg tag : ByteArray) (w : World) (h : okT msg tag) :
    Calls Tryd.prog 16 #[.string msg, .string tag] w fun e w' => e = .returned (.tuple #[ptW (hPt msg tag), .bool true]) ∧ Below w.heap.size w w' := by
  rw [ptW_eq]
  exact h2gS_of msg tag (h2f (byt msg) (byt tag) 2305843009213693951 2) _ _ _ _ _ _ _ _ _ _ _ w (fun w => h2fS_yes msg tag 2305843009213693951 2 w (by decide) ((okT_H (by decide) (by decide) (by decide)).1 h))
    (h2f_at msg tag 2305843009213693951 2 0 (by omega)) (h2f_at msg tag 2305843009213693951 2 1 (by omega)) (fun w => mapS_any _ w) (fun w => mapS_any _ w) (fun w => sumS_xyz (mapP _) (mapP _) w)
set_option maxRecDepth 100000 in
set_option maxHeartbeats 2000000 in
theorem h2gS_no (msg tag : ByteArray) (w : World) (h : ¬ okT msg tag) :
    Calls Tryd.prog 16 #[.string msg, .string tag] w fun e w' => e = .returned (.tuple #[.agg #[.int .u64 0, .int .u64 0, .bool true], .bool false]) ∧ Below w.heap.size w w' := by
  have X : ∀ w, Calls Tryd.prog 11 #[.string msg, .string tag, .int .u64 2305843009213693951, .int .i64 2] w fun e w' => ∃ g cap, e = .returned (.tuple #[.slice (some ⟨g, 0, none⟩) 0 cap, .bool false]) ∧ Row w' w.heap.size g 0 cap [] ∧ Below w.heap.size w w' :=
    fun w => h2fS_no msg tag 2305843009213693951 2 w (fun hh => h ((okT_H (by decide) (by decide) (by decide)).2 hh))
  have hr := K3.new w 36 0 0 false
  have hb := (Below.refl _ w).alloc (Nat.le_refl _) (Obj.cells #[.int .u64 0, .int .u64 0, .bool false] 36)
  go_enter Tryd.func16, Tryd.ntmps16
  go_wp2_with fail
  refine (X _).mono ?_
  rintro e W1 ⟨g, cap, rfl, hrow, b1⟩
  replace hr := hr.keep b1
  replace hb := hb.trans (b1.mono hb.size)
  clear X hrow b1
  go_wp2_with fail
  refine (zeroS _).mono ?_
  rintro e w2 ⟨rfl, rfl⟩
  replace hr := hr.alloc (Obj.cells #[.int .u64 0, .int .u64 0, .bool true] 36)
  replace hb := hb.alloc hb.size (Obj.cells #[.int .u64 0, .int .u64 0, .bool true] 36)
  have k0 := hr.c0
  have k1 := hr.c1
  have k2 := hr.c2
  have kf := hr.frz
  go_wp2
  exact bodyPost_ret (v := .tuple #[.agg #[.int .u64 0, .int .u64 0, .bool true], .bool false]) (ptt_res (fn := Tryd.f16) (p := 4) (u := 5) Tryd.results16 _ rfl (hr.set 0 0 true)) rfl ⟨rfl, set3_below hb (Nat.le_refl _)⟩
end Go.Proofs.YtenggagjgmonoaaDoor
