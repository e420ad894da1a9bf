import Derived.Test.YtjmhmajfkdglnaaDoorProg
import Derived.Test.YtjmhmajfkdglnaaDoorMrg1
import Derived.Test.YtjmhmajfkdglnaaDoorMrg13
namespace Go.Proofs.YtjmhmajfkdglnaaDoor
open Go.RowKit
set_option linter.unusedVariables false

set_option maxRecDepth 100000 in
theorem modS_yes (mode : Int) (w : World) (h1 : 0 ≤ mode) (h2 : mode ≤ 2) :
    Calls Tryd.prog 6 #[.int .i64 mode] w fun e w' => e = .returned (.bool true) ∧ w = w' := by
  go_enter Tryd.func6, Tryd.ntmps6
  go_wp2
  go_ret
  exact ⟨rfl, rfl⟩
set_option maxRecDepth 100000 in
theorem modS_no (mode : Int) (w : World) (h : ¬ (0 ≤ mode ∧ mode ≤ 2)) :
    Calls Tryd.prog 6 #[.int .i64 mode] w fun e w' => e = .returned (.bool false) ∧ w = w' := by
  by_cases h1 : 0 ≤ mode
  · have h2 : ¬ mode ≤ 2 := fun h' => h ⟨h1, h'⟩
    clear h
    go_enter Tryd.func6, Tryd.ntmps6
    go_wp2
    go_ret
    exact ⟨rfl, rfl⟩
  · clear h
    go_enter Tryd.func6, Tryd.ntmps6
    go_wp2
    go_ret
    exact ⟨rfl, rfl⟩
end Go.Proofs.YtjmhmajfkdglnaaDoor

/-
  A pool in front: the first m operations, for all of which the others wait.
-/
namespace Go.Proofs.YtjmhmajfkdglnaaDoor
open Go.RowKit
set_option linter.unusedVariables false

def preOk (ops : Array Oper) (md : Region.Mode) (m : Nat) : Bool := (List.range ops.size).all fun i => decide (i < m) || (match ops[i]? with
  | none => true
  | some o => (List.range m).all fun j => o.after.toList.any fun e => e.on == j && Region.binds md e)
section
variable {P : Program} {ops : Array Oper} {Q : Exit → Act → World → Prop} {md : Region.Mode} {kind : Nat → Knd} {a0 : Act} {uses : Nat → List Nat}
theorem preOk_lt {m i : Nat} (h : preOk ops md m = true) {l : Array Bool} (hi : i ∈ Region.ready md ops l) (hn : ¬ ∀ j, j < m → l.getD j false = true) : i < m := by
  obtain ⟨h1, -, -, o, ho, hedge⟩ := ready_get hi
  by_cases hl : i < m
  · exact hl
  · exfalso
    apply hn
    intro j hj
    unfold preOk at h
    rw [List.all_eq_true] at h
    have h2 := h i (List.mem_range.2 (Array.getElem?_eq_some_iff.1 ho).1)
    rw [decide_eq_false hl, Bool.false_or, ho] at h2
    simp only [List.all_eq_true] at h2
    have h3 := h2 j (List.mem_range.2 hj)
    rw [List.any_eq_true] at h3
    obtain ⟨e, he, h4⟩ := h3
    rw [Bool.and_eq_true] at h4
    have h5 : e.on = j := by simpa using h4.1
    exact h5 ▸ hedge e he h4.2
theorem any_until (m : Nat) (I : Array Bool → Act → World → Prop)
    (stop : ∀ fuel l a w, I l a w → (∀ j, j < m → l.getD j false = true) → l.toList.count false ≤ fuel → wpAny P md ops Q fuel l a w)
    (stuck : ∀ l a w, I l a w → (¬ ∀ j, j < m → l.getD j false = true) → Region.ready md ops l ≠ [])
    (step : ∀ l a w i, I l a w → (¬ ∀ j, j < m → l.getD j false = true) → i ∈ Region.ready md ops l → wpOp P ops Q i (I (l.setIfInBounds i true)) a w) :
    ∀ fuel l a w, l.toList.count false ≤ fuel → I l a w → wpAny P md ops Q fuel l a w := by
  intro fuel
  induction fuel with
  | zero =>
    intro l a w hc hI
    by_cases hm : ∀ j, j < m → l.getD j false = true
    · exact stop 0 l a w hI hm hc
    · exfalso
      cases hr : Region.ready md ops l with
      | nil => exact stuck l a w hI hm hr
      | cons i r =>
        obtain ⟨h1, h2, -, -⟩ := ready_get (i := i) (md := md) (ops := ops) (l := l) (by rw [hr]; simp)
        have : false ∈ l.toList := by
          rw [Array.getD_eq_getD_getElem?, Array.getElem?_eq_getElem h1] at h2
          rw [← show l[i] = false from h2]
          exact Array.mem_toList_iff.2 (Array.getElem_mem h1)
        have := List.count_pos_iff.2 this
        omega
  | succ fuel ih =>
    intro l a w hc hI
    by_cases hm : ∀ j, j < m → l.getD j false = true
    · exact stop _ l a w hI hm hc
    · refine ⟨fun hr => absurd hr (stuck l a w hI hm), fun i hi => ?_⟩
      refine wpOp_mono (fun a w hI' => ih _ a w ?_ hI') (step l a w i hI hm hi)
      obtain ⟨h1, h2, -, -⟩ := ready_get hi
      have h3 : l.toList[i]? = some false := by
        rw [Array.getD_eq_getD_getElem?] at h2
        rw [Array.getElem?_toList, Array.getElem?_eq_getElem h1] at *
        simpa using h2
      have := count_set h3
      rw [Array.toList_setIfInBounds]
      omega
theorem upto_eq {l : Array Bool} {n m : Nat} (hs : l.size = n) (h1 : ∀ j, j < m → l.getD j false = true) (h2 : ∀ j, m ≤ j → l.getD j false = false) : l = upto n m := by
  apply Array.ext
  · rw [hs]; simp [upto]
  · intro i hi _
    have h3 : l.getD i false = l[i] := by rw [Array.getD_eq_getD_getElem?, Array.getElem?_eq_getElem hi]; rfl
    have h4 : (upto n m)[i] = decide (i < m) := by simp [upto]
    rw [h4, ← h3]
    by_cases h : i < m
    · rw [h1 i h, decide_eq_true h]
    · rw [h2 i (by omega), decide_eq_false h]
theorem count_upto (n m : Nat) (h : m ≤ n) : (upto n m).toList.count false = n - m := by
  have : (upto n m).toList = List.replicate m true ++ List.replicate (n - m) false := by
    apply List.ext_getElem
    · simp [upto]; omega
    · intro i h1 h2
      by_cases hi : i < m
      · simp [upto, hi]
      · simp [upto, hi, List.getElem_append]
  rw [this]
  simp [List.count_append, List.count_replicate]
/-- the first m operations of a drawn region, for which all others wait -/
theorem pool_pre {id : Nat} {W : World} (m : Nat) (kinds : List Knd) (us : List (List Nat)) (dl : (Nat → Nat) → List (Option Tmp × Value)) (hm : P.follows .mixedOrders = true) (hok : (okOps ops a0 .any (usesOf us) && okG ops (kindOf kinds) .any) = true) (hdag : dag ops = true) (hkk : okK kinds ops.size = true) (hmn : decide (m < ops.size) = true) (hpre : preOk ops .any m = true)
    (hdl : ∀ f, ((List.range m).map fun i => ((ops[i]?).bind (·.dst), vl (kindOf kinds) f i)) = dl f)
    (hob : ∀ i, i < m → Ob P ops (kindOf kinds) (usesOf us) a0 W.drew i)
    (fin : ∀ (f : Nat → Nat) (w : World), Below W.drew.heap.size W.drew w →
      (∀ i ob ob' k, kindOf kinds i = .new ob ob' k → i < m → W.drew.heap.size ≤ f i ∧ w.heap[f i]? = some (if k < m then ob' else ob)) →
      ∀ fuel, ops.size - m ≤ fuel → wpAny P .any ops Q fuel (upto ops.size m) (puts (dl f) a0) w) :
    (Code.region id ops true).wp P Q a0 W := by
  have hmn' := of_decide_eq_true hmn
  refine wp_region_any hm ?_
  refine any_until m (fun l a w => (∀ j, m ≤ j → l.getD j false = false) ∧ PInv .any ops (kindOf kinds) a0 W.drew l a w) ?_ ?_ ?_ _ _ _ _ ?_ ?_
  · rintro fuel l a w ⟨h1, hs, f, rfl, hB, hN, -, -, -⟩ h2 hc
    obtain rfl := upto_eq hs h2 h1
    rw [count_upto _ _ (by omega)] at hc
    rw [canon_upto (and_l hok) f m (by omega), hdl f]
    refine fin f w hB (fun i ob ob' k hk hi => ?_) fuel hc
    obtain ⟨g1, -, g3⟩ := hN i ob ob' k hk (h2 i hi)
    refine ⟨g1, g3.trans ?_⟩
    by_cases hkm : k < m
    · rw [if_pos (h2 k hkm), if_pos hkm]
    · rw [h1 k (by omega), if_neg hkm]; rfl
  · rintro l a w ⟨h1, hs, -⟩ hn hr
    have := all_listed hdag l hs hr (m + 1) m (by omega) (by omega)
    rw [h1 m (Nat.le_refl _)] at this; cases this
  · rintro l a w i ⟨h1, hI⟩ hn hi
    have him := preOk_lt hpre hi hn
    refine wpOp_mono (fun a w h => ⟨fun j hj => ?_, h⟩) (pinv_step (and_l hok) (and_r hok) (okK_is hkk) (hob i him) hI hi)
    obtain ⟨hil, -⟩ := ready_get hi
    rw [getD_set l i j hil, if_neg (by omega)]
    exact h1 j hj
  · simp
  · exact ⟨fun j _ => by rw [Array.getD_eq_getD_getElem?, Array.getElem?_replicate]; split <;> rfl, pinv_start _⟩
theorem op_go {i : Nat} {o : Oper} {a : Act} {w : World} {K : Act → World → Prop} {R : Value → World → Prop} (ho : ops[i]? = some o) (hg : o.guard = none)
    (hd : Does P o a w R) (h : ∀ v w', R v w' → K (a.put o.dst v) w') : wpOp P ops Q i K a w := by
  unfold wpOp
  simp only [ho]
  rw [if_pos (by unfold Region.wanted; rw [hg])]
  exact .inl (hd _ _ h)
/-- a store and an assignment at the end, in either order -/
theorem last_two {fuel : Nat} {l : Array Bool} {A : Act} {w w1 : World} (p q : Nat) {op oq : Oper} {vq : Value} (hf : 2 ≤ fuel)
    (hr : Region.ready md ops l = [p, q]) (hrp : Region.ready md ops (l.setIfInBounds p true) = [q]) (hrq : Region.ready md ops (l.setIfInBounds q true) = [p])
    (hpq : Region.ready md ops ((l.setIfInBounds p true).setIfInBounds q true) = []) (hqp : Region.ready md ops ((l.setIfInBounds q true).setIfInBounds p true) = [])
    (hop : ops[p]? = some op) (hgp : op.guard = none) (hdp : op.dst = none) (hoq : ops[q]? = some oq) (hgq : oq.guard = none) (d : Option Tmp) (hdq : oq.dst = d)
    (dp : Does P op A w fun _ w' => w' = w1) (dp' : Does P op (A.put d vq) w fun _ w' => w' = w1)
    (dq : ∀ w, Does P oq A w fun v w' => v = vq ∧ w' = w) (fin : Q .normal (A.put d vq) w1) : wpAny P md ops Q fuel l A w := by
  subst hdq
  obtain ⟨n, rfl⟩ : ∃ n, fuel = n + 1 + 1 := ⟨fuel - 2, by omega⟩
  have done : ∀ (l : Array Bool), Region.ready md ops l = [] → wpAny P md ops Q n l (A.put oq.dst vq) w1 := fun l hl => by
    cases n with
    | zero => exact ⟨hl, fin⟩
    | succ n => exact ⟨fun _ => fin, fun i hi => by rw [hl] at hi; cases hi⟩
  refine ⟨fun h => (by rw [hr] at h; cases h), fun i hi => ?_⟩
  rw [hr] at hi
  rcases List.mem_cons.1 hi with rfl | hi
  · refine op_go hop hgp dp ?_
    rintro v w' rfl
    rw [hdp]
    refine ⟨fun h => (by rw [hrp] at h; cases h), fun i hi => ?_⟩
    rw [hrp] at hi
    obtain rfl := List.mem_singleton.1 hi
    refine op_go hoq hgq (dq _) ?_
    rintro v w' ⟨rfl, rfl⟩
    exact done _ hpq
  · obtain rfl := List.mem_singleton.1 hi
    refine op_go hoq hgq (dq _) ?_
    rintro v w' ⟨rfl, rfl⟩
    refine ⟨fun h => (by rw [hrq] at h; cases h), fun i hi => ?_⟩
    rw [hrq] at hi
    obtain rfl := List.mem_singleton.1 hi
    refine op_go hop hgp dp' ?_
    rintro v w' rfl
    rw [hdp]
    exact done _ hqp
/-- a store and then an assignment -/
theorem last_seq {fuel : Nat} {l : Array Bool} {A : Act} {w w1 : World} (p q : Nat) {op oq : Oper} {vq : Value} (hf : 2 ≤ fuel)
    (hr : Region.ready md ops l = [p]) (hrp : Region.ready md ops (l.setIfInBounds p true) = [q])
    (hpq : Region.ready md ops ((l.setIfInBounds p true).setIfInBounds q true) = [])
    (hop : ops[p]? = some op) (hgp : op.guard = none) (hdp : op.dst = none) (hoq : ops[q]? = some oq) (hgq : oq.guard = none) (d : Option Tmp) (hdq : oq.dst = d)
    (dp : Does P op A w fun _ w' => w' = w1)
    (dq : ∀ w, Does P oq A w fun v w' => v = vq ∧ w' = w) (fin : Q .normal (A.put d vq) w1) : wpAny P md ops Q fuel l A w := by
  subst hdq
  obtain ⟨n, rfl⟩ : ∃ n, fuel = n + 1 + 1 := ⟨fuel - 2, by omega⟩
  have done : ∀ (l : Array Bool), Region.ready md ops l = [] → wpAny P md ops Q n l (A.put oq.dst vq) w1 := fun l hl => by
    cases n with
    | zero => exact ⟨hl, fin⟩
    | succ n => exact ⟨fun _ => fin, fun i hi => by rw [hl] at hi; cases hi⟩
  refine ⟨fun h => (by rw [hr] at h; cases h), fun i hi => ?_⟩
  rw [hr] at hi
  obtain rfl := List.mem_singleton.1 hi
  refine op_go hop hgp dp ?_
  rintro v w' rfl
  rw [hdp]
  refine ⟨fun h => (by rw [hrp] at h; cases h), fun i hi => ?_⟩
  rw [hrp] at hi
  obtain rfl := List.mem_singleton.1 hi
  refine op_go hoq hgq (dq _) ?_
  rintro v w' ⟨rfl, rfl⟩
  exact done _ hpq
end
end Go.Proofs.YtjmhmajfkdglnaaDoor
