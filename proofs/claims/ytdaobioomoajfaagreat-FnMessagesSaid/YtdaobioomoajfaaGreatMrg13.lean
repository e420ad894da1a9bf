import Derived.Orders
import Derived.Below
import Derived.Deep.RegionHeld3
import Derived.Test.YtdaobioomoajfaaGreatMrg12
import Derived.Test.YtdaobioomoajfaaGreatMrg3
import Derived.Test.YtdaobioomoajfaaGreatMrg11
import Derived.Test.YtdaobioomoajfaaGreatMrg4
set_option linter.unusedVariables false
set_option maxRecDepth 100000
set_option maxHeartbeats 16000000
namespace Go.Proofs.YtdaobioomoajfaaGreat
open Go.RowKit
section
variable {P : Program} {ops : Array Oper} {Q : Exit → Act → World → Prop} {md : Region.Mode}
theorem ready_get {l : Array Bool} {i : Nat} (h : i ∈ Region.ready md ops l) : i < l.size ∧ l.getD i false = false ∧ l.getD i true = false ∧ ∃ o, ops[i]? = some o ∧ ∀ e ∈ o.after.toList, Region.binds md e = true → l.getD e.on false = true := by
  unfold Region.ready at h
  rw [List.mem_filter] at h
  obtain ⟨h1, h2⟩ := h
  rw [Bool.and_eq_true] at h2
  obtain ⟨h2, h3⟩ := h2
  have h4 : l.getD i true = false := by simpa using h2
  have h5 : i < l.size := by
    by_cases hl : i < l.size
    · exact hl
    · rw [Array.getD_eq_getD_getElem?, Array.getElem?_eq_none (by omega)] at h4
      cases h4
  have h6 : l[i]? = some l[i] := Array.getElem?_eq_getElem h5
  refine ⟨h5, ?_, h4, ?_⟩
  · rw [Array.getD_eq_getD_getElem?, h6] at h4 ⊢; exact h4
  · cases ho : ops[i]? with
    | none => rw [ho] at h3; cases h3
    | some o =>
      refine ⟨o, rfl, fun e he hb => ?_⟩
      rw [ho] at h3
      simp only [Option.map_some, Option.getD_some, Array.all_eq_true_iff_forall_mem] at h3
      have := h3 e (Array.mem_toList_iff.1 he)
      rw [hb] at this
      simpa using this
theorem count_set {l : List Bool} {i : Nat} (h : l[i]? = some false) : (l.set i true).count false + 1 = l.count false := by
  induction l generalizing i with
  | nil => cases h
  | cons b r ih =>
    cases i with
    | zero =>
      simp at h
      subst h
      simp
    | succ i =>
      have := ih (i := i) (by simpa using h)
      simp only [List.set_cons_succ, List.count_cons]
      omega
theorem any_inv (I : Array Bool → Act → World → Prop)
    (fin : ∀ l a w, I l a w → Region.ready md ops l = [] → Q .normal a w)
    (step : ∀ l a w i, I l a w → i ∈ Region.ready md ops l → wpOp P ops Q i (I (l.setIfInBounds i true)) a w) :
    ∀ fuel l a w, l.toList.count false ≤ fuel → I l a w → wpAny P md ops Q fuel l a w := by
  intro fuel
  induction fuel with
  | zero =>
    intro l a w hc hI
    have hr : Region.ready md ops l = [] := by
      rw [List.eq_nil_iff_forall_not_mem]
      intro i hi
      obtain ⟨h1, h2, -, -⟩ := ready_get hi
      have : false ∈ l.toList := by
        rw [Array.getD_eq_getD_getElem?, Array.getElem?_eq_getElem h1] at h2
        rw [← show l[i] = false from h2]
        exact Array.mem_toList_iff.2 (Array.getElem_mem h1)
      have := List.count_pos_iff.2 this
      omega
    exact ⟨hr, fin l a w hI hr⟩
  | succ fuel ih =>
    intro l a w hc hI
    refine ⟨fun hr => fin l a w hI hr, fun i hi => ?_⟩
    refine wpOp_mono (fun a w hI' => ih _ a w ?_ hI') (step l a w i hI hi)
    obtain ⟨h1, h2, -, -⟩ := ready_get hi
    have h3 : l.toList[i]? = some false := by
      rw [Array.getD_eq_getD_getElem?] at h2
      rw [Array.getElem?_toList, Array.getElem?_eq_getElem h1] at *
      simpa using h2
    have := count_set h3
    rw [Array.toList_setIfInBounds]
    omega
end
def nv (k b : Nat) : Value := if 1000 ≤ k then .slice (some ⟨b, 0, none⟩) (k - 1000) (k - 1000) else .pointer (some ⟨b, 0, none⟩)
inductive Knd where
  | val (v : Value)
  | new (o o' : Obj) (k : Nat)
  | put (j : Nat)
section
variable (ops : Array Oper) (kind : Nat → Knd) (a0 : Act)
def ownOf (t : Nat) : Option Nat := (List.range ops.size).find? fun i => (ops[i]?).bind (·.dst) == some t
def vl (f : Nat → Nat) (i : Nat) : Value := match kind i with
  | .val v => v
  | .new _ _ k => nv k (f i)
  | .put _ => undef
def look (f : Nat → Nat) (i t : Nat) : Value := match ownOf ops t with
  | some j => if j < i then vl kind f j else a0.tmps.getD t undef
  | none => a0.tmps.getD t undef
def canon (l : Array Bool) (f : Nat → Nat) : Act := { a0 with tmps := a0.tmps.mapIdx fun t v => match ownOf ops t with
  | some i => if l.getD i false then vl kind f i else v
  | none => v }
def canonAll (f : Nat → Nat) : Act := { a0 with tmps := a0.tmps.mapIdx fun t v => match ownOf ops t with
  | some i => vl kind f i
  | none => v }
def okOps (md : Region.Mode) (uses : Nat → List Nat) : Bool := (List.range ops.size).all fun i => match ops[i]? with
  | none => true
  | some o => (match o.dst with
      | some d => ownOf ops d == some i && decide (d < a0.tmps.size)
      | none => true) &&
    (uses i).all fun t => match ownOf ops t with
      | some j => if j < i then o.after.toList.any (fun e => e.on == j && Region.binds md e) else j == i || (match ops[j]? with
        | some oj => oj.after.toList.any (fun e => e.on == i && Region.binds md e)
        | none => false)
      | none => true
end
def okG (ops : Array Oper) (kind : Nat → Knd) (md : Region.Mode) : Bool := (List.range ops.size).all fun i => match ops[i]? with
  | none => true
  | some o => match o.guard with
    | none => true
    | some (g, want) => (match kind g with
        | .val (.bool b) => b == want
        | _ => false) && ((ops[g]?).bind (·.dst)).isSome && o.after.toList.any (fun e => e.on == g && Region.binds md e)
theorem own_dst {ops : Array Oper} {t i : Nat} (h : ownOf ops t = some i) : (ops[i]?).bind (·.dst) = some t := by
  unfold ownOf at h
  have := List.find?_some h
  simpa using this
theorem own_lt {ops : Array Oper} {t i : Nat} (h : ownOf ops t = some i) : i < ops.size := by
  have := own_dst h
  by_cases hl : i < ops.size
  · exact hl
  · rw [Array.getElem?_eq_none (by omega)] at this; cases this
section
variable {P : Program} {ops : Array Oper} {Q : Exit → Act → World → Prop} {md : Region.Mode} {kind : Nat → Knd} {a0 : Act} {uses : Nat → List Nat}
theorem okOps_at (h : okOps ops a0 md uses = true) {i : Nat} {o : Oper} (ho : ops[i]? = some o) :
    (∀ d, o.dst = some d → ownOf ops d = some i ∧ d < a0.tmps.size) ∧ ∀ t ∈ uses i, ∀ j, ownOf ops t = some j → (j < i ∧ ∃ e ∈ o.after.toList, e.on = j ∧ Region.binds md e = true) ∨ j = i ∨ (i < j ∧ ∃ oj, ops[j]? = some oj ∧ ∃ e ∈ oj.after.toList, e.on = i ∧ Region.binds md e = true) := by
  have hl : i < ops.size := (Array.getElem?_eq_some_iff.1 ho).1
  unfold okOps at h
  rw [List.all_eq_true] at h
  have h1 := h i (List.mem_range.2 hl)
  rw [ho] at h1
  simp only [Bool.and_eq_true] at h1
  obtain ⟨h2, h3⟩ := h1
  refine ⟨fun d hd => ?_, fun t ht j hj => ?_⟩
  · rw [hd] at h2
    simpa using h2
  · rw [List.all_eq_true] at h3
    have h4 := h3 t ht
    rw [hj] at h4
    simp only at h4
    by_cases hji : j < i
    · rw [if_pos hji] at h4
      simp only [List.any_eq_true, Bool.and_eq_true] at h4
      obtain ⟨e, he, h5, h6⟩ := h4
      exact .inl ⟨hji, e, he, by simpa using h5, h6⟩
    · rw [if_neg hji, Bool.or_eq_true] at h4
      rcases h4 with h4 | h4
      · exact .inr (.inl (by simpa using h4))
      · by_cases e0 : j = i
        · exact .inr (.inl e0)
        · cases h5 : ops[j]? with
          | none => rw [h5] at h4; cases h4
          | some oj =>
            rw [h5] at h4
            simp only [List.any_eq_true, Bool.and_eq_true] at h4
            obtain ⟨e, he, h5, h6⟩ := h4
            exact .inr (.inr ⟨by omega, oj, rfl, e, he, by simpa using h5, h6⟩)
theorem canon_tmp (l : Array Bool) (f : Nat → Nat) (i t : Nat) (ht : ∀ j, ownOf ops t = some j → l.getD j false = decide (j < i) ∧ t < a0.tmps.size) :
    (canon ops kind a0 l f).eval (.tmp t) = look ops kind a0 f i t := by
  show (canon ops kind a0 l f).tmps.getD t undef = _
  unfold canon look
  rw [Array.getD_eq_getD_getElem?, Array.getElem?_mapIdx]
  cases ho : ownOf ops t with
  | none => cases hx : a0.tmps[t]? <;> simp [hx, Array.getD_eq_getD_getElem?]
  | some j =>
    obtain ⟨h1, h2⟩ := ht j ho
    rw [Array.getElem?_eq_getElem h2]
    simp [h1, Array.getD_eq_getD_getElem?, Array.getElem?_eq_getElem h2]
theorem getD_set (l : Array Bool) (i j : Nat) : i < l.size → (l.setIfInBounds i true).getD j false = if j = i then true else l.getD j false := by
  intro h
  rw [Array.getD_eq_getD_getElem?, Array.getD_eq_getD_getElem?, Array.getElem?_setIfInBounds]
  by_cases e : i = j
  · subst e; simp [h]
  · rw [if_neg e, if_neg (Ne.symm e)]
theorem canon_put (h : okOps ops a0 md uses = true) {i : Nat} {o : Oper} (ho : ops[i]? = some o) (l : Array Bool) (hl : i < l.size) (f f' : Nat → Nat) (hf : ∀ j, l.getD j false = true → vl kind f' j = vl kind f j) :
    (o.dst = none ∨ l.getD i false = false) →
    (canon ops kind a0 l f).put o.dst (vl kind f' i) = canon ops kind a0 (l.setIfInBounds i true) f' := by
  intro hli
  obtain ⟨hd, -⟩ := okOps_at h ho
  have key : ∀ t v, (∀ j, ownOf ops t = some j → j ≠ i) → (match ownOf ops t with
      | some j => if l.getD j false then vl kind f j else v
      | none => v) = (match ownOf ops t with
      | some j => if (l.setIfInBounds i true).getD j false then vl kind f' j else v
      | none => v) := by
    intro t v hj
    cases ht : ownOf ops t with
    | none => rfl
    | some j =>
      have hne := hj j ht
      simp only [getD_set l i j hl, if_neg hne]
      cases hlj : l.getD j false with
      | false => rfl
      | true => simp [hf j hlj]
  cases hdst : o.dst with
  | none =>
    unfold Act.put canon
    simp only [Act.mk.injEq, and_true]
    apply Array.ext_getElem?
    intro t
    rw [Array.getElem?_mapIdx, Array.getElem?_mapIdx]
    cases a0.tmps[t]? with
    | none => rfl
    | some v =>
      simp only [Option.map_some]
      rw [key t v]
      intro j hj e
      have := own_dst hj
      rw [e, ho] at this
      simp [hdst] at this
  | some d =>
    obtain ⟨hod, hds⟩ := hd d hdst
    unfold Act.put canon
    simp only [Act.mk.injEq, and_true]
    apply Array.ext_getElem?
    intro t
    rw [Array.getElem?_setIfInBounds, Array.getElem?_mapIdx, Array.getElem?_mapIdx]
    by_cases e : d = t
    · subst e
      rw [if_pos rfl, Array.size_mapIdx, if_pos hds, Array.getElem?_eq_getElem hds]
      simp only [Option.map_some, hod]
      rw [getD_set l i i hl]
      simp
    · rw [if_neg e]
      cases a0.tmps[t]? with
      | none => rfl
      | some v =>
        simp only [Option.map_some]
        rw [key t v]
        intro j hj e2
        have := own_dst hj
        rw [e2, ho] at this
        simp [hdst] at this
        exact e this
end
section
variable {ops : Array Oper} {md : Region.Mode} {kind : Nat → Knd} {a0 : Act} {uses : Nat → List Nat}
theorem wanted_of (hok : okOps ops a0 md uses = true) (hG : okG ops kind md = true) {i : Nat} {o : Oper} (ho : ops[i]? = some o) (l : Array Bool) (f : Nat → Nat)
    (hedge : ∀ e ∈ o.after.toList, Region.binds md e = true → l.getD e.on false = true) : Region.wanted o (yielded ops (canon ops kind a0 l f).tmps) = true := by
  have hl : i < ops.size := (Array.getElem?_eq_some_iff.1 ho).1
  unfold okG at hG
  rw [List.all_eq_true] at hG
  have h1 := hG i (List.mem_range.2 hl)
  rw [ho] at h1
  unfold Region.wanted
  cases hg : o.guard with
  | none => rfl
  | some gw =>
    obtain ⟨g, want⟩ := gw
    simp only [hg, Bool.and_eq_true] at h1
    obtain ⟨⟨h1, h2⟩, h3⟩ := h1
    rw [List.any_eq_true] at h3
    obtain ⟨e, he, h4⟩ := h3
    rw [Bool.and_eq_true] at h4
    have hlg : l.getD g false = true := by
      have h5 : e.on = g := by simpa using h4.1
      exact h5 ▸ hedge e he h4.2
    cases hog : ops[g]? with
    | none => rw [hog] at h2; cases h2
    | some o2 =>
      rw [hog] at h2
      cases hd : o2.dst with
      | none => simp [hd] at h2
      | some d =>
        obtain ⟨hown, hlt⟩ := (okOps_at hok hog).1 d hd
        have hv : (canon ops kind a0 l f).tmps[d]? = some (vl kind f g) := by
          unfold canon
          rw [Array.getElem?_mapIdx, Array.getElem?_eq_getElem hlt]
          simp only [Option.map_some, hown, hlg, if_true]
        have hvl : vl kind f g = .bool want := by
          unfold vl
          cases hk : kind g with
          | new _ _ _ => rw [hk] at h1; cases h1
          | put _ => rw [hk] at h1; cases h1
          | val v =>
            rw [hk] at h1
            cases v with
            | bool b => simp only [beq_iff_eq] at h1; simp only [h1]
            | _ => cases h1
        unfold yielded
        simp only [hog, Option.bind_some, hd, hv, hvl]
        simp
end
structure Turned (b : Nat) (o : Obj) (w w' : World) : Prop where
  os : w'.os = w.os
  tape : w'.tape = w.tape
  output : w'.output = w.output
  size : w'.heap.size = w.heap.size
  self : w'.heap[b]? = some o
  other : ∀ k, k ≠ b → w'.heap[k]? = w.heap[k]?
def Does (P : Program) (o : Oper) (A : Act) (w : World) (R : Value → World → Prop) : Prop :=
  ∀ (Q : Exit → Act → World → Prop) (K : Act → World → Prop), (∀ v w', R v w' → K (A.put o.dst v) w') → o.wp P A w K Q
def dag (ops : Array Oper) : Bool := (List.range ops.size).all fun i => match ops[i]? with
  | some o => o.after.toList.all fun e => decide (e.on < i)
  | none => true
section
variable {P : Program} {ops : Array Oper} {Q : Exit → Act → World → Prop} {md : Region.Mode} {kind : Nat → Knd} {a0 : Act} {uses : Nat → List Nat}
theorem all_listed (hd : dag ops = true) (l : Array Bool) (hs : l.size = ops.size) (hr : Region.ready md ops l = []) : ∀ n i, i < n → i < ops.size → l.getD i false = true := by
  intro n
  induction n with
  | zero => intro i h; omega
  | succ n ih =>
    intro i hi hsz
    by_cases hlt : i < n
    · exact ih i hlt hsz
    · have hin : i = n := by omega
      subst hin
      cases hl : l.getD i false with
      | true => rfl
      | false =>
        exfalso
        have hm : i ∈ Region.ready md ops l := by
          unfold Region.ready
          rw [List.mem_filter]
          refine ⟨List.mem_range.2 hsz, ?_⟩
          rw [Bool.and_eq_true]
          constructor
          · rw [Array.getD_eq_getD_getElem?, Array.getElem?_eq_getElem (by omega)] at hl ⊢
            simpa using hl
          · rw [Array.getElem?_eq_getElem hsz]
            simp only [Option.map_some, Option.getD_some, Array.all_eq_true_iff_forall_mem]
            intro e he
            unfold dag at hd
            rw [List.all_eq_true] at hd
            have h1 := hd i (List.mem_range.2 hsz)
            rw [Array.getElem?_eq_getElem hsz] at h1
            simp only [List.all_eq_true] at h1
            have h2 : e.on < i := by simpa using h1 e (Array.mem_toList_iff.2 he)
            rw [ih e.on h2 (by omega)]
            simp
        rw [hr] at hm
        cases hm
def PInv (md : Region.Mode) (ops : Array Oper) (kind : Nat → Knd) (a0 : Act) (W0 : World) (l : Array Bool) (a : Act) (w : World) : Prop :=
  l.size = ops.size ∧ ∃ f : Nat → Nat, a = canon ops kind a0 l f ∧ Below W0.heap.size W0 w ∧
    (∀ i ob ob' k, kind i = .new ob ob' k → l.getD i false = true → W0.heap.size ≤ f i ∧ f i < w.heap.size ∧ w.heap[f i]? = some (if l.getD k false = true then ob' else ob)) ∧
    (∀ i j, l.getD i false = true → l.getD j false = true → i ≠ j → (∃ ob ob' k, kind i = .new ob ob' k) → (∃ ob ob' k, kind j = .new ob ob' k) → f i ≠ f j) ∧
    (∀ k j, kind k = .put j → l.getD k false = true → l.getD j false = true) ∧
    (∀ j oj, ops[j]? = some oj → l.getD j false = true → ∀ e ∈ oj.after.toList, Region.binds md e = true → l.getD e.on false = true)
def Ob (P : Program) (ops : Array Oper) (kind : Nat → Knd) (uses : Nat → List Nat) (a0 : Act) (W0 : World) (i : Nat) : Prop := ∀ o, ops[i]? = some o → match kind i with
  | .val v => ∀ (f : Nat → Nat) (A : Act) (w : World), (∀ t ∈ uses i, A.eval (.tmp t) = look ops kind a0 f i t) → Below W0.heap.size W0 w → (∀ t ∈ uses i, ∀ j, ownOf ops t = some j → j < i → ∀ ob k, kind j = .new ob ob k → w.heap[f j]? = some ob) → Does P o A w fun v' w' => v' = v ∧ Below w.heap.size w w'
  | .new ob _ k => ∀ (f : Nat → Nat) (A : Act) (w : World), (∀ t ∈ uses i, A.eval (.tmp t) = look ops kind a0 f i t) → Does P o A w fun v w' => v = nv k w.heap.size ∧ w' = w.alloc ob
  | .put j => o.dst = none ∧ (∃ t ∈ uses i, ownOf ops t = some j) ∧ j < i ∧ ∃ ob ob', kind j = .new ob ob' i ∧
      ∀ (f : Nat → Nat) (A : Act) (w : World), (∀ t ∈ uses i, A.eval (.tmp t) = look ops kind a0 f i t) → Below W0.heap.size W0 w → w.heap[f j]? = some ob → Does P o A w fun _ w' => Turned (f j) ob' w w'
theorem pinv_start (W0 : World) : PInv md ops kind a0 W0 (Array.replicate ops.size false) a0 W0 := by
  have hfa : ∀ j, (Array.replicate ops.size false).getD j false = false := fun j => by
    rw [Array.getD_eq_getD_getElem?, Array.getElem?_replicate]; split <;> rfl
  refine ⟨by simp, fun _ => 0, ?_, Below.refl _ _, ?_, ?_, ?_, fun j _ _ h => by rw [hfa] at h; cases h⟩
  · unfold canon
    cases a0
    simp only [Act.mk.injEq, and_true]
    apply Array.ext_getElem?
    intro t
    rw [Array.getElem?_mapIdx]
    rename_i tm _
    cases tm[t]? with
    | none => rfl
    | some v =>
      simp only [Option.map_some]
      cases ownOf ops t with
      | none => rfl
      | some j =>
        have : (Array.replicate ops.size false).getD j false = false := by
          rw [Array.getD_eq_getD_getElem?, Array.getElem?_replicate]; split <;> rfl
        simp only [this]; rfl
  · intro i _ _ _ _ h
    have : (Array.replicate ops.size false).getD i false = false := by
      rw [Array.getD_eq_getD_getElem?, Array.getElem?_replicate]; split <;> rfl
    rw [this] at h; cases h
  · intro i _ h
    have : (Array.replicate ops.size false).getD i false = false := by
      rw [Array.getD_eq_getD_getElem?, Array.getElem?_replicate]; split <;> rfl
    rw [this] at h; cases h
  · intro i _ _ h
    have : (Array.replicate ops.size false).getD i false = false := by
      rw [Array.getD_eq_getD_getElem?, Array.getElem?_replicate]; split <;> rfl
    rw [this] at h; cases h
theorem pinv_step (hok : okOps ops a0 md uses = true) (hG : okG ops kind md = true) {W0 : World}
    (hkk : ∀ j ob ob' k, kind j = .new ob ob' k → k < ops.size → kind k = .put j) {l : Array Bool} {a : Act} {w : World} {i : Nat} (hobi : Ob P ops kind uses a0 W0 i)
    (hI : PInv md ops kind a0 W0 l a w) (hi : i ∈ Region.ready md ops l) : wpOp P ops Q i (PInv md ops kind a0 W0 (l.setIfInBounds i true)) a w := by
  obtain ⟨hs, f, rfl, hB, hN, hJ, hL, hC⟩ := hI
  obtain ⟨hil, hif, -, o, ho, hedge⟩ := ready_get hi
  obtain ⟨hdst, huse⟩ := okOps_at hok ho
  have hC' : ∀ j oj, ops[j]? = some oj → (l.setIfInBounds i true).getD j false = true → ∀ e ∈ oj.after.toList, Region.binds md e = true → (l.setIfInBounds i true).getD e.on false = true := fun j oj hoj hlj e he hb => by
    rw [getD_set l i j hil] at hlj
    rw [getD_set l i e.on hil]
    by_cases hji : j = i
    · subst hji
      rw [ho] at hoj; cases hoj
      split
      · rfl
      · exact hedge e he hb
    · rw [if_neg hji] at hlj
      split
      · rfl
      · exact hC j oj hoj hlj e he hb
  have hA : ∀ t ∈ uses i, (canon ops kind a0 l f).eval (.tmp t) = look ops kind a0 f i t := fun t ht => canon_tmp l f i t fun j hj => by
    refine ⟨?_, ?_⟩
    · rcases huse t ht j hj with ⟨hji, e, he, h1, h2⟩ | hji | ⟨hji, oj, hoj, e, he, h1, h2⟩
      · rw [decide_eq_true hji]
        exact h1 ▸ hedge e he h2
      · subst hji
        rw [hif]; simp
      · rw [decide_eq_false (by omega)]
        cases hlj : l.getD j false with
        | false => rfl
        | true =>
          have := hC j oj hoj hlj e he h2
          rw [h1, hif] at this; cases this
    have h3 := own_dst hj
    cases h4 : ops[j]? with
    | none => rw [h4] at h3; cases h3
    | some o2 =>
      rw [h4] at h3
      exact ((okOps_at hok h4).1 t h3).2
  have hw := wanted_of (kind := kind) hok hG ho l f hedge
  have hob := hobi o ho
  unfold wpOp
  simp only [ho, hw, if_true]
  left
  cases hk : kind i with
  | val v =>
    rw [hk] at hob
    refine hob f _ w hA hB (fun t ht j hj hji ob k hkj => ?_) _ _ ?_
    · obtain ⟨e, he, h1, h2⟩ : ∃ e ∈ o.after.toList, e.on = j ∧ Region.binds md e = true := by
        rcases huse t ht j hj with ⟨-, h⟩ | h | ⟨h, -⟩
        · exact h
        · omega
        · omega
      have := (hN j ob ob k hkj (h1 ▸ hedge e he h2)).2.2
      rwa [ite_self] at this
    rintro v' w' ⟨rfl, hb⟩
    refine ⟨by simpa using hs, f, ?_, hB.trans (hb.mono hB.size), ?_, ?_, ?_, hC'⟩
    · have := canon_put hok ho l hil f f (fun _ _ => rfl) (kind := kind) (.inr hif)
      rw [← this]; unfold vl; rw [hk]
    · intro j ob ob' k hj hlj
      have hji : j ≠ i := by rintro rfl; rw [hk] at hj; cases hj
      rw [getD_set l i j hil, if_neg hji] at hlj
      obtain ⟨h1, h2, h3⟩ := hN j ob ob' k hj hlj
      refine ⟨h1, Nat.lt_of_lt_of_le h2 hb.size, (hb.block _ h2).trans (h3.trans ?_)⟩
      rw [getD_set l i k hil]
      by_cases hki : k = i
      · have := hkk j ob ob' k hj (by omega)
        rw [hki, hk] at this; cases this
      · rw [if_neg hki]
    · intro j1 j2 h1 h2 hne k1 k2
      have e1 : j1 ≠ i := by rintro rfl; obtain ⟨_, _, _, h⟩ := k1; rw [hk] at h; cases h
      have e2 : j2 ≠ i := by rintro rfl; obtain ⟨_, _, _, h⟩ := k2; rw [hk] at h; cases h
      rw [getD_set l i j1 hil, if_neg e1] at h1
      rw [getD_set l i j2 hil, if_neg e2] at h2
      exact hJ j1 j2 h1 h2 hne k1 k2
    · intro k j hkj h1
      have e1 : k ≠ i := by rintro rfl; rw [hk] at hkj; cases hkj
      rw [getD_set l i k hil, if_neg e1] at h1
      have := hL k j hkj h1
      rw [getD_set l i j hil, this]; split <;> rfl
  | new ob ob' k =>
    rw [hk] at hob
    refine hob f _ w hA _ _ ?_
    rintro v' w' ⟨rfl, rfl⟩
    have hlk : l.getD k false = false := by
      cases h : l.getD k false with
      | false => rfl
      | true =>
        have hks : k < ops.size := by
          by_cases hx : k < ops.size
          · exact hx
          · rw [Array.getD_eq_getD_getElem?, Array.getElem?_eq_none (by omega)] at h; cases h
        have := hL k i (hkk i ob ob' k hk hks) h
        rw [hif] at this; cases this
    have hki : k ≠ i := by
      rintro rfl
      have := hkk k ob ob' k hk (by omega)
      rw [hk] at this; cases this
    refine ⟨by simpa using hs, fun x => if x = i then w.heap.size else f x, ?_, hB.alloc hB.size _, ?_, ?_, ?_, hC'⟩
    · have := canon_put hok ho l hil f (fun x => if x = i then w.heap.size else f x) (fun j hj => by
        have hji : j ≠ i := by rintro rfl; rw [hif] at hj; cases hj
        unfold vl
        cases kind j <;> simp [hji]) (kind := kind) (.inr hif)
      rw [← this]; unfold vl; rw [hk]; simp
    · intro j ob1 ob2 k2 hj hlj
      by_cases hji : j = i
      · subst hji
        rw [hk] at hj; cases hj
        rw [getD_set l j k hil, if_neg hki, hlk]
        simp only [if_true]
        exact ⟨hB.size, by simp, by show (w.heap.push ob)[w.heap.size]? = _; simp⟩
      · rw [getD_set l i j hil, if_neg hji] at hlj
        obtain ⟨h1, h2, h3⟩ := hN j ob1 ob2 k2 hj hlj
        simp only [if_neg hji]
        refine ⟨h1, by simp; omega, (Below.heap_alloc w ob _ h2).trans (h3.trans ?_)⟩
        rw [getD_set l i k2 hil]
        by_cases hk2 : k2 = i
        · have := hkk j ob1 ob2 k2 hj (by omega)
          rw [hk2, hk] at this; cases this
        · rw [if_neg hk2]
    · intro j1 j2 h1 h2 hne k1 k2
      rw [getD_set l i j1 hil] at h1
      rw [getD_set l i j2 hil] at h2
      by_cases e1 : j1 = i
      · have e2 : j2 ≠ i := fun e => hne (e1.trans e.symm)
        rw [if_neg e2] at h2
        obtain ⟨_, _, _, hx⟩ := k2
        have := (hN j2 _ _ _ hx h2).2.1
        simp only [if_pos e1, if_neg e2]; omega
      · rw [if_neg e1] at h1
        by_cases e2 : j2 = i
        · obtain ⟨_, _, _, hx⟩ := k1
          have := (hN j1 _ _ _ hx h1).2.1
          simp only [if_neg e1, if_pos e2]; omega
        · rw [if_neg e2] at h2
          simp only [if_neg e1, if_neg e2]
          exact hJ j1 j2 h1 h2 hne k1 k2
    · intro k2 j hkj h1
      have e1 : k2 ≠ i := by rintro rfl; rw [hk] at hkj; cases hkj
      rw [getD_set l i k2 hil, if_neg e1] at h1
      have := hL k2 j hkj h1
      rw [getD_set l i j hil, this]; split <;> rfl
  | put j =>
    rw [hk] at hob
    obtain ⟨hdn, ⟨t, ht, htj⟩, hji, ob, ob', hkj, hdo⟩ := hob
    have hlj : l.getD j false = true := by
      obtain ⟨e, he, h1, h2⟩ : ∃ e ∈ o.after.toList, e.on = j ∧ Region.binds md e = true := by
        rcases huse t ht j htj with ⟨-, h⟩ | h | ⟨h, -⟩
        · exact h
        · omega
        · omega
      exact h1 ▸ hedge e he h2
    obtain ⟨g1, g2, g3⟩ := hN j ob ob' i hkj hlj
    rw [hif] at g3
    refine hdo f _ w hA hB (by simpa using g3) _ _ ?_
    rintro v' w' hT
    refine ⟨by simpa using hs, f, ?_, hB.trans ⟨hT.os, hT.tape, hT.output, by rw [hT.size]; exact Nat.le_refl _, fun k hk => hT.other k (by omega)⟩, ?_, ?_, ?_, hC'⟩
    · have := canon_put hok ho l hil f f (fun _ _ => rfl) (kind := kind) (.inl hdn)
      rw [← this, hdn]; rfl
    · intro j2 ob1 ob2 k2 hj2 hl2
      have hji : j2 ≠ i := by rintro rfl; rw [hk] at hj2; cases hj2
      rw [getD_set l i j2 hil, if_neg hji] at hl2
      obtain ⟨h1, h2, h3⟩ := hN j2 ob1 ob2 k2 hj2 hl2
      refine ⟨h1, by rw [hT.size]; exact h2, ?_⟩
      by_cases hjj : j2 = j
      · subst hjj
        rw [hkj] at hj2
        cases hj2
        rw [getD_set l i i hil, if_pos rfl]
        simpa using hT.self
      · have hne := hJ j2 j hl2 hlj hjj ⟨_, _, _, hj2⟩ ⟨_, _, _, hkj⟩
        rw [hT.other _ hne, h3, getD_set l i k2 hil]
        by_cases hk2 : k2 = i
        · have := hkk j2 ob1 ob2 k2 hj2 (by omega)
          rw [hk2, hk] at this
          cases this
          exact absurd rfl hjj
        · rw [if_neg hk2]
    · intro j1 j2 h1 h2 hne k1 k2
      have e1 : j1 ≠ i := by rintro rfl; obtain ⟨_, _, _, h⟩ := k1; rw [hk] at h; cases h
      have e2 : j2 ≠ i := by rintro rfl; obtain ⟨_, _, _, h⟩ := k2; rw [hk] at h; cases h
      rw [getD_set l i j1 hil, if_neg e1] at h1
      rw [getD_set l i j2 hil, if_neg e2] at h2
      exact hJ j1 j2 h1 h2 hne k1 k2
    · intro k2 j2 hkj2 h1
      rw [getD_set l i k2 hil] at h1
      have : l.getD j2 false = true := by
        by_cases e1 : k2 = i
        · rw [e1, hk] at hkj2; cases hkj2; exact hlj
        · rw [if_neg e1] at h1; exact hL k2 j2 hkj2 h1
      rw [getD_set l i j2 hil, this]; split <;> rfl
theorem pool_any (hok : okOps ops a0 md uses = true) (hG : okG ops kind md = true) (hdag : dag ops = true) (W0 : World)
    (hkk : ∀ j ob ob' k, kind j = .new ob ob' k → k < ops.size → kind k = .put j)
    (hob : ∀ i, i < ops.size → Ob P ops kind uses a0 W0 i)
    (fin : ∀ (f : Nat → Nat) (w : World), Below W0.heap.size W0 w →
      (∀ i ob ob' k, kind i = .new ob ob' k → i < ops.size → W0.heap.size ≤ f i ∧ w.heap[f i]? = some (if k < ops.size then ob' else ob)) →
      (∀ i j, i < ops.size → j < ops.size → i ≠ j → (∃ ob ob' k, kind i = .new ob ob' k) → (∃ ob ob' k, kind j = .new ob ob' k) → f i ≠ f j) →
      Q .normal (canonAll ops kind a0 f) w) :
    wpAny P md ops Q ops.size (Array.replicate ops.size false) a0 W0 := by
  refine any_inv (PInv md ops kind a0 W0) ?fin (fun l a w i hI hi => pinv_step hok hG hkk (hob i ?lt) hI hi) _ _ _ _ ?cnt (pinv_start W0)
  case lt =>
    obtain ⟨-, -, -, o, ho, -⟩ := ready_get hi
    exact (Array.getElem?_eq_some_iff.1 ho).1
  case cnt => simp
  case fin =>
    rintro l a w ⟨hs, f, rfl, hB, hN, hJ, -, -⟩ hr
    have hall : ∀ i, i < ops.size → l.getD i false = true := fun i hi => all_listed hdag l hs hr (i + 1) i (by omega) hi
    have hc : canon ops kind a0 l f = canonAll ops kind a0 f := by
      unfold canon canonAll
      simp only [Act.mk.injEq, and_true]
      apply Array.ext_getElem?
      intro t
      rw [Array.getElem?_mapIdx, Array.getElem?_mapIdx]
      cases a0.tmps[t]? with
      | none => rfl
      | some v =>
        simp only [Option.map_some]
        cases ht : ownOf ops t with
        | none => rfl
        | some j => simp only [hall j (own_lt ht), if_true]
    rw [hc]
    refine fin f w hB (fun i ob ob' k hk hi => ?_) (fun i j hi hj => hJ i j (hall i hi) (hall j hj))
    obtain ⟨h1, -, h3⟩ := hN i ob ob' k hk (hall i hi)
    refine ⟨h1, h3.trans ?_⟩
    by_cases hkl : k < ops.size
    · rw [if_pos (hall k hkl), if_pos hkl]
    · have : l.getD k false = false := by rw [Array.getD_eq_getD_getElem?, Array.getElem?_eq_none (by omega)]; rfl
      rw [this, if_neg hkl]; rfl
theorem does_call {o : Oper} {A : Act} {w : World} {F : FuncId} {args : Array Value} {R : Value → World → Prop}
    (hx : (execOp A.eval o).run P w = .ok (.enter F args) w) (hc : Calls P F args w fun e w' => ∃ v, e = .returned v ∧ R v w') : Does P o A w R := by
  intro Q K hK
  unfold Oper.wp
  rw [hx]
  refine hc.mono ?_
  rintro e w' ⟨v, rfl, h⟩
  exact hK v w' h
theorem does_value {o : Oper} {A : Act} {w w' : World} {v : Value} {R : Value → World → Prop} (hx : (execOp A.eval o).run P w = .ok (.value v) w') (h : R v w') : Does P o A w R := by
  intro Q K hK
  unfold Oper.wp
  rw [hx]
  exact hK v w' h
theorem does_skip {o : Oper} {A : Act} {w w' : World} {R : Value → World → Prop} (hx : (execOp A.eval o).run P w = .ok .skip w') (h : R undef w') : Does P o A w R := by
  intro Q K hK
  unfold Oper.wp
  rw [hx]
  exact hK undef w' h
def puts (l : List (Option Tmp × Value)) (a : Act) : Act := l.foldl (fun a p => a.put p.1 p.2) a
def upto (n k : Nat) : Array Bool := (Array.range n).map fun i => decide (i < k)
theorem upto_getD (n k j : Nat) : (upto n k).getD j false = (decide (j < n) && decide (j < k)) := by
  unfold upto
  rw [Array.getD_eq_getD_getElem?, Array.getElem?_map]
  by_cases h : j < n
  · rw [Array.getElem?_range, if_pos h]; simp [h]
  · rw [Array.getElem?_range, if_neg h]; simp [h]
theorem canon_same (l l' : Array Bool) (f : Nat → Nat) (h : ∀ j, j < ops.size → l.getD j false = l'.getD j false) : canon ops kind a0 l f = canon ops kind a0 l' f := by
  unfold canon
  simp only [Act.mk.injEq, and_true]
  apply Array.ext_getElem?
  intro t
  rw [Array.getElem?_mapIdx, Array.getElem?_mapIdx]
  cases a0.tmps[t]? with
  | none => rfl
  | some v =>
    simp only [Option.map_some]
    cases ht : ownOf ops t with
    | none => rfl
    | some j => simp only [h j (own_lt ht)]
theorem canon_upto (h : okOps ops a0 md uses = true) (f : Nat → Nat) : ∀ k, k ≤ ops.size → canon ops kind a0 (upto ops.size k) f = puts ((List.range k).map fun i => ((ops[i]?).bind (·.dst), vl kind f i)) a0 := by
  intro k
  induction k with
  | zero =>
    intro _
    unfold canon puts
    simp only [List.range_zero, List.map_nil, List.foldl_nil]
    cases a0
    simp only [Act.mk.injEq, and_true]
    apply Array.ext_getElem?
    intro t
    rw [Array.getElem?_mapIdx]
    rename_i tm _
    cases tm[t]? with
    | none => rfl
    | some v =>
      simp only [Option.map_some]
      cases ownOf ops t with
      | none => rfl
      | some j => simp only [upto_getD, Nat.not_lt_zero, decide_false, Bool.and_false]; rfl
  | succ k ih =>
    intro hk
    have hs : (upto ops.size k).size = ops.size := by simp [upto]
    rw [List.range_succ, List.map_append]
    unfold puts
    rw [List.foldl_append]
    have ih' := ih (by omega)
    unfold puts at ih'
    rw [← ih']
    have ho : ops[k]? = some ops[k] := Array.getElem?_eq_getElem (by omega)
    simp only [List.map_cons, List.map_nil, List.foldl_cons, List.foldl_nil, ho, Option.bind_some]
    rw [canon_put h ho (upto ops.size k) (by omega) f f (fun _ _ => rfl) (.inr (by rw [upto_getD]; simp))]
    refine canon_same _ _ f fun j hj => ?_
    rw [getD_set _ _ _ (by omega), upto_getD, upto_getD]
    by_cases e : j = k
    · subst e; simp [hj]
    · rw [if_neg e]
      have : decide (j < k) = decide (j < k + 1) := by rw [Bool.eq_iff_iff]; simp; omega
      rw [this]
def lastOk (ops : Array Oper) (md : Region.Mode) : Bool := match ops[ops.size - 1]? with
  | none => false
  | some o => o.dst.isNone && (List.range (ops.size - 1)).all fun j => o.after.toList.any fun e => e.on == j && Region.binds md e
theorem pool_last (hok : okOps ops a0 md uses = true) (hG : okG ops kind md = true) (hdag : dag ops = true) (hlast : lastOk ops md = true) (W0 : World)
    (hkk : ∀ j ob ob' k, kind j = .new ob ob' k → k < ops.size → kind k = .put j)
    (hob : ∀ i, i < ops.size - 1 → Ob P ops kind uses a0 W0 i)
    (fin : ∀ (f : Nat → Nat) (A : Act) (w : World) (o : Oper), ops[ops.size - 1]? = some o → (∀ t ∈ uses (ops.size - 1), A.eval (.tmp t) = look ops kind a0 f (ops.size - 1) t) → Below W0.heap.size W0 w →
      (∀ i ob ob' k, kind i = .new ob ob' k → i < ops.size - 1 → W0.heap.size ≤ f i ∧ w.heap[f i]? = some (if k < ops.size - 1 then ob' else ob)) →
      Does P o A w fun _ w' => Q .normal (puts ((List.range (ops.size - 1)).map fun i => ((ops[i]?).bind (·.dst), vl kind f i)) a0) w') :
    wpAny P md ops Q ops.size (Array.replicate ops.size false) a0 W0 := by
  have hpos : 0 < ops.size := by
    by_cases hx : 0 < ops.size
    · exact hx
    · unfold lastOk at hlast
      rw [Array.getElem?_eq_none (by omega)] at hlast; cases hlast
  obtain ⟨ol, hol⟩ : ∃ o, ops[ops.size - 1]? = some o := ⟨_, Array.getElem?_eq_getElem (by omega)⟩
  unfold lastOk at hlast
  rw [hol] at hlast
  simp only [Bool.and_eq_true] at hlast
  obtain ⟨hld, hle⟩ := hlast
  have hld : ol.dst = none := by simpa using hld
  refine any_inv (fun l a w => l.size = ops.size ∧ ((l.getD (ops.size - 1) false = false ∧ PInv md ops kind a0 W0 l a w) ∨ ((∀ i, i < ops.size → l.getD i false = true) ∧ Q .normal a w))) ?fin ?step _ _ _ _ ?cnt ?start
  case cnt => simp
  case start =>
    refine ⟨by simp, .inl ⟨?_, pinv_start W0⟩⟩
    rw [Array.getD_eq_getD_getElem?, Array.getElem?_replicate]; split <;> rfl
  case fin =>
    rintro l a w ⟨hs, h | h⟩ hr
    · have := all_listed hdag l hs hr ops.size (ops.size - 1) (by omega) (by omega)
      rw [h.1] at this; cases this
    · exact h.2
  case step =>
    rintro l a w i ⟨hs, h | h⟩ hi
    · obtain ⟨hsf, hI⟩ := h
      obtain ⟨hil, hif, -, o, ho, hedge⟩ := ready_get hi
      have hiz : i < ops.size := (Array.getElem?_eq_some_iff.1 ho).1
      by_cases e : i = ops.size - 1
      · subst e
        rw [hol] at ho; cases ho
        have hall : ∀ j, j < ops.size - 1 → l.getD j false = true := fun j hj => by
          rw [List.all_eq_true] at hle
          have h1 := hle j (List.mem_range.2 hj)
          simp only [List.any_eq_true, Bool.and_eq_true] at h1
          obtain ⟨e, he, h2, h3⟩ := h1
          have h2 : e.on = j := by simpa using h2
          exact h2 ▸ hedge e he h3
        obtain ⟨-, f, rfl, hB, hN, -, -, hC⟩ := hI
        obtain ⟨hdst, huse⟩ := okOps_at hok hol
        have hA : ∀ t ∈ uses (ops.size - 1), (canon ops kind a0 l f).eval (.tmp t) = look ops kind a0 f (ops.size - 1) t := fun t ht => canon_tmp l f (ops.size - 1) t fun j hj => by
          refine ⟨?_, ?_⟩
          · rcases huse t ht j hj with ⟨hji, e, he, h1, h2⟩ | hji | ⟨hji, oj, hoj, e, he, h1, h2⟩
            · rw [decide_eq_true hji]
              exact h1 ▸ hedge e he h2
            · subst hji
              rw [hif]; simp
            · have := (Array.getElem?_eq_some_iff.1 hoj).1
              omega
          have h3 := own_dst hj
          cases h4 : ops[j]? with
          | none => rw [h4] at h3; cases h3
          | some o2 =>
            rw [h4] at h3
            exact ((okOps_at hok h4).1 t h3).2
        have hw := wanted_of (kind := kind) hok hG hol l f hedge
        unfold wpOp
        simp only [hol, hw, if_true]
        left
        refine fin f _ w ol hol hA hB (fun j ob ob' k hk hj => ?_) _ _ ?_
        · obtain ⟨h1, -, h3⟩ := hN j ob ob' k hk (hall j hj)
          refine ⟨h1, h3.trans ?_⟩
          by_cases hkl : k < ops.size - 1
          · rw [if_pos (hall k hkl), if_pos hkl]
          · have : l.getD k false = false := by
              by_cases hks : k = ops.size - 1
              · rw [hks]; exact hsf
              · rw [Array.getD_eq_getD_getElem?, Array.getElem?_eq_none (by omega)]; rfl
            rw [this, if_neg hkl]; rfl
        · rintro v w' hQ
          refine ⟨by simpa using hs, .inr ⟨fun j hj => ?_, ?_⟩⟩
          · rw [getD_set l _ j hil]
            by_cases ej : j = ops.size - 1
            · rw [if_pos ej]
            · rw [if_neg ej]; exact hall j (by omega)
          · rw [hld]
            show Q .normal (canon ops kind a0 l f) w'
            rw [canon_same l (upto ops.size (ops.size - 1)) f (fun j hj => by
              rw [upto_getD]
              by_cases ej : j = ops.size - 1
              · rw [ej, hsf]; simp
              · rw [hall j (by omega)]
                have : j < ops.size - 1 := by omega
                simp [hj, this]), canon_upto hok f _ (by omega)]
            exact hQ
      · refine wpOp_mono (fun a w hI' => ?_) (pinv_step hok hG hkk (hob i (by omega)) hI hi)
        refine ⟨by simpa using hs, .inl ⟨?_, hI'⟩⟩
        rw [getD_set l i _ hil, if_neg (Ne.symm e)]; exact hsf
    · obtain ⟨hil, hif, -, -⟩ := ready_get hi
      have := h.1 i (by omega)
      rw [hif] at this; cases this
theorem canonAll_puts (h : okOps ops a0 md uses = true) (f : Nat → Nat) : canonAll ops kind a0 f = puts ((List.range ops.size).map fun i => ((ops[i]?).bind (·.dst), vl kind f i)) a0 := by
  rw [← canon_upto h f ops.size (Nat.le_refl _)]
  unfold canon canonAll
  simp only [Act.mk.injEq, and_true]
  apply Array.ext_getElem?
  intro t
  rw [Array.getElem?_mapIdx, Array.getElem?_mapIdx]
  cases a0.tmps[t]? with
  | none => rfl
  | some v =>
    simp only [Option.map_some]
    cases ht : ownOf ops t with
    | none => rfl
    | some j => simp only [upto_getD, own_lt ht, decide_true, Bool.and_true, if_true]
def kindOf (kinds : List Knd) (i : Nat) : Knd := kinds.getD i (.put i)
def usesOf (us : List (List Nat)) (i : Nat) : List Nat := us.getD i []
def okK (kinds : List Knd) (n : Nat) : Bool := (List.range kinds.length).all fun j => match kindOf kinds j with
  | .new _ _ k => if k < n then (match kindOf kinds k with
    | .put j' => j' == j
    | _ => false) else true
  | _ => true
theorem okK_is {kinds : List Knd} {n : Nat} (h : okK kinds n = true) : ∀ j ob ob' k, kindOf kinds j = .new ob ob' k → k < n → kindOf kinds k = .put j := by
  intro j ob ob' k hj hk
  have hl : j < kinds.length := by
    by_cases hx : j < kinds.length
    · exact hx
    · unfold kindOf at hj
      rw [List.getD_eq_getElem?_getD, List.getElem?_eq_none (by omega)] at hj
      cases hj
  unfold okK at h
  rw [List.all_eq_true] at h
  have h1 := h j (List.mem_range.2 hl)
  rw [hj] at h1
  simp only [if_pos hk] at h1
  cases h2 : kindOf kinds k with
  | val v => rw [h2] at h1; cases h1
  | new _ _ _ => rw [h2] at h1; cases h1
  | put j' =>
    rw [h2] at h1
    simp at h1
    rw [h1]
def Evs (A : Act) : List (Nat × Value) → Prop
  | [] => True
  | (t, v) :: r => A.eval (.tmp t) = v ∧ Evs A r
theorem evs_of {A : Act} {g : Nat → Value} : ∀ l : List Nat, (∀ t ∈ l, A.eval (.tmp t) = g t) → Evs A (l.map fun t => (t, g t))
  | [], _ => trivial
  | t :: r, h => ⟨h t (by simp), evs_of r fun x hx => h x (by simp [hx])⟩
theorem ob_val {W0 : World} {i : Nat} {o : Oper} {v : Value} (ins : List (Nat × Value)) (ho : ops[i]? = some o) (hk : kind i = .val v) (hi : ∀ f, (uses i).map (fun t => (t, look ops kind a0 f i t)) = ins)
    (h : ∀ A w, Evs A ins → Below W0.heap.size W0 w → Does P o A w fun v' w' => v' = v ∧ Below w.heap.size w w') : Ob P ops kind uses a0 W0 i := by
  intro o' ho'
  rw [ho] at ho'
  cases ho'
  rw [hk]
  intro f A w hA hB _
  exact h A w (hi f ▸ evs_of _ hA) hB
theorem ob_use {W0 : World} {i : Nat} {o : Oper} {v : Value} (t j k : Nat) (ob : Obj) (ins : (Nat → Nat) → List (Nat × Value)) (ho : ops[i]? = some o) (hk : kind i = .val v) (ht : t ∈ uses i) (hown : ownOf ops t = some j) (hkj : kind j = .new ob ob k)
    (hi : ∀ f, (uses i).map (fun t => (t, look ops kind a0 f i t)) = ins f)
    (h : ∀ f A w, Evs A (ins f) → Below W0.heap.size W0 w → w.heap[f j]? = some ob → Does P o A w fun v' w' => v' = v ∧ Below w.heap.size w w') (hji : decide (j < i) = true := by decide) : Ob P ops kind uses a0 W0 i := by
  intro o' ho'
  rw [ho] at ho'
  cases ho'
  rw [hk]
  intro f A w hA hB hu
  exact h f A w (hi f ▸ evs_of _ hA) hB (hu t ht j hown (of_decide_eq_true hji) ob k hkj)
theorem ob_new {W0 : World} {i : Nat} {o : Oper} {ob ob' : Obj} {k : Nat} (ho : ops[i]? = some o) (hk : kind i = .new ob ob' k)
    (h : ∀ (A : Act) (w : World), Does P o A w fun v w' => v = .pointer (some ⟨w.heap.size, 0, none⟩) ∧ w' = w.alloc ob) (hk1 : decide (k < 1000) = true := by decide) : Ob P ops kind uses a0 W0 i := by
  intro o' ho'
  rw [ho] at ho'
  cases ho'
  rw [hk]
  intro f A w _
  have e : nv k w.heap.size = .pointer (some ⟨w.heap.size, 0, none⟩) := by unfold nv; rw [if_neg (by have := of_decide_eq_true hk1; omega)]
  rw [e]
  exact h A w
theorem ob_slc {W0 : World} {i : Nat} {o : Oper} {ob ob' : Obj} (n : Nat) (ins : List (Nat × Value)) (ho : ops[i]? = some o) (hk : kind i = .new ob ob' (1000 + n)) (hi : ∀ f, (uses i).map (fun t => (t, look ops kind a0 f i t)) = ins)
    (h : ∀ (A : Act) (w : World), Evs A ins → Does P o A w fun v w' => v = .slice (some ⟨w.heap.size, 0, none⟩) n n ∧ w' = w.alloc ob) : Ob P ops kind uses a0 W0 i := by
  intro o' ho'
  rw [ho] at ho'
  cases ho'
  rw [hk]
  intro f A w hA
  have e : nv (1000 + n) w.heap.size = .slice (some ⟨w.heap.size, 0, none⟩) n n := by unfold nv; rw [if_pos (by omega), show 1000 + n - 1000 = n by omega]
  rw [e]
  exact h A w (hi f ▸ evs_of _ hA)
theorem ob_put {W0 : World} {i j : Nat} {o : Oper} {ob ob' : Obj} (t : Nat) (ins : (Nat → Nat) → List (Nat × Value)) (ho : ops[i]? = some o) (hk : kind i = .put j) (hd : o.dst = none) (ht : t ∈ uses i) (hown : ownOf ops t = some j)
    (hkj : kind j = .new ob ob' i) (hi : ∀ f, (uses i).map (fun t => (t, look ops kind a0 f i t)) = ins f)
    (h : ∀ f A w, Evs A (ins f) → w.heap[f j]? = some ob → Does P o A w fun _ w' => Turned (f j) ob' w w') (hji : decide (j < i) = true := by decide) : Ob P ops kind uses a0 W0 i := by
  intro o' ho'
  rw [ho] at ho'
  cases ho'
  rw [hk]
  exact ⟨hd, ⟨t, ht, hown⟩, of_decide_eq_true hji, ob, ob', hkj, fun f A w hA hB hw => h f A w (hi f ▸ evs_of _ hA) hw⟩
theorem and_l {a b : Bool} (h : (a && b) = true) : a = true := (Bool.and_eq_true _ _ ▸ h).1
theorem and_r {a b : Bool} (h : (a && b) = true) : b = true := (Bool.and_eq_true _ _ ▸ h).2
theorem pool_list {id : Nat} {W : World} (kinds : List Knd) (us : List (List Nat)) (dl : (Nat → Nat) → List (Option Tmp × Value)) (hm : P.follows .mixedOrders = true) (hok : (okOps ops a0 .any (usesOf us) && okG ops (kindOf kinds) .any) = true) (hdag : dag ops = true) (hkk : okK kinds ops.size = true)
    (hdl : ∀ f, ((List.range ops.size).map fun i => ((ops[i]?).bind (·.dst), vl (kindOf kinds) f i)) = dl f)
    (hob : ∀ i, i < ops.size → Ob P ops (kindOf kinds) (usesOf us) a0 W.drew i)
    (fin : ∀ (f : Nat → Nat) (w : World), Below W.drew.heap.size W.drew w →
      (∀ i ob ob' k, kindOf kinds i = .new ob ob' k → i < ops.size → W.drew.heap.size ≤ f i ∧ w.heap[f i]? = some (if k < ops.size then ob' else ob)) →
      (∀ i j, i < ops.size → j < ops.size → i ≠ j → (∃ ob ob' k, kindOf kinds i = .new ob ob' k) → (∃ ob ob' k, kindOf kinds j = .new ob ob' k) → f i ≠ f j) →
      Q .normal (puts (dl f) a0) w) :
    (Code.region id ops true).wp P Q a0 W :=
  wp_region_any hm (pool_any (and_l hok) (and_r hok) hdag W.drew (okK_is hkk) hob fun f w h1 h2 h3 => by
    rw [canonAll_puts (and_l hok) f, hdl f]
    exact fin f w h1 h2 h3)
theorem pool_tail {id : Nat} {W : World} (kinds : List Knd) (us : List (List Nat)) (dl : (Nat → Nat) → List (Option Tmp × Value)) (ins : (Nat → Nat) → List (Nat × Value)) {ol : Oper} (hm : P.follows .mixedOrders = true) (hok : (okOps ops a0 .any (usesOf us) && okG ops (kindOf kinds) .any) = true) (hdag : dag ops = true) (hlast : lastOk ops .any = true) (hkk : okK kinds ops.size = true)
    (hdl : ∀ f, ((List.range (ops.size - 1)).map fun i => ((ops[i]?).bind (·.dst), vl (kindOf kinds) f i)) = dl f)
    (hob : ∀ i, i < ops.size - 1 → Ob P ops (kindOf kinds) (usesOf us) a0 W.drew i)
    (hol : ops[ops.size - 1]? = some ol)
    (hins : ∀ f, (usesOf us (ops.size - 1)).map (fun t => (t, look ops (kindOf kinds) a0 f (ops.size - 1) t)) = ins f)
    (fin : ∀ (f : Nat → Nat) (A : Act) (w : World), Evs A (ins f) → Below W.drew.heap.size W.drew w →
      (∀ i ob ob' k, kindOf kinds i = .new ob ob' k → i < ops.size - 1 → W.drew.heap.size ≤ f i ∧ w.heap[f i]? = some (if k < ops.size - 1 then ob' else ob)) →
      Does P ol A w fun _ w' => Q .normal (puts (dl f) a0) w') :
    (Code.region id ops true).wp P Q a0 W :=
  wp_region_any hm (pool_last (and_l hok) (and_r hok) hdag hlast W.drew (okK_is hkk) hob fun f A w o ho hA hB hN => by
    rw [hol] at ho
    cases ho
    rw [hdl f]
    exact fin f A w (hins f ▸ evs_of _ hA) hB hN)
end
end Go.Proofs.YtdaobioomoajfaaGreat
namespace Go.Proofs.YtdaobioomoajfaaGreat
open Go.RowKit M
theorem redP_of (n c : Int) (w : World) (h0 : 0 ≤ n) (hc : n.tmod 2305843009213693951 = c) :
    Calls Tryz.prog 90 #[.int .u64 n, .agg #[]] w fun e w' => e = .returned (.agg #[.int .u64 c]) ∧ Below w.heap.size w w' := by
  have hm := methP
  have hf := foldP
  have V := valP
  go_enter Tryz.func90, Tryz.ntmps90
  go_wp2
  go_region_held3 (fun _ => True) (trivial) ((go_simp; go_at_call 118; refine (V _).mono ?_; rintro e w' ⟨rfl, rfl⟩))
  go_wp2
  refine bodyPost_ret (v := .agg #[.int .u64 c]) (by simp [results, Tryz.results90, go_sem]) rfl ⟨rfl, ?_⟩
  exact ((((Below.refl _ w).alloc (Nat.le_refl _) _).alloc (by simp) _).alloc (by simp; omega) _).drew
theorem fv_ge (x : Fp) : 0 ≤ fv x := by unfold fv; omega
theorem fv_lt (x : Fp) : fv x < 2305843009213693951 := by have := val_lt x; unfold fv; omega
theorem rdV (x : Fp) (w : World) :
    Calls Tryz.prog 90 #[.int .u64 (fv x), .agg #[]] w fun e w' => e = .returned (.agg #[.int .u64 (fv x)]) ∧ Below w.heap.size w w' :=
  redP_of _ _ w (fv_ge x) (Int.tmod_eq_of_lt (fv_ge x) (fv_lt x))
theorem rd3 (w : World) : Calls Tryz.prog 90 #[.int .u64 3, .agg #[]] w fun e w' => e = .returned (.agg #[.int .u64 (fv 3)]) ∧ Below w.heap.size w w' := rdV 3 w
theorem rd111 (w : World) : Calls Tryz.prog 90 #[.int .u64 111, .agg #[]] w fun e w' => e = .returned (.agg #[.int .u64 (fv 111)]) ∧ Below w.heap.size w w' := rdV 111 w
theorem tmV (a b : Fp) (w : World) :
    Calls Tryz.prog 85 #[.agg #[.int .u64 (fv a)], .agg #[.int .u64 (fv b)]] w fun e w' => e = .returned (.agg #[.int .u64 (fv (a * b))]) ∧ Below w.heap.size w w' := by
  have := timP_any a.val b.val w (val_lt a) (val_lt b)
  rw [← Fin.val_mul] at this
  exact this
theorem fv_sub (a b : Fp) : fv (a - b) = if fv a < fv b then fv a - fv b + 2305843009213693951 else fv a - fv b := by
  have ha := val_lt a
  have hb := val_lt b
  unfold fv
  rw [Fin.val_sub]
  generalize a.val = A at *
  generalize b.val = B at *
  split <;> omega
theorem mnV (a b : Fp) (w : World) :
    Calls Tryz.prog 89 #[.agg #[.int .u64 (fv a)], .agg #[.int .u64 (fv b)]] w fun e w' => e = .returned (.agg #[.int .u64 (fv (a - b))]) ∧ Below w.heap.size w w' :=
  mnP_any (fv a) (fv b) (fv (a - b)) w (fv_ge a) (fv_lt a) (fv_ge b) (fv_lt b) (fv_sub a b)
theorem ngV (a : Fp) (w : World) :
    Calls Tryz.prog 93 #[.agg #[.int .u64 (fv a)]] w fun e w' => e = .returned (.agg #[.int .u64 (fv (0 - a))]) ∧ Below w.heap.size w w' :=
  ngP_of (fv a) (fv (0 - a)) w (fun w => mnV 0 a w)
theorem plV (a b : Fp) (w : World) :
    Calls Tryz.prog 91 #[.agg #[.int .u64 (fv a)], .agg #[.int .u64 (fv b)]] w fun e w' => e = .returned (.agg #[.int .u64 (fv (a + b))]) ∧ Below w.heap.size w w' := by
  have := plP_of (fv a) (fv b) (fv (0 - b)) (fv (a - (0 - b))) w (ngV b) (mnV a (0 - b))
  rwa [show a - (0 - b) = a + b by grobner] at this
end Go.Proofs.YtdaobioomoajfaaGreat
namespace Go.Proofs.YtdaobioomoajfaaGreat
open Go.RowKit M
section
variable {ev : Operand → Value} {w : World} {dst : Option Tmp} {ty : TypeId} {ps : String} {af : Array Edge} {gd : Option (Nat × Bool)} {x y : Operand} {b i : Nat}
theorem exec_call1 {F : FuncId} {at_ : Array TypeId} {u : Value} (hF : ev (.func F) = .func (.func F) #[] #[]) (hcf : ∀ (args : Array Value) (w : World), (callFunc F args).run Tryz.prog w = .ok (.enter F args) w) (hx : ev x = u) :
    (execOp ev { dst := dst, op := .call { callee := .value (.func F), args := #[x], argTypes := at_ }, type := ty, pos := ps, after := af, guard := gd }).run Tryz.prog w = .ok (.enter F #[u]) w := by
  simp [execOp, hx, hF, hcf, go_sem]
theorem exec_call2 {F : FuncId} {at_ : Array TypeId} {u v : Value} (hF : ev (.func F) = .func (.func F) #[] #[]) (hcf : ∀ (args : Array Value) (w : World), (callFunc F args).run Tryz.prog w = .ok (.enter F args) w) (hx : ev x = u) (hy : ev y = v) :
    (execOp ev { dst := dst, op := .call { callee := .value (.func F), args := #[x, y], argTypes := at_ }, type := ty, pos := ps, after := af, guard := gd }).run Tryz.prog w = .ok (.enter F #[u, v]) w := by
  simp [execOp, hx, hy, hF, hcf, go_sem]
theorem exec_loadN {z : Int} (hx : ev x = .pointer (some ⟨b, i, none⟩)) (hc : w.cell? ⟨b, i, none⟩ = some (.int .u64 z)) :
    (execOp ev { dst := dst, op := .load 124 x, type := ty, pos := ps, after := af, guard := gd }).run Tryz.prog w = .ok (.value (.agg #[.int .u64 z])) w := by
  simp [execOp, hx, hc, go_sem]
theorem exec_load0 (hx : ev x = .pointer (some ⟨b, i, none⟩)) :
    (execOp ev { dst := dst, op := .load 122 x, type := ty, pos := ps, after := af, guard := gd }).run Tryz.prog w = .ok (.value (.agg #[])) w := by
  simp [execOp, hx, go_sem]
theorem exec_store {z z0 : Int} (hx : ev x = .pointer (some ⟨b, 0, none⟩)) (hy : ev y = .agg #[.int .u64 z]) (hr : R1 w b z0) :
    (execOp ev { dst := dst, op := .store 124 x y, type := ty, pos := ps, after := af, guard := gd }).run Tryz.prog w = .ok .skip (w.setCell ⟨b, 0, none⟩ (.int .u64 z)) := by
  have h1 := hr.cell
  have h2 := hr.frz
  simp [execOp, hx, hy, h1, h2, go_sem]
theorem cf_times (args : Array Value) (w : World) : (callFunc 85 args).run Tryz.prog w = .ok (.enter 85 args) w := by kernel_rfl
theorem cf_minus (args : Array Value) (w : World) : (callFunc 89 args).run Tryz.prog w = .ok (.enter 89 args) w := by kernel_rfl
theorem cf_plus (args : Array Value) (w : World) : (callFunc 91 args).run Tryz.prog w = .ok (.enter 91 args) w := by kernel_rfl
theorem cf_reduced (args : Array Value) (w : World) : (callFunc 90 args).run Tryz.prog w = .ok (.enter 90 args) w := by kernel_rfl
end
section
variable {A : Act} {w W0 : World} {dst : Option Tmp} {ty : TypeId} {ps : String} {af : Array Edge} {gd : Option (Nat × Bool)} {x y x3 x4 : Operand} {b i : Nat}
theorem do_call1 {F : FuncId} {at_ : Array TypeId} {u r : Value} (hcf : ∀ (args : Array Value) (w : World), (callFunc F args).run Tryz.prog w = .ok (.enter F args) w) (hx : A.eval x = u)
    (hc : Calls Tryz.prog F #[u] w fun e w' => e = .returned r ∧ Below w.heap.size w w') :
    Does Tryz.prog { dst := dst, op := .call { callee := .value (.func F), args := #[x], argTypes := at_ }, type := ty, pos := ps, after := af, guard := gd } A w fun v' w' => v' = r ∧ Below w.heap.size w w' :=
  does_call (exec_call1 rfl hcf hx) (hc.mono fun _ _ ⟨h, h'⟩ => ⟨r, h, rfl, h'⟩)
theorem do_call2 {F : FuncId} {at_ : Array TypeId} {u v r : Value} (hcf : ∀ (args : Array Value) (w : World), (callFunc F args).run Tryz.prog w = .ok (.enter F args) w) (hx : A.eval x = u) (hy : A.eval y = v)
    (hc : Calls Tryz.prog F #[u, v] w fun e w' => e = .returned r ∧ Below w.heap.size w w') :
    Does Tryz.prog { dst := dst, op := .call { callee := .value (.func F), args := #[x, y], argTypes := at_ }, type := ty, pos := ps, after := af, guard := gd } A w fun v' w' => v' = r ∧ Below w.heap.size w w' :=
  does_call (exec_call2 rfl hcf hx hy) (hc.mono fun _ _ ⟨h, h'⟩ => ⟨r, h, rfl, h'⟩)
theorem do_loadN {z : Int} (hx : A.eval x = .pointer (some ⟨b, 0, none⟩)) (hr : R1 W0 b z) (hB : Below W0.heap.size W0 w) :
    Does Tryz.prog { dst := dst, op := .load 124 x, type := ty, pos := ps, after := af, guard := gd } A w fun v' w' => v' = .agg #[.int .u64 z] ∧ Below w.heap.size w w' :=
  does_value (exec_loadN hx (hr.keep hB).cell) ⟨rfl, Below.refl _ _⟩
theorem do_load0 (hx : A.eval x = .pointer (some ⟨b, i, none⟩)) :
    Does Tryz.prog { dst := dst, op := .load 122 x, type := ty, pos := ps, after := af, guard := gd } A w fun v' w' => v' = .agg #[] ∧ Below w.heap.size w w' :=
  does_value (exec_load0 hx) ⟨rfl, Below.refl _ _⟩
end
end Go.Proofs.YtdaobioomoajfaaGreat
namespace Go.Proofs.YtdaobioomoajfaaGreat
open Go.RowKit M
theorem zpP (w : World) : Calls Tryz.prog 83 #[] w fun e w' => e = .returned (.agg #[.int .u64 0, .int .u64 0, .bool true]) ∧ Below w.heap.size w w' := by
  go_enter Tryz.func83, Tryz.ntmps83
  go_wp2
  refine bodyPost_ret (v := .agg #[.int .u64 0, .int .u64 0, .bool true]) (by simp [results, Tryz.results83, go_sem]) rfl ⟨rfl, ?_⟩
  exact (Below.refl _ w).alloc (Nat.le_refl _) _
end Go.Proofs.YtdaobioomoajfaaGreat
