import Derived.Test.YtdaobioomoajfaaGreatMrg17
import Derived.Test.YtdaobioomoajfaaGreatMrg16
set_option linter.unusedVariables false
set_option maxRecDepth 100000
set_option maxHeartbeats 16000000
namespace Go.Proofs.YtdaobioomoajfaaGreat
open Go.RowKit
def edge (ops : Array Oper) (md : Region.Mode) (v j : Nat) : Bool := match ops[v]? with
  | none => false
  | some o => o.after.toList.any fun e => e.on == j && Region.binds md e
def preT (ops : Array Oper) (md : Region.Mode) (m : Nat) : Bool := ((List.range m).all fun j => (List.range (m + 1)).any fun v => decide (j < v) && edge ops md v j) &&
  (List.range ops.size).all fun i => decide (i ≤ m) || (List.range i).any fun v => decide (m ≤ v) && edge ops md i v
theorem edge_listed {ops : Array Oper} {md : Region.Mode} {l : Array Bool} {v j : Nat} (h : edge ops md v j = true) (hd : ∀ o, ops[v]? = some o → ∀ e ∈ o.after.toList, Region.binds md e = true → l.getD e.on false = true) : l.getD j false = true := by
  unfold edge at h
  cases hv : ops[v]? with
  | none => rw [hv] at h; cases h
  | some o =>
    rw [hv] at h
    simp only [List.any_eq_true, Bool.and_eq_true] at h
    obtain ⟨e, he, h1, h2⟩ := h
    have h3 : e.on = j := by simpa using h1
    exact h3 ▸ hd o hv e he h2
theorem preT_lt {ops : Array Oper} {md : Region.Mode} {m i : Nat} (h : preT ops md m = true) {l : Array Bool} (hi : i ∈ Region.ready md ops l)
    (hC : ∀ j oj, ops[j]? = some oj → l.getD j false = true → ∀ e ∈ oj.after.toList, Region.binds md e = true → l.getD e.on false = true)
    (hb : ∀ j, m ≤ j → l.getD j false = false) (hn : ¬ ∀ j, j < m → l.getD j false = true) : i < m := by
  obtain ⟨h1, -, -, o, ho, hedge⟩ := ready_get hi
  by_cases hl : i < m
  · exact hl
  exfalso
  unfold preT at h
  rw [Bool.and_eq_true, List.all_eq_true, List.all_eq_true] at h
  obtain ⟨hA, hB⟩ := h
  have hEi : ∀ o', ops[i]? = some o' → ∀ e ∈ o'.after.toList, Region.binds md e = true → l.getD e.on false = true := fun o' ho' => by rw [ho] at ho'; cases ho'; exact hedge
  by_cases him : i = m
  · subst him
    apply hn
    suffices ∀ d j, i - j ≤ d → j < i → l.getD j false = true from fun j hj => this (i - j) j (Nat.le_refl _) hj
    intro d
    induction d with
    | zero => intro j h h'; omega
    | succ d ih =>
      intro j hd hj
      have h2 := hA j (List.mem_range.2 hj)
      rw [List.any_eq_true] at h2
      obtain ⟨v, hv, h3⟩ := h2
      rw [Bool.and_eq_true, decide_eq_true_eq] at h3
      have hv' := List.mem_range.1 hv
      by_cases hvi : v = i
      · subst hvi; exact edge_listed h3.2 hEi
      · exact edge_listed h3.2 (fun o' ho' => hC v o' ho' (ih v (by omega) (by omega)))
  · have h2 := hB i (List.mem_range.2 (Array.getElem?_eq_some_iff.1 ho).1)
    rw [decide_eq_false (by omega), Bool.false_or, List.any_eq_true] at h2
    obtain ⟨v, hv, h3⟩ := h2
    rw [Bool.and_eq_true, decide_eq_true_eq] at h3
    have h4 := edge_listed h3.2 hEi
    rw [hb v h3.1] at h4
    cases h4
section
variable {P : Program} {ops : Array Oper} {Q : Exit → Act → World → Prop} {md : Region.Mode}
theorem pool_prT {id : Nat} {W : World} {a0 : Act} (m : Nat) (kinds : List Knd) (us : List (List Nat)) (dl : (Nat → Nat) → List (Option Tmp × Value)) (hm : P.follows .mixedOrders = true) (hok : (okOps ops a0 .any (usesOf us) && okG ops (kindOf kinds) .any) = true) (hdag : dag ops = true) (hkk : okK kinds ops.size = true) (hmn : decide (m < ops.size) = true) (hpre : preT ops .any m = true)
    (hdl : ∀ f, ((List.range m).map fun i => ((ops[i]?).bind (·.dst), vl (kindOf kinds) f i)) = dl f)
    (hob : ∀ i, i < m → Ob P ops (kindOf kinds) (usesOf us) a0 W.drew i)
    (fin : ∀ (f : Nat → Nat) (w : World), Below W.drew.heap.size W.drew w →
      (∀ i ob ob' k, kindOf kinds i = .new ob ob' k → i < m → W.drew.heap.size ≤ f i ∧ w.heap[f i]? = some (if k < m then ob' else ob)) →
      ∀ fuel, ops.size - m ≤ fuel → wpAny P .any ops Q fuel (upto ops.size m) (puts (dl f) a0) w) :
    (Code.region id ops true).wp P Q a0 W := by
  have hmn' := of_decide_eq_true hmn
  refine wp_region_any hm ?_
  refine any_until m (fun l a w => (∀ j, m ≤ j → l.getD j false = false) ∧ PInv .any ops (kindOf kinds) a0 W.drew l a w) ?_ ?_ ?_ _ _ _ _ ?_ ?_
  · rintro fuel l a w ⟨h1, hs, f, rfl, hB, hN, -, -, -⟩ h2 hc
    obtain rfl := upto_eq hs h2 h1
    rw [count_upto _ _ (by omega)] at hc
    rw [canon_upto (and_l hok) f m (by omega), hdl f]
    refine fin f w hB (fun i ob ob' k hk hi => ?_) fuel hc
    obtain ⟨g1, -, g3⟩ := hN i ob ob' k hk (h2 i hi)
    refine ⟨g1, g3.trans ?_⟩
    by_cases hkm : k < m
    · rw [if_pos (h2 k hkm), if_pos hkm]
    · rw [h1 k (by omega), if_neg hkm]; rfl
  · rintro l a w ⟨h1, hs, -⟩ hn hr
    have := all_listed hdag l hs hr (m + 1) m (by omega) (by omega)
    rw [h1 m (Nat.le_refl _)] at this; cases this
  · rintro l a w i ⟨h1, hI⟩ hn hi
    have hC := hI
    obtain ⟨-, -, -, -, -, -, -, hC⟩ := hC
    have him := preT_lt hpre hi hC h1 hn
    refine wpOp_mono (fun a w h => ⟨fun j hj => ?_, h⟩) (pinv_step (and_l hok) (and_r hok) (okK_is hkk) (hob i him) hI hi)
    obtain ⟨hil, -⟩ := ready_get hi
    rw [getD_set l i j hil, if_neg (by omega)]
    exact h1 j hj
  · simp
  · exact ⟨fun j _ => by rw [Array.getD_eq_getD_getElem?, Array.getElem?_replicate]; split <;> rfl, pinv_start _⟩
theorem last_do2 {fuel : Nat} {l : Array Bool} {A : Act} {w : World} (p q : Nat) {op oq : Oper} (hf : 2 ≤ fuel)
    (hr : Region.ready md ops l = [p]) (hrp : Region.ready md ops (l.setIfInBounds p true) = [q])
    (hpq : Region.ready md ops ((l.setIfInBounds p true).setIfInBounds q true) = [])
    (hop : ops[p]? = some op) (hgp : op.guard = none) (hoq : ops[q]? = some oq) (hgq : oq.guard = none) {R : Value → World → Prop}
    (dp : Does P op A w R) (fq : ∀ v w', R v w' → Does P oq (A.put op.dst v) w' fun v2 w2 => Q .normal ((A.put op.dst v).put oq.dst v2) w2) : wpAny P md ops Q fuel l A w := by
  obtain ⟨n, rfl⟩ : ∃ n, fuel = n + 1 + 1 := ⟨fuel - 2, by omega⟩
  refine ⟨fun h => (by rw [hr] at h; cases h), fun i hi => ?_⟩
  rw [hr] at hi
  obtain rfl := List.mem_singleton.1 hi
  refine op_go hop hgp dp ?_
  intro v w' hv
  refine ⟨fun h => (by rw [hrp] at h; cases h), fun i hi => ?_⟩
  rw [hrp] at hi
  obtain rfl := List.mem_singleton.1 hi
  refine op_go hoq hgq (fq v w' hv) ?_
  intro v2 w2 h2
  cases n with
  | zero => exact ⟨hpq, h2⟩
  | succ n => exact ⟨fun _ => h2, fun i hi => by rw [hpq] at hi; cases hi⟩
theorem last_do1 {fuel : Nat} {l : Array Bool} {A : Act} {w : World} (p : Nat) {op : Oper} (hf : 1 ≤ fuel)
    (hr : Region.ready md ops l = [p]) (hrp : Region.ready md ops (l.setIfInBounds p true) = [])
    (hop : ops[p]? = some op) (hgp : op.guard = none)
    (dp : Does P op A w fun v w' => Q .normal (A.put op.dst v) w') : wpAny P md ops Q fuel l A w := by
  obtain ⟨n, rfl⟩ : ∃ n, fuel = n + 1 := ⟨fuel - 1, by omega⟩
  refine ⟨fun h => (by rw [hr] at h; cases h), fun i hi => ?_⟩
  rw [hr] at hi
  obtain rfl := List.mem_singleton.1 hi
  refine op_go hop hgp dp ?_
  intro v2 w2 h2
  cases n with
  | zero => exact ⟨hrp, h2⟩
  | succ n => exact ⟨fun _ => h2, fun i hi => by rw [hrp] at hi; cases hi⟩
end
end Go.Proofs.YtdaobioomoajfaaGreat
namespace Go.Proofs.YtdaobioomoajfaaGreat.G
open Go.RowKit
inductive Knd where
  | val (v : Value)
  | new (o o' : Obj) (k : Nat)
  | put (j : Nat)
  | got (F : Nat → Value) (R : Nat → World → Prop)
  | set (b : Nat) (o o' : Obj)
structure Sides (S : List Nat) (W0 w : World) : Prop where
  os : w.os = W0.os
  tape : w.tape = W0.tape
  output : w.output = W0.output
  size : W0.heap.size ≤ w.heap.size
  block : ∀ k, k < W0.heap.size → k ∉ S → w.heap[k]? = W0.heap[k]?
theorem Sides.refl (S : List Nat) (W : World) : Sides S W W := ⟨rfl, rfl, rfl, Nat.le_refl _, fun _ _ _ => rfl⟩
theorem Sides.step {S : List Nat} {W0 w w' : World} (h : Sides S W0 w) (hb : Below w.heap.size w w') : Sides S W0 w' :=
  ⟨hb.os.trans h.os, hb.tape.trans h.tape, hb.output.trans h.output, Nat.le_trans h.size hb.size, fun k hk hn => (hb.block k (Nat.lt_of_lt_of_le hk h.size)).trans (h.block k hk hn)⟩
theorem Sides.turn {S : List Nat} {W0 w w' : World} {b : Nat} {o : Obj} (h : Sides S W0 w) (hT : Turned b o w w') (hb : W0.heap.size ≤ b ∨ b ∈ S) : Sides S W0 w' :=
  ⟨hT.os.trans h.os, hT.tape.trans h.tape, hT.output.trans h.output, by rw [hT.size]; exact h.size, fun k hk hn => (hT.other k (fun e => by
    subst e
    rcases hb with hb | hb
    · omega
    · exact hn hb)).trans (h.block k hk hn)⟩
theorem Sides.below {W0 w : World} (h : Sides [] W0 w) : Below W0.heap.size W0 w := ⟨h.os, h.tape, h.output, h.size, fun k hk => h.block k hk (by simp)⟩
theorem Sides.cell {S : List Nat} {W0 w : World} (h : Sides S W0 w) {p : Addr} {v : Value} (hc : W0.cell? p = some v) (hn : p.block ∉ S) : w.cell? p = some v := by
  have hl : p.block < W0.heap.size := World.block_lt_of_cell? W0 _ hc
  rw [← hc]; unfold World.cell?; rw [h.block _ hl hn]
structure Lasts (R : Nat → World → Prop) (obs : List Obj) : Prop where
  below : ∀ x w w', R x w → Below w.heap.size w w' → R x w'
  turned : ∀ x w w' b ob ob', R x w → ob ∈ obs → w.heap[b]? = some ob → Turned b ob' w w' → R x w'
section
variable (ops : Array Oper) (kind : Nat → Knd) (a0 : Act)
def vl (f : Nat → Nat) (i : Nat) : Value := match kind i with
  | .val v => v
  | .new _ _ k => nv k (f i)
  | .put _ => undef
  | .got F _ => F (f i)
  | .set _ _ _ => undef
def look (f : Nat → Nat) (i t : Nat) : Value := match ownOf ops t with
  | some j => if j < i then vl kind f j else a0.tmps.getD t undef
  | none => a0.tmps.getD t undef
def canon (l : Array Bool) (f : Nat → Nat) : Act := { a0 with tmps := a0.tmps.mapIdx fun t v => match ownOf ops t with
  | some i => if l.getD i false then vl kind f i else v
  | none => v }
def canonAll (f : Nat → Nat) : Act := { a0 with tmps := a0.tmps.mapIdx fun t v => match ownOf ops t with
  | some i => vl kind f i
  | none => v }
end
def okG (ops : Array Oper) (kind : Nat → Knd) (md : Region.Mode) : Bool := (List.range ops.size).all fun i => match ops[i]? with
  | none => true
  | some o => match o.guard with
    | none => true
    | some (g, want) => (match kind g with
        | .val (.bool b) => b == want
        | _ => false) && ((ops[g]?).bind (·.dst)).isSome && o.after.toList.any (fun e => e.on == g && Region.binds md e)
section
variable {P : Program} {ops : Array Oper} {Q : Exit → Act → World → Prop} {md : Region.Mode} {kind : Nat → Knd} {a0 : Act} {uses : Nat → List Nat}
theorem canon_tmp (l : Array Bool) (f : Nat → Nat) (i t : Nat) (ht : ∀ j, ownOf ops t = some j → l.getD j false = decide (j < i) ∧ t < a0.tmps.size) :
    (canon ops kind a0 l f).eval (.tmp t) = look ops kind a0 f i t := by
  show (canon ops kind a0 l f).tmps.getD t undef = _
  unfold canon look
  rw [Array.getD_eq_getD_getElem?, Array.getElem?_mapIdx]
  cases ho : ownOf ops t with
  | none => cases hx : a0.tmps[t]? <;> simp [hx, Array.getD_eq_getD_getElem?]
  | some j =>
    obtain ⟨h1, h2⟩ := ht j ho
    rw [Array.getElem?_eq_getElem h2]
    simp [h1, Array.getD_eq_getD_getElem?, Array.getElem?_eq_getElem h2]
theorem canon_put (h : okOps ops a0 md uses = true) {i : Nat} {o : Oper} (ho : ops[i]? = some o) (l : Array Bool) (hl : i < l.size) (f f' : Nat → Nat) (hf : ∀ j, l.getD j false = true → vl kind f' j = vl kind f j) :
    (o.dst = none ∨ l.getD i false = false) →
    (canon ops kind a0 l f).put o.dst (vl kind f' i) = canon ops kind a0 (l.setIfInBounds i true) f' := by
  intro hli
  obtain ⟨hd, -⟩ := okOps_at h ho
  have key : ∀ t v, (∀ j, ownOf ops t = some j → j ≠ i) → (match ownOf ops t with
      | some j => if l.getD j false then vl kind f j else v
      | none => v) = (match ownOf ops t with
      | some j => if (l.setIfInBounds i true).getD j false then vl kind f' j else v
      | none => v) := by
    intro t v hj
    cases ht : ownOf ops t with
    | none => rfl
    | some j =>
      have hne := hj j ht
      simp only [getD_set l i j hl, if_neg hne]
      cases hlj : l.getD j false with
      | false => rfl
      | true => simp [hf j hlj]
  cases hdst : o.dst with
  | none =>
    unfold Act.put canon
    simp only [Act.mk.injEq, and_true]
    apply Array.ext_getElem?
    intro t
    rw [Array.getElem?_mapIdx, Array.getElem?_mapIdx]
    cases a0.tmps[t]? with
    | none => rfl
    | some v =>
      simp only [Option.map_some]
      rw [key t v]
      intro j hj e
      have := own_dst hj
      rw [e, ho] at this
      simp [hdst] at this
  | some d =>
    obtain ⟨hod, hds⟩ := hd d hdst
    unfold Act.put canon
    simp only [Act.mk.injEq, and_true]
    apply Array.ext_getElem?
    intro t
    rw [Array.getElem?_setIfInBounds, Array.getElem?_mapIdx, Array.getElem?_mapIdx]
    by_cases e : d = t
    · subst e
      rw [if_pos rfl, Array.size_mapIdx, if_pos hds, Array.getElem?_eq_getElem hds]
      simp only [Option.map_some, hod]
      rw [getD_set l i i hl]
      simp
    · rw [if_neg e]
      cases a0.tmps[t]? with
      | none => rfl
      | some v =>
        simp only [Option.map_some]
        rw [key t v]
        intro j hj e2
        have := own_dst hj
        rw [e2, ho] at this
        simp [hdst] at this
        exact e this
end
section
variable {ops : Array Oper} {md : Region.Mode} {kind : Nat → Knd} {a0 : Act} {uses : Nat → List Nat}
theorem wanted_of (hok : okOps ops a0 md uses = true) (hG : okG ops kind md = true) {i : Nat} {o : Oper} (ho : ops[i]? = some o) (l : Array Bool) (f : Nat → Nat)
    (hedge : ∀ e ∈ o.after.toList, Region.binds md e = true → l.getD e.on false = true) : Region.wanted o (yielded ops (canon ops kind a0 l f).tmps) = true := by
  have hl : i < ops.size := (Array.getElem?_eq_some_iff.1 ho).1
  unfold okG at hG
  rw [List.all_eq_true] at hG
  have h1 := hG i (List.mem_range.2 hl)
  rw [ho] at h1
  unfold Region.wanted
  cases hg : o.guard with
  | none => rfl
  | some gw =>
    obtain ⟨g, want⟩ := gw
    simp only [hg, Bool.and_eq_true] at h1
    obtain ⟨⟨h1, h2⟩, h3⟩ := h1
    rw [List.any_eq_true] at h3
    obtain ⟨e, he, h4⟩ := h3
    rw [Bool.and_eq_true] at h4
    have hlg : l.getD g false = true := by
      have h5 : e.on = g := by simpa using h4.1
      exact h5 ▸ hedge e he h4.2
    cases hog : ops[g]? with
    | none => rw [hog] at h2; cases h2
    | some o2 =>
      rw [hog] at h2
      cases hd : o2.dst with
      | none => simp [hd] at h2
      | some d =>
        obtain ⟨hown, hlt⟩ := (okOps_at hok hog).1 d hd
        have hv : (canon ops kind a0 l f).tmps[d]? = some (vl kind f g) := by
          unfold canon
          rw [Array.getElem?_mapIdx, Array.getElem?_eq_getElem hlt]
          simp only [Option.map_some, hown, hlg, if_true]
        have hvl : vl kind f g = .bool want := by
          unfold vl
          cases hk : kind g with
          | new _ _ _ => rw [hk] at h1; cases h1
          | put _ => rw [hk] at h1; cases h1
          | got _ _ => rw [hk] at h1; cases h1
          | set _ _ _ => rw [hk] at h1; cases h1
          | val v =>
            rw [hk] at h1
            cases v with
            | bool b => simp only [beq_iff_eq] at h1; simp only [h1]
            | _ => cases h1
        unfold yielded
        simp only [hog, Option.bind_some, hd, hv, hvl]
        simp
end
section
variable {P : Program} {ops : Array Oper} {Q : Exit → Act → World → Prop} {md : Region.Mode} {kind : Nat → Knd} {a0 : Act} {uses : Nat → List Nat}
def PInv (S : List Nat) (md : Region.Mode) (ops : Array Oper) (kind : Nat → Knd) (a0 : Act) (W0 : World) (l : Array Bool) (a : Act) (w : World) : Prop :=
  l.size = ops.size ∧ ∃ f : Nat → Nat, a = canon ops kind a0 l f ∧ Sides S W0 w ∧
    (∀ i ob ob' k, kind i = .new ob ob' k → l.getD i false = true → W0.heap.size ≤ f i ∧ f i < w.heap.size ∧ w.heap[f i]? = some (if l.getD k false = true then ob' else ob)) ∧
    (∀ i j, l.getD i false = true → l.getD j false = true → i ≠ j → (∃ ob ob' k, kind i = .new ob ob' k) → (∃ ob ob' k, kind j = .new ob ob' k) → f i ≠ f j) ∧
    (∀ k j, kind k = .put j → l.getD k false = true → l.getD j false = true) ∧
    (∀ j oj, ops[j]? = some oj → l.getD j false = true → ∀ e ∈ oj.after.toList, Region.binds md e = true → l.getD e.on false = true) ∧
    (∀ i F R, kind i = .got F R → l.getD i false = true → R (f i) w) ∧
    (∀ i b ob ob', kind i = .set b ob ob' → w.heap[b]? = some (if l.getD i false = true then ob' else ob))
def Had (ops : Array Oper) (kind : Nat → Knd) (uses : Nat → List Nat) (f : Nat → Nat) (i : Nat) (w : World) : Prop := ∀ t ∈ uses i, ∀ j, ownOf ops t = some j → j < i → ∀ F R, kind j = .got F R → R (f j) w
def Ob (S : List Nat) (P : Program) (ops : Array Oper) (kind : Nat → Knd) (uses : Nat → List Nat) (a0 : Act) (W0 : World) (i : Nat) : Prop := ∀ o, ops[i]? = some o → match kind i with
  | .val v => ∀ (f : Nat → Nat) (A : Act) (w : World), (∀ t ∈ uses i, A.eval (.tmp t) = look ops kind a0 f i t) → Sides S W0 w → (∀ t ∈ uses i, ∀ j, ownOf ops t = some j → j < i → ∀ ob k, kind j = .new ob ob k → w.heap[f j]? = some ob) → Had ops kind uses f i w → Does P o A w fun v' w' => v' = v ∧ Below w.heap.size w w'
  | .new ob _ k => ∀ (f : Nat → Nat) (A : Act) (w : World), (∀ t ∈ uses i, A.eval (.tmp t) = look ops kind a0 f i t) → Does P o A w fun v w' => v = nv k w.heap.size ∧ w' = w.alloc ob
  | .put j => o.dst = none ∧ (∃ t ∈ uses i, ownOf ops t = some j) ∧ j < i ∧ ∃ ob ob', kind j = .new ob ob' i ∧
      ∀ (f : Nat → Nat) (A : Act) (w : World), (∀ t ∈ uses i, A.eval (.tmp t) = look ops kind a0 f i t) → Sides S W0 w → w.heap[f j]? = some ob → Does P o A w fun _ w' => Turned (f j) ob' w w'
  | .got F R => ∀ (f : Nat → Nat) (A : Act) (w : World), (∀ t ∈ uses i, A.eval (.tmp t) = look ops kind a0 f i t) → Sides S W0 w → (∀ t ∈ uses i, ∀ j, ownOf ops t = some j → j < i → ∀ ob k, kind j = .new ob ob k → w.heap[f j]? = some ob) → Had ops kind uses f i w → Does P o A w fun v' w' => ∃ x, v' = F x ∧ R x w' ∧ Below w.heap.size w w'
  | .set b ob ob' => o.dst = none ∧ b ∈ S ∧ b < W0.heap.size ∧ (∀ j ob1 ob2, kind j = .set b ob1 ob2 → j = i) ∧
      ∀ (f : Nat → Nat) (A : Act) (w : World), (∀ t ∈ uses i, A.eval (.tmp t) = look ops kind a0 f i t) → Sides S W0 w → Had ops kind uses f i w → w.heap[b]? = some ob → Does P o A w fun _ w' => Turned b ob' w w'
def Last (kind : Nat → Knd) : Prop := ∀ i F R, kind i = .got F R → (∀ x w w', R x w → Below w.heap.size w w' → R x w') ∧ ∀ x w w' b j ob ob', ((∃ k, kind j = .new ob ob' k) ∨ kind j = .set b ob ob') → R x w → w.heap[b]? = some ob → Turned b ob' w w' → R x w'
theorem pinv_start {S : List Nat} (W0 : World) (hset : ∀ i b ob ob', kind i = .set b ob ob' → W0.heap[b]? = some ob) : PInv S md ops kind a0 W0 (Array.replicate ops.size false) a0 W0 := by
  have hfa : ∀ j, (Array.replicate ops.size false).getD j false = false := fun j => by
    rw [Array.getD_eq_getD_getElem?, Array.getElem?_replicate]; split <;> rfl
  refine ⟨by simp, fun _ => 0, ?_, Sides.refl _ _, ?_, ?_, ?_, (fun j _ _ h => by rw [hfa] at h; cases h), (fun j _ _ _ h => by rw [hfa] at h; cases h), (fun j b ob ob' hj => by rw [hfa]; exact hset j b ob ob' hj)⟩
  · unfold canon
    cases a0
    simp only [Act.mk.injEq, and_true]
    apply Array.ext_getElem?
    intro t
    rw [Array.getElem?_mapIdx]
    rename_i tm _
    cases tm[t]? with
    | none => rfl
    | some v =>
      simp only [Option.map_some]
      cases ownOf ops t with
      | none => rfl
      | some j =>
        have : (Array.replicate ops.size false).getD j false = false := by
          rw [Array.getD_eq_getD_getElem?, Array.getElem?_replicate]; split <;> rfl
        simp only [this]; rfl
  · intro i _ _ _ _ h
    have : (Array.replicate ops.size false).getD i false = false := by
      rw [Array.getD_eq_getD_getElem?, Array.getElem?_replicate]; split <;> rfl
    rw [this] at h; cases h
  · intro i _ h
    have : (Array.replicate ops.size false).getD i false = false := by
      rw [Array.getD_eq_getD_getElem?, Array.getElem?_replicate]; split <;> rfl
    rw [this] at h; cases h
  · intro i _ _ h
    have : (Array.replicate ops.size false).getD i false = false := by
      rw [Array.getD_eq_getD_getElem?, Array.getElem?_replicate]; split <;> rfl
    rw [this] at h; cases h
theorem pinv_stepW (hok : okOps ops a0 md uses = true) {W0 : World}
    (hkk : ∀ j ob ob' k, kind j = .new ob ob' k → k < ops.size → kind k = .put j) (hlast : Last kind) {l : Array Bool} {a : Act} {w : World} {i : Nat} {S : List Nat} (hsb : ∀ i b ob ob', kind i = .set b ob ob' → b < W0.heap.size) (hobi : Ob S P ops kind uses a0 W0 i)
    (hwn : ∀ o f, ops[i]? = some o → (∀ e ∈ o.after.toList, Region.binds md e = true → l.getD e.on false = true) → Region.wanted o (yielded ops (canon ops kind a0 l f).tmps) = true) (hI : PInv S md ops kind a0 W0 l a w) (hi : i ∈ Region.ready md ops l) : wpOp P ops Q i (PInv S md ops kind a0 W0 (l.setIfInBounds i true)) a w := by
  obtain ⟨hs, f, rfl, hB, hN, hJ, hL, hC, hR, hZ⟩ := hI
  obtain ⟨hil, hif, -, o, ho, hedge⟩ := ready_get hi
  obtain ⟨hdst, huse⟩ := okOps_at hok ho
  have hC' : ∀ j oj, ops[j]? = some oj → (l.setIfInBounds i true).getD j false = true → ∀ e ∈ oj.after.toList, Region.binds md e = true → (l.setIfInBounds i true).getD e.on false = true := fun j oj hoj hlj e he hb => by
    rw [getD_set l i j hil] at hlj
    rw [getD_set l i e.on hil]
    by_cases hji : j = i
    · subst hji
      rw [ho] at hoj; cases hoj
      split
      · rfl
      · exact hedge e he hb
    · rw [if_neg hji] at hlj
      split
      · rfl
      · exact hC j oj hoj hlj e he hb
  have hA : ∀ t ∈ uses i, (canon ops kind a0 l f).eval (.tmp t) = look ops kind a0 f i t := fun t ht => canon_tmp l f i t fun j hj => by
    refine ⟨?_, ?_⟩
    · rcases huse t ht j hj with ⟨hji, e, he, h1, h2⟩ | hji | ⟨hji, oj, hoj, e, he, h1, h2⟩
      · rw [decide_eq_true hji]
        exact h1 ▸ hedge e he h2
      · subst hji
        rw [hif]; simp
      · rw [decide_eq_false (by omega)]
        cases hlj : l.getD j false with
        | false => rfl
        | true =>
          have := hC j oj hoj hlj e he h2
          rw [h1, hif] at this; cases this
    have h3 := own_dst hj
    cases h4 : ops[j]? with
    | none => rw [h4] at h3; cases h3
    | some o2 =>
      rw [h4] at h3
      exact ((okOps_at hok h4).1 t h3).2
  have hHad : Had ops kind uses f i w := fun t ht j hj hji F R hkj => by
    obtain ⟨e, he, h1, h2⟩ : ∃ e ∈ o.after.toList, e.on = j ∧ Region.binds md e = true := by
      rcases huse t ht j hj with ⟨-, h⟩ | h | ⟨h, -⟩
      · exact h
      · omega
      · omega
    exact hR j F R hkj (h1 ▸ hedge e he h2)
  have hw := hwn o f ho hedge
  have hob := hobi o ho
  unfold wpOp
  simp only [ho, hw, if_true]
  left
  cases hk : kind i with
  | val v =>
    rw [hk] at hob
    refine hob f _ w hA hB (fun t ht j hj hji ob k hkj => ?_) ?_ _ _ ?_
    · obtain ⟨e, he, h1, h2⟩ : ∃ e ∈ o.after.toList, e.on = j ∧ Region.binds md e = true := by
        rcases huse t ht j hj with ⟨-, h⟩ | h | ⟨h, -⟩
        · exact h
        · omega
        · omega
      have := (hN j ob ob k hkj (h1 ▸ hedge e he h2)).2.2
      rwa [ite_self] at this
    · exact hHad
    rintro v' w' ⟨rfl, hb⟩
    refine ⟨by simpa using hs, f, ?_, hB.step hb, ?_, ?_, ?_, hC', fun j F R hj hlj => ?_, ?_⟩
    · have := canon_put hok ho l hil f f (fun _ _ => rfl) (kind := kind) (.inr hif)
      rw [← this]; unfold vl; rw [hk]
    · intro j ob ob' k hj hlj
      have hji : j ≠ i := by rintro rfl; rw [hk] at hj; cases hj
      rw [getD_set l i j hil, if_neg hji] at hlj
      obtain ⟨h1, h2, h3⟩ := hN j ob ob' k hj hlj
      refine ⟨h1, Nat.lt_of_lt_of_le h2 hb.size, (hb.block _ h2).trans (h3.trans ?_)⟩
      rw [getD_set l i k hil]
      by_cases hki : k = i
      · have := hkk j ob ob' k hj (by omega)
        rw [hki, hk] at this; cases this
      · rw [if_neg hki]
    · intro j1 j2 h1 h2 hne k1 k2
      have e1 : j1 ≠ i := by rintro rfl; obtain ⟨_, _, _, h⟩ := k1; rw [hk] at h; cases h
      have e2 : j2 ≠ i := by rintro rfl; obtain ⟨_, _, _, h⟩ := k2; rw [hk] at h; cases h
      rw [getD_set l i j1 hil, if_neg e1] at h1
      rw [getD_set l i j2 hil, if_neg e2] at h2
      exact hJ j1 j2 h1 h2 hne k1 k2
    · intro k j hkj h1
      have e1 : k ≠ i := by rintro rfl; rw [hk] at hkj; cases hkj
      rw [getD_set l i k hil, if_neg e1] at h1
      have := hL k j hkj h1
      rw [getD_set l i j hil, this]; split <;> rfl
    · have hji : j ≠ i := by rintro rfl; rw [hk] at hj; cases hj
      rw [getD_set l i j hil, if_neg hji] at hlj
      exact (hlast j F R hj).1 _ _ _ (hR j F R hj hlj) hb
    · intro j b ob ob' hj
      have hji : j ≠ i := by rintro rfl; rw [hk] at hj; cases hj
      rw [getD_set l i j hil, if_neg hji, hb.block b (Nat.lt_of_lt_of_le (hsb j b ob ob' hj) hB.size)]
      exact hZ j b ob ob' hj
  | got F0 R0 =>
    rw [hk] at hob
    refine hob f _ w hA hB (fun t ht j hj hji ob k hkj => ?_) ?_ _ _ ?_
    · obtain ⟨e, he, h1, h2⟩ : ∃ e ∈ o.after.toList, e.on = j ∧ Region.binds md e = true := by
        rcases huse t ht j hj with ⟨-, h⟩ | h | ⟨h, -⟩
        · exact h
        · omega
        · omega
      have := (hN j ob ob k hkj (h1 ▸ hedge e he h2)).2.2
      rwa [ite_self] at this
    · exact hHad
    rintro v' w' ⟨x0, rfl, hx0, hb⟩
    refine ⟨by simpa using hs, fun x => if x = i then x0 else f x, ?_, hB.step hb, ?_, ?_, ?_, hC', fun j F R hj hlj => ?_, ?_⟩
    · have := canon_put hok ho l hil f (fun x => if x = i then x0 else f x) (fun j hj => by
        have hji : j ≠ i := by rintro rfl; rw [hif] at hj; cases hj
        unfold vl
        cases kind j <;> simp [hji]) (kind := kind) (.inr hif)
      rw [← this]; unfold vl; rw [hk]; simp
    · intro j ob ob' k hj hlj
      have hji : j ≠ i := by rintro rfl; rw [hk] at hj; cases hj
      rw [getD_set l i j hil, if_neg hji] at hlj
      simp only [if_neg hji]
      obtain ⟨h1, h2, h3⟩ := hN j ob ob' k hj hlj
      refine ⟨h1, Nat.lt_of_lt_of_le h2 hb.size, (hb.block _ h2).trans (h3.trans ?_)⟩
      rw [getD_set l i k hil]
      by_cases hki : k = i
      · have := hkk j ob ob' k hj (by omega)
        rw [hki, hk] at this; cases this
      · rw [if_neg hki]
    · intro j1 j2 h1 h2 hne k1 k2
      have e1 : j1 ≠ i := by rintro rfl; obtain ⟨_, _, _, h⟩ := k1; rw [hk] at h; cases h
      have e2 : j2 ≠ i := by rintro rfl; obtain ⟨_, _, _, h⟩ := k2; rw [hk] at h; cases h
      rw [getD_set l i j1 hil, if_neg e1] at h1
      rw [getD_set l i j2 hil, if_neg e2] at h2
      simp only [if_neg e1, if_neg e2]
      exact hJ j1 j2 h1 h2 hne k1 k2
    · intro k j hkj h1
      have e1 : k ≠ i := by rintro rfl; rw [hk] at hkj; cases hkj
      rw [getD_set l i k hil, if_neg e1] at h1
      have := hL k j hkj h1
      rw [getD_set l i j hil, this]; split <;> rfl
    · by_cases hji : j = i
      · subst hji
        rw [hk] at hj; cases hj
        simp only [if_true]
        exact hx0
      · rw [getD_set l i j hil, if_neg hji] at hlj
        simp only [if_neg hji]
        exact (hlast j F R hj).1 _ _ _ (hR j F R hj hlj) hb
    · intro j b ob ob' hj
      have hji : j ≠ i := by rintro rfl; rw [hk] at hj; cases hj
      rw [getD_set l i j hil, if_neg hji, hb.block b (Nat.lt_of_lt_of_le (hsb j b ob ob' hj) hB.size)]
      exact hZ j b ob ob' hj
  | new ob ob' k =>
    rw [hk] at hob
    refine hob f _ w hA _ _ ?_
    rintro v' w' ⟨rfl, rfl⟩
    have hlk : l.getD k false = false := by
      cases h : l.getD k false with
      | false => rfl
      | true =>
        have hks : k < ops.size := by
          by_cases hx : k < ops.size
          · exact hx
          · rw [Array.getD_eq_getD_getElem?, Array.getElem?_eq_none (by omega)] at h; cases h
        have := hL k i (hkk i ob ob' k hk hks) h
        rw [hif] at this; cases this
    have hki : k ≠ i := by
      rintro rfl
      have := hkk k ob ob' k hk (by omega)
      rw [hk] at this; cases this
    refine ⟨by simpa using hs, fun x => if x = i then w.heap.size else f x, ?_, hB.step ((Below.refl _ w).alloc (Nat.le_refl _) _), ?_, ?_, ?_, hC', fun j F R hj hlj => ?_, ?_⟩
    · have := canon_put hok ho l hil f (fun x => if x = i then w.heap.size else f x) (fun j hj => by
        have hji : j ≠ i := by rintro rfl; rw [hif] at hj; cases hj
        unfold vl
        cases kind j <;> simp [hji]) (kind := kind) (.inr hif)
      rw [← this]; unfold vl; rw [hk]; simp
    · intro j ob1 ob2 k2 hj hlj
      by_cases hji : j = i
      · subst hji
        rw [hk] at hj; cases hj
        rw [getD_set l j k hil, if_neg hki, hlk]
        simp only [if_true]
        exact ⟨hB.size, by simp, by show (w.heap.push ob)[w.heap.size]? = _; simp⟩
      · rw [getD_set l i j hil, if_neg hji] at hlj
        obtain ⟨h1, h2, h3⟩ := hN j ob1 ob2 k2 hj hlj
        simp only [if_neg hji]
        refine ⟨h1, by simp; omega, (Below.heap_alloc w ob _ h2).trans (h3.trans ?_)⟩
        rw [getD_set l i k2 hil]
        by_cases hk2 : k2 = i
        · have := hkk j ob1 ob2 k2 hj (by omega)
          rw [hk2, hk] at this; cases this
        · rw [if_neg hk2]
    · intro j1 j2 h1 h2 hne k1 k2
      rw [getD_set l i j1 hil] at h1
      rw [getD_set l i j2 hil] at h2
      by_cases e1 : j1 = i
      · have e2 : j2 ≠ i := fun e => hne (e1.trans e.symm)
        rw [if_neg e2] at h2
        obtain ⟨_, _, _, hx⟩ := k2
        have := (hN j2 _ _ _ hx h2).2.1
        simp only [if_pos e1, if_neg e2]; omega
      · rw [if_neg e1] at h1
        by_cases e2 : j2 = i
        · obtain ⟨_, _, _, hx⟩ := k1
          have := (hN j1 _ _ _ hx h1).2.1
          simp only [if_neg e1, if_pos e2]; omega
        · rw [if_neg e2] at h2
          simp only [if_neg e1, if_neg e2]
          exact hJ j1 j2 h1 h2 hne k1 k2
    · intro k2 j hkj h1
      have e1 : k2 ≠ i := by rintro rfl; rw [hk] at hkj; cases hkj
      rw [getD_set l i k2 hil, if_neg e1] at h1
      have := hL k2 j hkj h1
      rw [getD_set l i j hil, this]; split <;> rfl
    · have hji : j ≠ i := by rintro rfl; rw [hk] at hj; cases hj
      rw [getD_set l i j hil, if_neg hji] at hlj
      simp only [if_neg hji]
      exact (hlast j F R hj).1 _ _ _ (hR j F R hj hlj) ((Below.refl _ w).alloc (Nat.le_refl _) _)
    · intro j b ob1 ob2 hj
      have hji : j ≠ i := by rintro rfl; rw [hk] at hj; cases hj
      rw [getD_set l i j hil, if_neg hji, Below.heap_alloc w ob b (Nat.lt_of_lt_of_le (hsb j b ob1 ob2 hj) hB.size)]
      exact hZ j b ob1 ob2 hj
  | put j =>
    rw [hk] at hob
    obtain ⟨hdn, ⟨t, ht, htj⟩, hji, ob, ob', hkj, hdo⟩ := hob
    have hlj : l.getD j false = true := by
      obtain ⟨e, he, h1, h2⟩ : ∃ e ∈ o.after.toList, e.on = j ∧ Region.binds md e = true := by
        rcases huse t ht j htj with ⟨-, h⟩ | h | ⟨h, -⟩
        · exact h
        · omega
        · omega
      exact h1 ▸ hedge e he h2
    obtain ⟨g1, g2, g3⟩ := hN j ob ob' i hkj hlj
    rw [hif] at g3
    refine hdo f _ w hA hB (by simpa using g3) _ _ ?_
    rintro v' w' hT
    refine ⟨by simpa using hs, f, ?_, hB.turn hT (.inl g1), ?_, ?_, ?_, hC', fun j3 F R hj3 hl3 => ?_, ?_⟩
    · have := canon_put hok ho l hil f f (fun _ _ => rfl) (kind := kind) (.inl hdn)
      rw [← this, hdn]; rfl
    · intro j2 ob1 ob2 k2 hj2 hl2
      have hji : j2 ≠ i := by rintro rfl; rw [hk] at hj2; cases hj2
      rw [getD_set l i j2 hil, if_neg hji] at hl2
      obtain ⟨h1, h2, h3⟩ := hN j2 ob1 ob2 k2 hj2 hl2
      refine ⟨h1, by rw [hT.size]; exact h2, ?_⟩
      by_cases hjj : j2 = j
      · subst hjj
        rw [hkj] at hj2
        cases hj2
        rw [getD_set l i i hil, if_pos rfl]
        simpa using hT.self
      · have hne := hJ j2 j hl2 hlj hjj ⟨_, _, _, hj2⟩ ⟨_, _, _, hkj⟩
        rw [hT.other _ hne, h3, getD_set l i k2 hil]
        by_cases hk2 : k2 = i
        · have := hkk j2 ob1 ob2 k2 hj2 (by omega)
          rw [hk2, hk] at this
          cases this
          exact absurd rfl hjj
        · rw [if_neg hk2]
    · intro j1 j2 h1 h2 hne k1 k2
      have e1 : j1 ≠ i := by rintro rfl; obtain ⟨_, _, _, h⟩ := k1; rw [hk] at h; cases h
      have e2 : j2 ≠ i := by rintro rfl; obtain ⟨_, _, _, h⟩ := k2; rw [hk] at h; cases h
      rw [getD_set l i j1 hil, if_neg e1] at h1
      rw [getD_set l i j2 hil, if_neg e2] at h2
      exact hJ j1 j2 h1 h2 hne k1 k2
    · intro k2 j2 hkj2 h1
      rw [getD_set l i k2 hil] at h1
      have : l.getD j2 false = true := by
        by_cases e1 : k2 = i
        · rw [e1, hk] at hkj2; cases hkj2; exact hlj
        · rw [if_neg e1] at h1; exact hL k2 j2 hkj2 h1
      rw [getD_set l i j2 hil, this]; split <;> rfl
    · have hji : j3 ≠ i := by rintro rfl; rw [hk] at hj3; cases hj3
      rw [getD_set l i j3 hil, if_neg hji] at hl3
      exact (hlast j3 F R hj3).2 _ _ _ _ j ob ob' (.inl ⟨i, hkj⟩) (hR j3 F R hj3 hl3) (by simpa using g3) hT
    · intro j1 b ob1 ob2 hj
      have hji : j1 ≠ i := by rintro rfl; rw [hk] at hj; cases hj
      rw [getD_set l i j1 hil, if_neg hji, hT.other b (by have := hsb j1 b ob1 ob2 hj; omega)]
      exact hZ j1 b ob1 ob2 hj
  | set b ob ob' =>
    rw [hk] at hob
    obtain ⟨hdn, hbS, hbl, hone, hdo⟩ := hob
    have g3 := hZ i b ob ob' hk
    rw [hif] at g3
    refine hdo f _ w hA hB hHad (by simpa using g3) _ _ ?_
    rintro v' w' hT
    refine ⟨by simpa using hs, f, ?_, hB.turn hT (.inr hbS), ?_, ?_, ?_, hC', fun j3 F R hj3 hl3 => ?_, ?_⟩
    · have := canon_put hok ho l hil f f (fun _ _ => rfl) (kind := kind) (.inl hdn)
      rw [← this, hdn]; rfl
    · intro j2 ob1 ob2 k2 hj2 hl2
      have hji : j2 ≠ i := by rintro rfl; rw [hk] at hj2; cases hj2
      rw [getD_set l i j2 hil, if_neg hji] at hl2
      obtain ⟨h1, h2, h3⟩ := hN j2 ob1 ob2 k2 hj2 hl2
      refine ⟨h1, by rw [hT.size]; exact h2, ?_⟩
      rw [hT.other _ (by omega), h3, getD_set l i k2 hil]
      by_cases hk2 : k2 = i
      · have := hkk j2 ob1 ob2 k2 hj2 (by omega)
        rw [hk2, hk] at this
        cases this
      · rw [if_neg hk2]
    · intro j1 j2 h1 h2 hne k1 k2
      have e1 : j1 ≠ i := by rintro rfl; obtain ⟨_, _, _, h⟩ := k1; rw [hk] at h; cases h
      have e2 : j2 ≠ i := by rintro rfl; obtain ⟨_, _, _, h⟩ := k2; rw [hk] at h; cases h
      rw [getD_set l i j1 hil, if_neg e1] at h1
      rw [getD_set l i j2 hil, if_neg e2] at h2
      exact hJ j1 j2 h1 h2 hne k1 k2
    · intro k2 j2 hkj2 h1
      have e1 : k2 ≠ i := by rintro rfl; rw [hk] at hkj2; cases hkj2
      rw [getD_set l i k2 hil, if_neg e1] at h1
      have := hL k2 j2 hkj2 h1
      rw [getD_set l i j2 hil, this]; split <;> rfl
    · have hji : j3 ≠ i := by rintro rfl; rw [hk] at hj3; cases hj3
      rw [getD_set l i j3 hil, if_neg hji] at hl3
      exact (hlast j3 F R hj3).2 _ _ _ _ i ob ob' (.inr hk) (hR j3 F R hj3 hl3) (by simpa using g3) hT
    · intro j1 b1 ob1 ob2 hj
      by_cases hji : j1 = i
      · subst hji
        rw [hk] at hj; cases hj
        rw [getD_set l j1 j1 hil, if_pos rfl]
        simpa using hT.self
      · rw [getD_set l i j1 hil, if_neg hji]
        have hbb : b1 ≠ b := by
          rintro rfl
          exact hji (hone j1 ob1 ob2 hj)
        rw [hT.other b1 hbb]
        exact hZ j1 b1 ob1 ob2 hj
theorem pinv_step (hok : okOps ops a0 md uses = true) (hG : okG ops kind md = true) {W0 : World}
    (hkk : ∀ j ob ob' k, kind j = .new ob ob' k → k < ops.size → kind k = .put j) (hlast : Last kind) {l : Array Bool} {a : Act} {w : World} {i : Nat} {S : List Nat} (hsb : ∀ i b ob ob', kind i = .set b ob ob' → b < W0.heap.size) (hobi : Ob S P ops kind uses a0 W0 i)
    (hI : PInv S md ops kind a0 W0 l a w) (hi : i ∈ Region.ready md ops l) : wpOp P ops Q i (PInv S md ops kind a0 W0 (l.setIfInBounds i true)) a w :=
  pinv_stepW hok hkk hlast hsb hobi (fun o f ho hedge => wanted_of (kind := kind) hok hG ho l f hedge) hI hi
def dagB (md : Region.Mode) (ops : Array Oper) : Bool := (List.range ops.size).all fun i => match ops[i]? with
  | some o => o.after.toList.all fun e => !Region.binds md e || decide (e.on < i)
  | none => true
theorem all_listedB (hd : dagB md ops = true) (l : Array Bool) (hs : l.size = ops.size) (hr : Region.ready md ops l = []) : ∀ n i, i < n → i < ops.size → l.getD i false = true := by
  intro n
  induction n with
  | zero => intro i h; omega
  | succ n ih =>
    intro i hi hsz
    by_cases hlt : i < n
    · exact ih i hlt hsz
    · have hin : i = n := by omega
      subst hin
      cases hl : l.getD i false with
      | true => rfl
      | false =>
        exfalso
        have hm : i ∈ Region.ready md ops l := by
          unfold Region.ready
          rw [List.mem_filter]
          refine ⟨List.mem_range.2 hsz, ?_⟩
          rw [Bool.and_eq_true]
          constructor
          · rw [Array.getD_eq_getD_getElem?, Array.getElem?_eq_getElem (by omega)] at hl ⊢
            simpa using hl
          · rw [Array.getElem?_eq_getElem hsz]
            simp only [Option.map_some, Option.getD_some, Array.all_eq_true_iff_forall_mem]
            intro e he
            unfold dagB at hd
            rw [List.all_eq_true] at hd
            have h1 := hd i (List.mem_range.2 hsz)
            rw [Array.getElem?_eq_getElem hsz] at h1
            simp only [List.all_eq_true] at h1
            have h2 := h1 e (Array.mem_toList_iff.2 he)
            cases hbnd : Region.binds md e with
            | false => simp
            | true =>
              rw [hbnd] at h2
              have h3 : e.on < i := by simpa using h2
              rw [ih e.on h3 (by omega)]
              simp
        rw [hr] at hm
        cases hm
theorem pool_any {S : List Nat} (hok : okOps ops a0 md uses = true) (hG : okG ops kind md = true) (hdag : dagB md ops = true) (W0 : World)
    (hkk : ∀ j ob ob' k, kind j = .new ob ob' k → k < ops.size → kind k = .put j) (hlast : Last kind)
    (hset : ∀ i b ob ob', kind i = .set b ob ob' → W0.heap[b]? = some ob)
    (hob : ∀ i, i < ops.size → Ob S P ops kind uses a0 W0 i)
    (fin : ∀ (f : Nat → Nat) (w : World), Sides S W0 w →
      (∀ i ob ob' k, kind i = .new ob ob' k → i < ops.size → W0.heap.size ≤ f i ∧ w.heap[f i]? = some (if k < ops.size then ob' else ob)) →
      (∀ i j, i < ops.size → j < ops.size → i ≠ j → (∃ ob ob' k, kind i = .new ob ob' k) → (∃ ob ob' k, kind j = .new ob ob' k) → f i ≠ f j) →
      (∀ i F R, kind i = .got F R → i < ops.size → R (f i) w) →
      (∀ i b ob ob', kind i = .set b ob ob' → i < ops.size → w.heap[b]? = some ob') →
      Q .normal (canonAll ops kind a0 f) w) :
    wpAny P md ops Q ops.size (Array.replicate ops.size false) a0 W0 := by
  refine any_inv (PInv S md ops kind a0 W0) ?fin (fun l a w i hI hi => pinv_step hok hG hkk hlast (fun i b ob ob' h => (Array.getElem?_eq_some_iff.1 (hset i b ob ob' h)).1) (hob i ?lt) hI hi) _ _ _ _ ?cnt (pinv_start W0 hset)
  case lt =>
    obtain ⟨-, -, -, o, ho, -⟩ := ready_get hi
    exact (Array.getElem?_eq_some_iff.1 ho).1
  case cnt => simp
  case fin =>
    rintro l a w ⟨hs, f, rfl, hB, hN, hJ, -, -, hR, hZ⟩ hr
    have hall : ∀ i, i < ops.size → l.getD i false = true := fun i hi => all_listedB hdag l hs hr (i + 1) i (by omega) hi
    have hc : canon ops kind a0 l f = canonAll ops kind a0 f := by
      unfold canon canonAll
      simp only [Act.mk.injEq, and_true]
      apply Array.ext_getElem?
      intro t
      rw [Array.getElem?_mapIdx, Array.getElem?_mapIdx]
      cases a0.tmps[t]? with
      | none => rfl
      | some v =>
        simp only [Option.map_some]
        cases ht : ownOf ops t with
        | none => rfl
        | some j => simp only [hall j (own_lt ht), if_true]
    rw [hc]
    refine fin f w hB (fun i ob ob' k hk hi => ?_) (fun i j hi hj => hJ i j (hall i hi) (hall j hj)) (fun i F R hk hi => hR i F R hk (hall i hi)) (fun i b ob ob' hk hi => by
      have := hZ i b ob ob' hk
      rwa [if_pos (hall i hi)] at this)
    obtain ⟨h1, -, h3⟩ := hN i ob ob' k hk (hall i hi)
    refine ⟨h1, h3.trans ?_⟩
    by_cases hkl : k < ops.size
    · rw [if_pos (hall k hkl), if_pos hkl]
    · have : l.getD k false = false := by rw [Array.getD_eq_getD_getElem?, Array.getElem?_eq_none (by omega)]; rfl
      rw [this, if_neg hkl]; rfl
theorem canon_same (l l' : Array Bool) (f : Nat → Nat) (h : ∀ j, j < ops.size → l.getD j false = l'.getD j false) : canon ops kind a0 l f = canon ops kind a0 l' f := by
  unfold canon
  simp only [Act.mk.injEq, and_true]
  apply Array.ext_getElem?
  intro t
  rw [Array.getElem?_mapIdx, Array.getElem?_mapIdx]
  cases a0.tmps[t]? with
  | none => rfl
  | some v =>
    simp only [Option.map_some]
    cases ht : ownOf ops t with
    | none => rfl
    | some j => simp only [h j (own_lt ht)]
theorem canon_upto (h : okOps ops a0 md uses = true) (f : Nat → Nat) : ∀ k, k ≤ ops.size → canon ops kind a0 (upto ops.size k) f = puts ((List.range k).map fun i => ((ops[i]?).bind (·.dst), vl kind f i)) a0 := by
  intro k
  induction k with
  | zero =>
    intro _
    unfold canon puts
    simp only [List.range_zero, List.map_nil, List.foldl_nil]
    cases a0
    simp only [Act.mk.injEq, and_true]
    apply Array.ext_getElem?
    intro t
    rw [Array.getElem?_mapIdx]
    rename_i tm _
    cases tm[t]? with
    | none => rfl
    | some v =>
      simp only [Option.map_some]
      cases ownOf ops t with
      | none => rfl
      | some j => simp only [upto_getD, Nat.not_lt_zero, decide_false, Bool.and_false]; rfl
  | succ k ih =>
    intro hk
    have hs : (upto ops.size k).size = ops.size := by simp [upto]
    rw [List.range_succ, List.map_append]
    unfold puts
    rw [List.foldl_append]
    have ih' := ih (by omega)
    unfold puts at ih'
    rw [← ih']
    have ho : ops[k]? = some ops[k] := Array.getElem?_eq_getElem (by omega)
    simp only [List.map_cons, List.map_nil, List.foldl_cons, List.foldl_nil, ho, Option.bind_some]
    rw [canon_put h ho (upto ops.size k) (by omega) f f (fun _ _ => rfl) (.inr (by rw [upto_getD]; simp))]
    refine canon_same _ _ f fun j hj => ?_
    rw [getD_set _ _ _ (by omega), upto_getD, upto_getD]
    by_cases e : j = k
    · subst e; simp [hj]
    · rw [if_neg e]
      have : decide (j < k) = decide (j < k + 1) := by rw [Bool.eq_iff_iff]; simp; omega
      rw [this]
theorem canonAll_puts (h : okOps ops a0 md uses = true) (f : Nat → Nat) : canonAll ops kind a0 f = puts ((List.range ops.size).map fun i => ((ops[i]?).bind (·.dst), vl kind f i)) a0 := by
  rw [← canon_upto h f ops.size (Nat.le_refl _)]
  unfold canon canonAll
  simp only [Act.mk.injEq, and_true]
  apply Array.ext_getElem?
  intro t
  rw [Array.getElem?_mapIdx, Array.getElem?_mapIdx]
  cases a0.tmps[t]? with
  | none => rfl
  | some v =>
    simp only [Option.map_some]
    cases ht : ownOf ops t with
    | none => rfl
    | some j => simp only [upto_getD, own_lt ht, decide_true, Bool.and_true, if_true]
def kindOf (kinds : List Knd) (i : Nat) : Knd := kinds.getD i (.put i)
def okK (kinds : List Knd) (n : Nat) : Bool := (List.range kinds.length).all fun j => match kindOf kinds j with
  | .new _ _ k => if k < n then (match kindOf kinds k with
    | .put j' => j' == j
    | _ => false) else true
  | _ => true
theorem okK_is {kinds : List Knd} {n : Nat} (h : okK kinds n = true) : ∀ j ob ob' k, kindOf kinds j = .new ob ob' k → k < n → kindOf kinds k = .put j := by
  intro j ob ob' k hj hk
  have hl : j < kinds.length := by
    by_cases hx : j < kinds.length
    · exact hx
    · unfold kindOf at hj
      rw [List.getD_eq_getElem?_getD, List.getElem?_eq_none (by omega)] at hj
      cases hj
  unfold okK at h
  rw [List.all_eq_true] at h
  have h1 := h j (List.mem_range.2 hl)
  rw [hj] at h1
  simp only [if_pos hk] at h1
  cases h2 : kindOf kinds k with
  | val v => rw [h2] at h1; cases h1
  | new _ _ _ => rw [h2] at h1; cases h1
  | got _ _ => rw [h2] at h1; cases h1
  | set _ _ _ => rw [h2] at h1; cases h1
  | put j' =>
    rw [h2] at h1
    simp at h1
    rw [h1]
theorem ob_val {S : List Nat} {W0 : World} {i : Nat} {o : Oper} {v : Value} (ins : List (Nat × Value)) (ho : ops[i]? = some o) (hk : kind i = .val v) (hi : ∀ f, (uses i).map (fun t => (t, look ops kind a0 f i t)) = ins)
    (h : ∀ A w, Evs A ins → Sides S W0 w → Does P o A w fun v' w' => v' = v ∧ Below w.heap.size w w') : Ob S P ops kind uses a0 W0 i := by
  intro o' ho'
  rw [ho] at ho'
  cases ho'
  rw [hk]
  intro f A w hA hB _ _
  exact h A w (hi f ▸ evs_of _ hA) hB
theorem ob_use {S : List Nat} {W0 : World} {i : Nat} {o : Oper} {v : Value} (t j k : Nat) (ob : Obj) (ins : (Nat → Nat) → List (Nat × Value)) (ho : ops[i]? = some o) (hk : kind i = .val v) (ht : t ∈ uses i) (hown : ownOf ops t = some j) (hkj : kind j = .new ob ob k)
    (hi : ∀ f, (uses i).map (fun t => (t, look ops kind a0 f i t)) = ins f)
    (h : ∀ f A w, Evs A (ins f) → Sides S W0 w → w.heap[f j]? = some ob → Does P o A w fun v' w' => v' = v ∧ Below w.heap.size w w') (hji : decide (j < i) = true := by decide) : Ob S P ops kind uses a0 W0 i := by
  intro o' ho'
  rw [ho] at ho'
  cases ho'
  rw [hk]
  intro f A w hA hB hu _
  exact h f A w (hi f ▸ evs_of _ hA) hB (hu t ht j hown (of_decide_eq_true hji) ob k hkj)
theorem ob_new {S : List Nat} {W0 : World} {i : Nat} {o : Oper} {ob ob' : Obj} {k : Nat} (ho : ops[i]? = some o) (hk : kind i = .new ob ob' k)
    (h : ∀ (A : Act) (w : World), Does P o A w fun v w' => v = .pointer (some ⟨w.heap.size, 0, none⟩) ∧ w' = w.alloc ob) (hk1 : decide (k < 1000) = true := by decide) : Ob S P ops kind uses a0 W0 i := by
  intro o' ho'
  rw [ho] at ho'
  cases ho'
  rw [hk]
  intro f A w _
  have e : nv k w.heap.size = .pointer (some ⟨w.heap.size, 0, none⟩) := by unfold nv; rw [if_neg (by have := of_decide_eq_true hk1; omega)]
  rw [e]
  exact h A w
theorem ob_slc {S : List Nat} {W0 : World} {i : Nat} {o : Oper} {ob ob' : Obj} (n : Nat) (ins : List (Nat × Value)) (ho : ops[i]? = some o) (hk : kind i = .new ob ob' (1000 + n)) (hi : ∀ f, (uses i).map (fun t => (t, look ops kind a0 f i t)) = ins)
    (h : ∀ (A : Act) (w : World), Evs A ins → Does P o A w fun v w' => v = .slice (some ⟨w.heap.size, 0, none⟩) n n ∧ w' = w.alloc ob) : Ob S P ops kind uses a0 W0 i := by
  intro o' ho'
  rw [ho] at ho'
  cases ho'
  rw [hk]
  intro f A w hA
  have e : nv (1000 + n) w.heap.size = .slice (some ⟨w.heap.size, 0, none⟩) n n := by unfold nv; rw [if_pos (by omega), show 1000 + n - 1000 = n by omega]
  rw [e]
  exact h A w (hi f ▸ evs_of _ hA)
theorem ob_put {S : List Nat} {W0 : World} {i j : Nat} {o : Oper} {ob ob' : Obj} (t : Nat) (ins : (Nat → Nat) → List (Nat × Value)) (ho : ops[i]? = some o) (hk : kind i = .put j) (hd : o.dst = none) (ht : t ∈ uses i) (hown : ownOf ops t = some j)
    (hkj : kind j = .new ob ob' i) (hi : ∀ f, (uses i).map (fun t => (t, look ops kind a0 f i t)) = ins f)
    (h : ∀ f A w, Evs A (ins f) → w.heap[f j]? = some ob → Does P o A w fun _ w' => Turned (f j) ob' w w') (hji : decide (j < i) = true := by decide) : Ob S P ops kind uses a0 W0 i := by
  intro o' ho'
  rw [ho] at ho'
  cases ho'
  rw [hk]
  exact ⟨hd, ⟨t, ht, hown⟩, of_decide_eq_true hji, ob, ob', hkj, fun f A w hA hB hw => h f A w (hi f ▸ evs_of _ hA) hw⟩
theorem ob_had {S : List Nat} {W0 : World} {i : Nat} {o : Oper} {v : Value} (ins : (Nat → Nat) → List (Nat × Value)) (ho : ops[i]? = some o) (hk : kind i = .val v)
    (hi : ∀ f, (uses i).map (fun t => (t, look ops kind a0 f i t)) = ins f)
    (h : ∀ f A w, Evs A (ins f) → Sides S W0 w → Had ops kind uses f i w → Does P o A w fun v' w' => v' = v ∧ Below w.heap.size w w') : Ob S P ops kind uses a0 W0 i := by
  intro o' ho'
  rw [ho] at ho'
  cases ho'
  rw [hk]
  intro f A w hA hB hu hh
  exact h f A w (hi f ▸ evs_of _ hA) hB hh
theorem ob_got {S : List Nat} {W0 : World} {i : Nat} {o : Oper} {F : Nat → Value} {R : Nat → World → Prop} (ins : (Nat → Nat) → List (Nat × Value)) (ho : ops[i]? = some o) (hk : kind i = .got F R)
    (hi : ∀ f, (uses i).map (fun t => (t, look ops kind a0 f i t)) = ins f)
    (h : ∀ f A w, Evs A (ins f) → Sides S W0 w → Had ops kind uses f i w → Does P o A w fun v' w' => ∃ x, v' = F x ∧ R x w' ∧ Below w.heap.size w w') : Ob S P ops kind uses a0 W0 i := by
  intro o' ho'
  rw [ho] at ho'
  cases ho'
  rw [hk]
  intro f A w hA hB hu hh
  exact h f A w (hi f ▸ evs_of _ hA) hB hh
theorem kind_mem {kinds : List Knd} {i : Nat} {k : Knd} (h : kindOf kinds i = k) (hp : k ≠ .put i) : k ∈ kinds := by
  unfold kindOf at h
  rw [List.getD_eq_getElem?_getD] at h
  cases hx : kinds[i]? with
  | none => rw [hx] at h; exact absurd h.symm hp
  | some k' => rw [hx] at h; rw [← h]; exact List.mem_of_getElem? hx
theorem last_of {kinds : List Knd} (obs : List Obj) (h : ∀ F R, Knd.got F R ∈ kinds → Lasts R obs) (ho : ∀ ob ob' k, Knd.new ob ob' k ∈ kinds → ob ∈ obs) (ho2 : ∀ b ob ob', Knd.set b ob ob' ∈ kinds → ob ∈ obs) : Last (kindOf kinds) := by
  intro i F R hk
  have h1 := h F R (kind_mem hk (by simp))
  refine ⟨h1.below, fun x w w' b j ob ob' hj hR hb hT => h1.turned x w w' b ob ob' hR ?_ hb hT⟩
  rcases hj with ⟨k, hj⟩ | hj
  · exact ho ob ob' k (kind_mem hj (by simp))
  · exact ho2 b ob ob' (kind_mem hj (by simp))
theorem set_of {kinds : List Knd} {W0 : World} (h : ∀ b ob ob', Knd.set b ob ob' ∈ kinds → W0.heap[b]? = some ob) : ∀ i b ob ob', kindOf kinds i = .set b ob ob' → W0.heap[b]? = some ob := fun i b ob ob' hk => h b ob ob' (kind_mem hk (by simp))
theorem pool_list (S : List Nat) {id : Nat} {W : World} (kinds : List Knd) (us : List (List Nat)) (dl : (Nat → Nat) → List (Option Tmp × Value)) (hm : P.follows .mixedOrders = true) (hok : (okOps ops a0 .any (usesOf us) && okG ops (kindOf kinds) .any) = true) (hdag : dagB .any ops = true) (hkk : okK kinds ops.size = true)
    (hdl : ∀ f, ((List.range ops.size).map fun i => ((ops[i]?).bind (·.dst), vl (kindOf kinds) f i)) = dl f) (hlast : Last (kindOf kinds)) (hset : ∀ b ob ob', Knd.set b ob ob' ∈ kinds → W.drew.heap[b]? = some ob)
    (hob : ∀ i, i < ops.size → Ob S P ops (kindOf kinds) (usesOf us) a0 W.drew i)
    (fin : ∀ (f : Nat → Nat) (w : World), Sides S W.drew w →
      (∀ i ob ob' k, kindOf kinds i = .new ob ob' k → i < ops.size → W.drew.heap.size ≤ f i ∧ w.heap[f i]? = some (if k < ops.size then ob' else ob)) →
      (∀ i j, i < ops.size → j < ops.size → i ≠ j → (∃ ob ob' k, kindOf kinds i = .new ob ob' k) → (∃ ob ob' k, kindOf kinds j = .new ob ob' k) → f i ≠ f j) →
      (∀ i F R, kindOf kinds i = .got F R → i < ops.size → R (f i) w) →
      (∀ i b ob ob', kindOf kinds i = .set b ob ob' → i < ops.size → w.heap[b]? = some ob') →
      Q .normal (puts (dl f) a0) w) :
    (Code.region id ops true).wp P Q a0 W :=
  wp_region_any hm (pool_any (and_l hok) (and_r hok) hdag W.drew (okK_is hkk) hlast (set_of hset) hob fun f w h1 h2 h3 h4 h5 => by
    rw [canonAll_puts (and_l hok) f, hdl f]
    exact fin f w h1 h2 h3 h4 h5)
theorem pool_prT (S : List Nat) {id : Nat} {W : World} (m : Nat) (kinds : List Knd) (us : List (List Nat)) (dl : (Nat → Nat) → List (Option Tmp × Value)) (hm : P.follows .mixedOrders = true) (hok : (okOps ops a0 .any (usesOf us) && okG ops (kindOf kinds) .any) = true) (hdag : dagB .any ops = true) (hkk : okK kinds ops.size = true) (hmn : decide (m < ops.size) = true) (hpre : preT ops .any m = true)
    (hdl : ∀ f, ((List.range m).map fun i => ((ops[i]?).bind (·.dst), vl (kindOf kinds) f i)) = dl f) (hlast : Last (kindOf kinds)) (hset : ∀ b ob ob', Knd.set b ob ob' ∈ kinds → W.drew.heap[b]? = some ob)
    (hob : ∀ i, i < m → Ob S P ops (kindOf kinds) (usesOf us) a0 W.drew i)
    (fin : ∀ (f : Nat → Nat) (w : World), Sides S W.drew w →
      (∀ i ob ob' k, kindOf kinds i = .new ob ob' k → i < m → W.drew.heap.size ≤ f i ∧ w.heap[f i]? = some (if k < m then ob' else ob)) →
      (∀ i F R, kindOf kinds i = .got F R → i < m → R (f i) w) →
      (∀ i b ob ob', kindOf kinds i = .set b ob ob' → i < m → w.heap[b]? = some ob') →
      ∀ fuel, ops.size - m ≤ fuel → wpAny P .any ops Q fuel (upto ops.size m) (puts (dl f) a0) w) :
    (Code.region id ops true).wp P Q a0 W := by
  have hmn' := of_decide_eq_true hmn
  refine wp_region_any hm ?_
  refine any_until m (fun l a w => (∀ j, m ≤ j → l.getD j false = false) ∧ PInv S .any ops (kindOf kinds) a0 W.drew l a w) ?_ ?_ ?_ _ _ _ _ ?_ ?_
  · rintro fuel l a w ⟨h1, hs, f, rfl, hB, hN, -, -, -, hR, hZ⟩ h2 hc
    obtain rfl := upto_eq hs h2 h1
    rw [count_upto _ _ (by omega)] at hc
    rw [canon_upto (and_l hok) f m (by omega), hdl f]
    refine fin f w hB (fun i ob ob' k hk hi => ?_) (fun i F R hk hi => hR i F R hk (h2 i hi)) (fun i b ob ob' hk hi => by
      have := hZ i b ob ob' hk
      rwa [if_pos (h2 i hi)] at this) fuel hc
    obtain ⟨g1, -, g3⟩ := hN i ob ob' k hk (h2 i hi)
    refine ⟨g1, g3.trans ?_⟩
    by_cases hkm : k < m
    · rw [if_pos (h2 k hkm), if_pos hkm]
    · rw [h1 k (by omega), if_neg hkm]; rfl
  · rintro l a w ⟨h1, hs, -⟩ hn hr
    have := all_listedB hdag l hs hr (m + 1) m (by omega) (by omega)
    rw [h1 m (Nat.le_refl _)] at this; cases this
  · rintro l a w i ⟨h1, hI⟩ hn hi
    have hC := hI
    obtain ⟨-, -, -, -, -, -, -, hC, -, -⟩ := hC
    have him := preT_lt hpre hi hC h1 hn
    refine wpOp_mono (fun a w h => ⟨fun j hj => ?_, h⟩) (pinv_step (and_l hok) (and_r hok) (okK_is hkk) hlast (fun i b ob ob' h => (Array.getElem?_eq_some_iff.1 (set_of hset i b ob ob' h)).1) (hob i him) hI hi)
    obtain ⟨hil, -⟩ := ready_get hi
    rw [getD_set l i j hil, if_neg (by omega)]
    exact h1 j hj
  · simp
  · exact ⟨fun j _ => by rw [Array.getD_eq_getD_getElem?, Array.getElem?_replicate]; split <;> rfl, pinv_start _ (set_of hset)⟩
end
end Go.Proofs.YtdaobioomoajfaaGreat.G
namespace Go.Proofs.YtdaobioomoajfaaGreat.G
open Go.RowKit
structure Ent where
  op : Nat
  bld : Nat
  key : Int
  k : Nat
deriving DecidableEq
structure MapIs (ins : List Ent) (l : Array Bool) (f : Nat → Nat) (es : Array MapEntry) : Prop where
  sound : ∀ e ∈ es.toList, ∃ q ∈ ins, l.getD q.op false = true ∧ e.key = .int .i64 q.key ∧ e.val = nv q.k (f q.bld)
  whole : ∀ q ∈ ins, l.getD q.op false = true → ∃ e ∈ es.toList, e.key = .int .i64 q.key
def okE (ins : List Ent) (ops : Array Oper) (md : Region.Mode) : Bool := ins.all (fun q => ins.all fun r => decide (q.key = r.key → q.op = r.op ∧ q.bld = r.bld ∧ q.k = r.k)) && ins.all fun q => ins.all fun r => decide (q.op = r.op → q.key = r.key)
section
variable {P : Program} {ops : Array Oper} {Q : Exit → Act → World → Prop} {md : Region.Mode} {kind : Nat → Knd} {a0 : Act} {uses : Nat → List Nat}
def MInv (ins : List Ent) (md : Region.Mode) (ops : Array Oper) (kind : Nat → Knd) (a0 : Act) (W0 : World) (l : Array Bool) (a : Act) (w : World) : Prop :=
  l.size = ops.size ∧ ∃ f : Nat → Nat, a = canon ops kind a0 l f ∧ Below W0.heap.size W0 w ∧
    (∀ i ob ob' k, kind i = .new ob ob' k → l.getD i false = true → W0.heap.size ≤ f i ∧ w.heap[f i]? = some ob) ∧
    (∀ j oj, ops[j]? = some oj → l.getD j false = true → ∀ e ∈ oj.after.toList, Region.binds md e = true → l.getD e.on false = true) ∧
    (l.getD 0 false = true → W0.heap.size ≤ f 0 ∧ ∃ es clk, w.heap[f 0]? = some (.map es clk) ∧ MapIs ins l f es) ∧
    (∀ q ∈ ins, l.getD q.op false = true → l.getD q.bld false = true)
def MOb (ins : List Ent) (P : Program) (ops : Array Oper) (kind : Nat → Knd) (uses : Nat → List Nat) (a0 : Act) (i : Nat) : Prop := ∀ o, ops[i]? = some o → match kind i with
  | .val v => i ≠ 0 ∧ (∀ q ∈ ins, q.op ≠ i) ∧ ∀ (f : Nat → Nat) (A : Act) (w : World), (∀ t ∈ uses i, A.eval (.tmp t) = look ops kind a0 f i t) → Does P o A w fun v' w' => v' = v ∧ w' = w
  | .new ob _ k => i ≠ 0 ∧ (∀ q ∈ ins, q.op ≠ i) ∧ (∃ c t z, ob = .cells c t z) ∧ ∀ (f : Nat → Nat) (A : Act) (w : World), (∀ t ∈ uses i, A.eval (.tmp t) = look ops kind a0 f i t) → Does P o A w fun v w' => v = nv k w.heap.size ∧ w' = w.alloc ob
  | .got F _ => i = 0 ∧ (∀ q ∈ ins, q.op ≠ 0) ∧ F = (fun x => .map (some x)) ∧ ∀ (A : Act) (w : World), Does P o A w fun v w' => v = .map (some w.heap.size) ∧ w' = w.alloc (.map #[] 0)
  | .put _ => ∃ q ∈ ins, q.op = i ∧ i ≠ 0 ∧ o.dst = none ∧ (∃ t ∈ uses i, ownOf ops t = some 0) ∧ (∃ t ∈ uses i, ownOf ops t = some q.bld) ∧ q.bld < i ∧
      ∀ (f : Nat → Nat) (A : Act) (w : World) (es : Array MapEntry) (clk : Nat), (∀ t ∈ uses i, A.eval (.tmp t) = look ops kind a0 f i t) → w.heap[f 0]? = some (.map es clk) → (∀ e ∈ es.toList, ∃ k', e.key = .int .i64 k' ∧ k' ≠ q.key) →
        Does P o A w fun _ w' => Turned (f 0) (.map (es.push ⟨.int .i64 q.key, nv q.k (f q.bld), clk⟩) (clk + 1)) w w'
  | .set _ _ _ => False
theorem minv_start (ins : List Ent) (W0 : World) : MInv ins md ops kind a0 W0 (Array.replicate ops.size false) a0 W0 := by
  have hfa : ∀ j, (Array.replicate ops.size false).getD j false = false := fun j => by
    rw [Array.getD_eq_getD_getElem?, Array.getElem?_replicate]; split <;> rfl
  refine ⟨by simp, fun _ => 0, ?_, Below.refl _ _, ?_, (fun j _ _ h => by rw [hfa] at h; cases h), (fun h => by rw [hfa] at h; cases h), (fun q _ h => by rw [hfa] at h; cases h)⟩
  · unfold canon
    cases a0
    simp only [Act.mk.injEq, and_true]
    apply Array.ext_getElem?
    intro t
    rw [Array.getElem?_mapIdx]
    rename_i tm _
    cases tm[t]? with
    | none => rfl
    | some v =>
      simp only [Option.map_some]
      cases ownOf ops t with
      | none => rfl
      | some j => simp only [hfa]; rfl
  · intro i _ _ _ _ h
    rw [hfa] at h; cases h
theorem minv_step {ins : List Ent} (hok : okOps ops a0 md uses = true) (hG : okG ops kind md = true) {W0 : World} (hE : okE ins ops md = true) (hcl : ∀ i ob ob' k, kind i = .new ob ob' k → ∃ c t z, ob = .cells c t z) (hz : ∀ q ∈ ins, ∃ oq, ops[q.op]? = some oq ∧ ∃ e ∈ oq.after.toList, e.on = 0 ∧ Region.binds md e = true) {l : Array Bool} {a : Act} {w : World} {i : Nat} (hobi : MOb ins P ops kind uses a0 i)
    (hI : MInv ins md ops kind a0 W0 l a w) (hi : i ∈ Region.ready md ops l) : wpOp P ops Q i (MInv ins md ops kind a0 W0 (l.setIfInBounds i true)) a w := by
  obtain ⟨hs, f, rfl, hB, hN, hC, hM, hL⟩ := hI
  obtain ⟨hil, hif, -, o, ho, hedge⟩ := ready_get hi
  obtain ⟨hdst, huse⟩ := okOps_at hok ho
  have hC' : ∀ j oj, ops[j]? = some oj → (l.setIfInBounds i true).getD j false = true → ∀ e ∈ oj.after.toList, Region.binds md e = true → (l.setIfInBounds i true).getD e.on false = true := fun j oj hoj hlj e he hb => by
    rw [getD_set l i j hil] at hlj
    rw [getD_set l i e.on hil]
    by_cases hji : j = i
    · subst hji
      rw [ho] at hoj; cases hoj
      split
      · rfl
      · exact hedge e he hb
    · rw [if_neg hji] at hlj
      split
      · rfl
      · exact hC j oj hoj hlj e he hb
  have hA : ∀ t ∈ uses i, (canon ops kind a0 l f).eval (.tmp t) = look ops kind a0 f i t := fun t ht => canon_tmp l f i t fun j hj => by
    refine ⟨?_, ?_⟩
    · rcases huse t ht j hj with ⟨hji, e, he, h1, h2⟩ | hji | ⟨hji, oj, hoj, e, he, h1, h2⟩
      · rw [decide_eq_true hji]
        exact h1 ▸ hedge e he h2
      · subst hji
        rw [hif]; simp
      · rw [decide_eq_false (by omega)]
        cases hlj : l.getD j false with
        | false => rfl
        | true =>
          have := hC j oj hoj hlj e he h2
          rw [h1, hif] at this; cases this
    have h3 := own_dst hj
    cases h4 : ops[j]? with
    | none => rw [h4] at h3; cases h3
    | some o2 =>
      rw [h4] at h3
      exact ((okOps_at hok h4).1 t h3).2
  have hown : ∀ t ∈ uses i, ∀ j, ownOf ops t = some j → j < i → l.getD j false = true := fun t ht j hj hji => by
    obtain ⟨e, he, h1, h2⟩ : ∃ e ∈ o.after.toList, e.on = j ∧ Region.binds md e = true := by
      rcases huse t ht j hj with ⟨-, h⟩ | h | ⟨h, -⟩
      · exact h
      · omega
      · omega
    exact h1 ▸ hedge e he h2
  have hL' : (∀ q ∈ ins, q.op ≠ i) → ∀ q ∈ ins, (l.setIfInBounds i true).getD q.op false = true → (l.setIfInBounds i true).getD q.bld false = true := fun hq q g1 g2 => by
    rw [getD_set l i q.op hil, if_neg (hq q g1)] at g2
    rw [getD_set l i q.bld hil]
    split
    · rfl
    · exact hL q g1 g2
  have hw := wanted_of (kind := kind) hok hG ho l f hedge
  have hob := hobi o ho
  unfold wpOp
  simp only [ho, hw, if_true]
  left
  cases hk : kind i with
  | val v =>
    rw [hk] at hob
    obtain ⟨hi0, hq, hob⟩ := hob
    refine hob f _ w hA _ _ ?_
    rintro v' w' ⟨rfl, rfl⟩
    refine ⟨by simpa using hs, f, ?_, hB, ?_, hC', ?_, hL' hq⟩
    · have := canon_put hok ho l hil f f (fun _ _ => rfl) (kind := kind) (.inr hif)
      rw [← this]; unfold vl; rw [hk]
    · intro j ob ob' k hj hlj
      have hji : j ≠ i := by rintro rfl; rw [hk] at hj; cases hj
      rw [getD_set l i j hil, if_neg hji] at hlj
      exact hN j ob ob' k hj hlj
    · intro h0
      rw [getD_set l i 0 hil, if_neg (fun e => hi0 e.symm)] at h0
      obtain ⟨h1, es, clk, h2, h3⟩ := hM h0
      refine ⟨h1, es, clk, h2, ⟨fun e he => ?_, fun q hq1 hlq => ?_⟩⟩
      · obtain ⟨q, g1, g2, g3⟩ := h3.sound e he
        exact ⟨q, g1, by rw [getD_set l i q.op hil, if_neg (hq q g1)]; exact g2, g3⟩
      · rw [getD_set l i q.op hil, if_neg (hq q hq1)] at hlq
        exact h3.whole q hq1 hlq
  | new ob ob' k =>
    rw [hk] at hob
    obtain ⟨hi0, hq, ⟨c, t, z, rfl⟩, hob⟩ := hob
    refine hob f _ w hA _ _ ?_
    rintro v' w' ⟨rfl, rfl⟩
    have hb1 := (Below.refl _ w).alloc (Nat.le_refl _) (Obj.cells c t z)
    have hold : ∀ x, x < w.heap.size → (w.alloc (Obj.cells c t z)).heap[x]? = w.heap[x]? := fun x hx => Below.heap_alloc w _ x hx
    refine ⟨by simpa using hs, fun x => if x = i then w.heap.size else f x, ?_, hB.trans (hb1.mono hB.size), ?_, hC', ?_, hL' hq⟩
    · have := canon_put hok ho l hil f (fun x => if x = i then w.heap.size else f x) (fun j hj => by
        have hji : j ≠ i := by rintro rfl; rw [hif] at hj; cases hj
        unfold vl
        cases kind j <;> simp [hji]) (kind := kind) (.inr hif)
      rw [← this]; unfold vl; rw [hk]; simp
    · intro j ob1 ob2 k1 hj hlj
      by_cases hji : j = i
      · subst hji
        rw [hk] at hj; cases hj
        simp only [if_true]
        exact ⟨hB.size, heap_alloc_new w _⟩
      · rw [getD_set l i j hil, if_neg hji] at hlj
        simp only [if_neg hji]
        obtain ⟨h1, h2⟩ := hN j ob1 ob2 k1 hj hlj
        exact ⟨h1, (hold _ (Array.getElem?_eq_some_iff.1 h2).1).trans h2⟩
    · intro h0
      rw [getD_set l i 0 hil, if_neg (fun e => hi0 e.symm)] at h0
      obtain ⟨h1, es, clk, h2, h3⟩ := hM h0
      simp only [if_neg (fun e : (0 : Nat) = i => hi0 e.symm)]
      refine ⟨h1, es, clk, (hold _ (Array.getElem?_eq_some_iff.1 h2).1).trans h2, ⟨fun e he => ?_, fun q hq1 hlq => ?_⟩⟩
      · obtain ⟨q, g1, g2, g3, g4⟩ := h3.sound e he
        refine ⟨q, g1, by rw [getD_set l i q.op hil, if_neg (hq q g1)]; exact g2, g3, ?_⟩
        rw [g4]
        by_cases hbi : q.bld = i
        · exfalso
          have hlb := hL q g1 g2
          rw [hbi, hif] at hlb; cases hlb
        · simp only [if_neg hbi]
      · rw [getD_set l i q.op hil, if_neg (hq q hq1)] at hlq
        exact h3.whole q hq1 hlq
  | got F R =>
    rw [hk] at hob
    obtain ⟨rfl, hq, rfl, hob⟩ := hob
    refine hob _ w _ _ ?_
    rintro v' w' ⟨rfl, rfl⟩
    have hb1 := (Below.refl _ w).alloc (Nat.le_refl _) (Obj.map #[] 0)
    have hold : ∀ x, x < w.heap.size → (w.alloc (Obj.map #[] 0)).heap[x]? = w.heap[x]? := fun x hx => Below.heap_alloc w _ x hx
    refine ⟨by simpa using hs, fun x => if x = 0 then w.heap.size else f x, ?_, hB.trans (hb1.mono hB.size), ?_, hC', ?_, hL' hq⟩
    · have := canon_put hok ho l hil f (fun x => if x = 0 then w.heap.size else f x) (fun j hj => by
        have hji : j ≠ 0 := by rintro rfl; rw [hif] at hj; cases hj
        unfold vl
        cases kind j <;> simp [hji]) (kind := kind) (.inr hif)
      rw [← this]; unfold vl; rw [hk]; simp
    · intro j ob1 ob2 k1 hj hlj
      have hji : j ≠ 0 := by rintro rfl; rw [hk] at hj; cases hj
      rw [getD_set l 0 j hil, if_neg hji] at hlj
      simp only [if_neg hji]
      obtain ⟨h1, h2⟩ := hN j ob1 ob2 k1 hj hlj
      exact ⟨h1, (hold _ (Array.getElem?_eq_some_iff.1 h2).1).trans h2⟩
    · intro _
      simp only [if_true]
      refine ⟨hB.size, #[], 0, heap_alloc_new w _, ⟨fun e he => (by simp at he), fun q hq1 hlq => ?_⟩⟩
      exfalso
      rw [getD_set l 0 q.op hil, if_neg (hq q hq1)] at hlq
      obtain ⟨t, ht, hto⟩ := hz q hq1
      cases hoq : ops[q.op]? with
      | none =>
        rw [hoq] at ht; cases ht
      | some oq =>
        rw [hoq] at ht; cases ht
        obtain ⟨e, he, h1, h2⟩ := hto
        have := hC q.op _ hoq hlq e he h2
        rw [h1, hif] at this; cases this
  | put j =>
    rw [hk] at hob
    obtain ⟨q, hq1, rfl, hi0, hdn, ⟨t, ht, hto⟩, ⟨t2, ht2, hto2⟩, hbl, hob⟩ := hob
    have hl0 := hown t ht 0 hto (by omega)
    have hlb := hown t2 ht2 q.bld hto2 hbl
    obtain ⟨h1, es, clk, h2, h3⟩ := hM hl0
    have hkey : ∀ q2 ∈ ins, q2.key = q.key → q2.op = q.op ∧ q2.bld = q.bld ∧ q2.k = q.k := fun q2 hq2 e => by
      unfold okE at hE
      have g := (List.all_eq_true.1 (List.all_eq_true.1 (and_l hE) q2 hq2)) q hq1
      exact of_decide_eq_true g e
    refine hob f _ w es clk hA h2 (fun e he => ?_) _ _ ?_
    · obtain ⟨q2, g1, g2, g3, -⟩ := h3.sound e he
      refine ⟨q2.key, g3, fun e => ?_⟩
      rw [(hkey q2 g1 e).1, hif] at g2; cases g2
    intro v' w' hT
    have hne : ∀ j ob ob' k, kind j = .new ob ob' k → l.getD j false = true → f j ≠ f 0 := fun j ob ob' k hj hlj e => by
      obtain ⟨g1, g2⟩ := hN j ob ob' k hj hlj
      obtain ⟨c, t, z, rfl⟩ := hcl j ob ob' k hj
      rw [e, h2] at g2
      cases g2
    refine ⟨by simpa using hs, f, ?_, ?_, ?_, hC', ?_, ?_⟩
    · have := canon_put hok ho l hil f f (fun _ _ => rfl) (kind := kind) (.inl hdn)
      rw [← this, hdn]; rfl
    · refine ⟨hT.os.trans hB.os, hT.tape.trans hB.tape, hT.output.trans hB.output, by rw [hT.size]; exact hB.size, fun x hx => ?_⟩
      rw [hT.other x (by omega)]
      exact hB.block x hx
    · intro j ob ob' k hj hlj
      have hji : j ≠ q.op := by rintro rfl; rw [hk] at hj; cases hj
      rw [getD_set l q.op j hil, if_neg hji] at hlj
      obtain ⟨g1, g2⟩ := hN j ob ob' k hj hlj
      exact ⟨g1, (hT.other _ (hne j ob ob' k hj hlj)).trans g2⟩
    · intro _
      refine ⟨h1, _, _, hT.self, ⟨fun e he => ?_, fun q2 hq2 hlq => ?_⟩⟩
      · rw [Array.toList_push, List.mem_append, List.mem_singleton] at he
        rcases he with he | rfl
        · obtain ⟨q2, g1, g2, g3⟩ := h3.sound e he
          refine ⟨q2, g1, ?_, g3⟩
          rw [getD_set l q.op q2.op hil]
          split
          · rfl
          · exact g2
        · exact ⟨q, hq1, by rw [getD_set l q.op q.op hil, if_pos rfl], rfl, rfl⟩
      · by_cases hqo : q2.op = q.op
        · have hkk : q2.key = q.key := by
            unfold okE at hE
            have g := (List.all_eq_true.1 (List.all_eq_true.1 (and_r hE) q2 hq2)) q hq1
            exact of_decide_eq_true g hqo
          exact ⟨_, by rw [Array.toList_push]; exact List.mem_append_right _ (List.mem_singleton.2 rfl), by rw [hkk]⟩
        · rw [getD_set l q.op q2.op hil, if_neg hqo] at hlq
          obtain ⟨e, he, g⟩ := h3.whole q2 hq2 hlq
          exact ⟨e, by rw [Array.toList_push]; exact List.mem_append_left _ he, g⟩
    · intro q2 g1 g2
      rw [getD_set l q.op q2.bld hil]
      split
      · rfl
      · by_cases hqo : q2.op = q.op
        · have hkk : q2.key = q.key := by
            unfold okE at hE
            have g := (List.all_eq_true.1 (List.all_eq_true.1 (and_r hE) q2 g1)) q hq1
            exact of_decide_eq_true g hqo
          rw [(hkey q2 g1 hkk).2.1]
          exact hlb
        · rw [getD_set l q.op q2.op hil, if_neg hqo] at g2
          exact hL q2 g1 g2
  | set b ob ob' => rw [hk] at hob; exact hob.elim
def cellsK : Knd → Bool
  | .new (.cells _ _ _) _ _ => true
  | .new _ _ _ => false
  | _ => true
theorem cells_of {kinds : List Knd} (h : kinds.all cellsK = true) : ∀ i ob ob' k, kindOf kinds i = .new ob ob' k → ∃ c t z, ob = .cells c t z := by
  intro i ob ob' k hk
  have hm : Knd.new ob ob' k ∈ kinds := by
    unfold kindOf at hk
    rw [List.getD_eq_getElem?_getD] at hk
    cases hg : kinds[i]? with
    | none => rw [hg] at hk; cases hk
    | some y => rw [hg] at hk; simp only [Option.getD_some] at hk; rw [← hk]; exact List.mem_of_getElem? hg
  have := List.all_eq_true.1 h _ hm
  cases ob with
  | cells c t z => exact ⟨c, t, z, rfl⟩
  | _ => cases this
theorem edge_of {ins : List Ent} (h : ins.all (fun q => edge ops md q.op 0) = true) : ∀ q ∈ ins, ∃ oq, ops[q.op]? = some oq ∧ ∃ e ∈ oq.after.toList, e.on = 0 ∧ Region.binds md e = true := by
  intro q hq
  have := List.all_eq_true.1 h q hq
  unfold edge at this
  cases hv : ops[q.op]? with
  | none => rw [hv] at this; cases this
  | some o =>
    rw [hv] at this
    simp only [List.any_eq_true, Bool.and_eq_true] at this
    obtain ⟨e, he, h1, h2⟩ := this
    exact ⟨o, rfl, e, he, by simpa using h1, h2⟩
theorem pool_map {id : Nat} {W : World} {a0 : Act} (m : Nat) (ins : List Ent) (kinds : List Knd) (us : List (List Nat)) (dl : (Nat → Nat) → List (Option Tmp × Value)) (hm : P.follows .mixedOrders = true) (hok : (okOps ops a0 .any (usesOf us) && okG ops (kindOf kinds) .any) = true) (hdag : dag ops = true) (hmn : decide (m < ops.size) = true) (hpre : preT ops .any m = true) (hE : okE ins ops .any = true)
    (hcl : kinds.all cellsK = true) (hz : ins.all (fun q => edge ops .any q.op 0) = true)
    (hdl : ∀ f, ((List.range m).map fun i => ((ops[i]?).bind (·.dst), vl (kindOf kinds) f i)) = dl f)
    (hob : ∀ i, i < m → MOb ins P ops (kindOf kinds) (usesOf us) a0 i) (hm0 : 0 < m)
    (fin : ∀ (f : Nat → Nat) (w : World) (es : Array MapEntry) (clk : Nat), Below W.drew.heap.size W.drew w →
      (∀ i ob ob' k, kindOf kinds i = .new ob ob' k → i < m → W.drew.heap.size ≤ f i ∧ w.heap[f i]? = some ob) →
      W.drew.heap.size ≤ f 0 → w.heap[f 0]? = some (.map es clk) → MapIs ins (upto ops.size m) f es →
      ∀ fuel, ops.size - m ≤ fuel → wpAny P .any ops Q fuel (upto ops.size m) (puts (dl f) a0) w) :
    (Code.region id ops true).wp P Q a0 W := by
  have hmn' := of_decide_eq_true hmn
  refine wp_region_any hm ?_
  refine any_until m (fun l a w => (∀ j, m ≤ j → l.getD j false = false) ∧ MInv ins .any ops (kindOf kinds) a0 W.drew l a w) ?_ ?_ ?_ _ _ _ _ ?_ ?_
  · rintro fuel l a w ⟨h1, hs, f, rfl, hB, hN, -, hM, -⟩ h2 hc
    obtain rfl := upto_eq hs h2 h1
    rw [count_upto _ _ (by omega)] at hc
    rw [canon_upto (and_l hok) f m (by omega), hdl f]
    obtain ⟨g1, es, clk, g2, g3⟩ := hM (h2 0 hm0)
    exact fin f w es clk hB (fun i ob ob' k hk hi => hN i ob ob' k hk (h2 i hi)) g1 g2 g3 fuel hc
  · rintro l a w ⟨h1, hs, -⟩ hn hr
    have := all_listed hdag l hs hr (m + 1) m (by omega) (by omega)
    rw [h1 m (Nat.le_refl _)] at this; cases this
  · rintro l a w i ⟨h1, hI⟩ hn hi
    have hC := hI
    obtain ⟨-, -, -, -, -, hC, -⟩ := hC
    have him := preT_lt hpre hi hC h1 hn
    refine wpOp_mono (fun a w h => ⟨fun j hj => ?_, h⟩) (minv_step (and_l hok) (and_r hok) hE (cells_of hcl) (edge_of hz) (hob i him) hI hi)
    obtain ⟨hil, -⟩ := ready_get hi
    rw [getD_set l i j hil, if_neg (by omega)]
    exact h1 j hj
  · simp
  · exact ⟨fun j _ => by rw [Array.getD_eq_getD_getElem?, Array.getElem?_replicate]; split <;> rfl, minv_start _ _⟩
end
end Go.Proofs.YtdaobioomoajfaaGreat.G
namespace Go.Proofs.YtdaobioomoajfaaGreat
open Go.RowKit
def mthS : Lt → String
  | .u => "loop.example/s02095/impl.user"
  | .e => "loop.example/s02095/impl.element"
  | .o => "loop.example/s02095/impl.other"
  | .n => "loop.example/s02095/impl.nonce"
  | .b => "loop.example/s02095/impl.box"
  | .m => "loop.example/s02095/impl.mac"
  | .c => "loop.example/s02095/impl.code"
def fnV (v : Value) (q : Lt) : Value := .func (.method (mthS q)) #[v] #[]
section
variable {A : Act} {w : World} {dst : Option Tmp} {ty : TypeId} {ps : String} {af : Array Edge} {gd : Option (Nat × Bool)} {x y : Operand} {b i : Nat}
theorem mv_any {u : Value} (hx : A.eval x = u) : Does Tryz.prog { dst := dst, op := .move x, type := ty, pos := ps, after := af, guard := gd } A w fun v' w' => v' = u ∧ w' = w := by
  have h : (execOp A.eval { dst := dst, op := .move x, type := ty, pos := ps, after := af, guard := gd }).run Tryz.prog w = .ok (.value u) w := by generalize A.eval = ev at *; simp [execOp, hx, go_sem]
  exact does_value h ⟨rfl, rfl⟩
theorem nc_if {T : TypeId} {u v : Value} (hv : v = .iface T u) (hx : A.eval x = v) : Does Tryz.prog { dst := dst, op := .nilCheck x, type := ty, pos := ps, after := af, guard := gd } A w fun v' w' => v' = v ∧ w' = w := by
  subst hv
  have h : (execOp A.eval { dst := dst, op := .nilCheck x, type := ty, pos := ps, after := af, guard := gd }).run Tryz.prog w = .ok (.value (.iface T u)) w := by generalize A.eval = ev at *; simp [execOp, hx, go_sem]
  exact does_value h ⟨rfl, rfl⟩
theorem mk_fn {u : Value} {s : String} (hx : A.eval x = u) : Does Tryz.prog { dst := dst, op := .makeFunc (.method s) #[x] #[], type := ty, pos := ps, after := af, guard := gd } A w fun v' w' => v' = .func (.method s) #[u] #[] ∧ w' = w := by
  have h : (execOp A.eval { dst := dst, op := .makeFunc (.method s) #[x] #[], type := ty, pos := ps, after := af, guard := gd }).run Tryz.prog w = .ok (.value (.func (.method s) #[u] #[])) w := by generalize A.eval = ev at *; simp [execOp, hx, go_sem, Instr.makeFunc]
  exact does_value h ⟨rfl, rfl⟩
theorem doV_as {u : Value} (hx : A.eval x = u) : Does Tryz.prog { dst := dst, op := .assign x, type := ty, pos := ps, after := af, guard := gd } A w fun v' w' => v' = u ∧ w' = w := by
  have h : (execOp A.eval { dst := dst, op := .assign x, type := ty, pos := ps, after := af, guard := gd }).run Tryz.prog w = .ok (.value u) w := by generalize A.eval = ev at *; simp [execOp, hx, go_sem]
  exact does_value h ⟨rfl, rfl⟩
theorem mk_map : Does Tryz.prog { dst := dst, op := .makeMap 51 none, type := ty, pos := ps, after := af, guard := gd } A w fun v w' => v = .map (some w.heap.size) ∧ w' = w.alloc (.map #[] 0) := by
  have h : (execOp A.eval { dst := dst, op := .makeMap 51 none, type := ty, pos := ps, after := af, guard := gd }).run Tryz.prog w = .ok (.value (.map (some w.heap.size))) (w.alloc (.map #[] 0)) := by generalize A.eval = ev at *; simp [execOp, go_sem, Instr.makeMap]
  exact does_value h ⟨rfl, rfl⟩
theorem bs_0    : Does Tryz.prog { dst := dst, op := .buildSlice 50 0 #[], type := ty, pos := ps, after := af, guard := gd } A w fun v w' => v = nv (1000 + 0) w.heap.size ∧ w' = w.alloc (.cells #[] 1) := by
  have h : (execOp A.eval { dst := dst, op := .buildSlice 50 0 #[], type := ty, pos := ps, after := af, guard := gd }).run Tryz.prog w = .ok (.value (.slice (some ⟨w.heap.size, 0, none⟩) 0 0)) (w.alloc (.cells #[] 1)) := by generalize A.eval = ev at *; simp [execOp, go_sem]
  exact does_value h ⟨rfl, rfl⟩
theorem bs_1 {x0 : Operand} {s0 : String} {u0 : Value} (h0 : A.eval x0 = .func (.method s0) #[u0] #[]) : Does Tryz.prog { dst := dst, op := .buildSlice 50 1 #[(0, x0)], type := ty, pos := ps, after := af, guard := gd } A w fun v w' => v = nv (1000 + 1) w.heap.size ∧ w' = w.alloc (.cells #[.func (.method s0) #[u0] #[]] 1) := by
  have h : (execOp A.eval { dst := dst, op := .buildSlice 50 1 #[(0, x0)], type := ty, pos := ps, after := af, guard := gd }).run Tryz.prog w = .ok (.value (.slice (some ⟨w.heap.size, 0, none⟩) 1 1)) (w.alloc (.cells #[.func (.method s0) #[u0] #[]] 1)) := by generalize A.eval = ev at *; simp [execOp, h0, go_sem]
  exact does_value h ⟨rfl, rfl⟩
theorem bs_2 {x0 : Operand} {x1 : Operand} {s0 : String} {u0 : Value} {s1 : String} {u1 : Value} (h0 : A.eval x0 = .func (.method s0) #[u0] #[]) (h1 : A.eval x1 = .func (.method s1) #[u1] #[]) : Does Tryz.prog { dst := dst, op := .buildSlice 50 2 #[(0, x0), (1, x1)], type := ty, pos := ps, after := af, guard := gd } A w fun v w' => v = nv (1000 + 2) w.heap.size ∧ w' = w.alloc (.cells #[.func (.method s0) #[u0] #[], .func (.method s1) #[u1] #[]] 1) := by
  have h : (execOp A.eval { dst := dst, op := .buildSlice 50 2 #[(0, x0), (1, x1)], type := ty, pos := ps, after := af, guard := gd }).run Tryz.prog w = .ok (.value (.slice (some ⟨w.heap.size, 0, none⟩) 2 2)) (w.alloc (.cells #[.func (.method s0) #[u0] #[], .func (.method s1) #[u1] #[]] 1)) := by generalize A.eval = ev at *; simp [execOp, h0, h1, go_sem]
  exact does_value h ⟨rfl, rfl⟩
theorem bs_3 {x0 : Operand} {x1 : Operand} {x2 : Operand} {s0 : String} {u0 : Value} {s1 : String} {u1 : Value} {s2 : String} {u2 : Value} (h0 : A.eval x0 = .func (.method s0) #[u0] #[]) (h1 : A.eval x1 = .func (.method s1) #[u1] #[]) (h2 : A.eval x2 = .func (.method s2) #[u2] #[]) : Does Tryz.prog { dst := dst, op := .buildSlice 50 3 #[(0, x0), (1, x1), (2, x2)], type := ty, pos := ps, after := af, guard := gd } A w fun v w' => v = nv (1000 + 3) w.heap.size ∧ w' = w.alloc (.cells #[.func (.method s0) #[u0] #[], .func (.method s1) #[u1] #[], .func (.method s2) #[u2] #[]] 1) := by
  have h : (execOp A.eval { dst := dst, op := .buildSlice 50 3 #[(0, x0), (1, x1), (2, x2)], type := ty, pos := ps, after := af, guard := gd }).run Tryz.prog w = .ok (.value (.slice (some ⟨w.heap.size, 0, none⟩) 3 3)) (w.alloc (.cells #[.func (.method s0) #[u0] #[], .func (.method s1) #[u1] #[], .func (.method s2) #[u2] #[]] 1)) := by generalize A.eval = ev at *; simp [execOp, h0, h1, h2, go_sem]
  exact does_value h ⟨rfl, rfl⟩
theorem bs_4 {x0 : Operand} {x1 : Operand} {x2 : Operand} {x3 : Operand} {s0 : String} {u0 : Value} {s1 : String} {u1 : Value} {s2 : String} {u2 : Value} {s3 : String} {u3 : Value} (h0 : A.eval x0 = .func (.method s0) #[u0] #[]) (h1 : A.eval x1 = .func (.method s1) #[u1] #[]) (h2 : A.eval x2 = .func (.method s2) #[u2] #[]) (h3 : A.eval x3 = .func (.method s3) #[u3] #[]) : Does Tryz.prog { dst := dst, op := .buildSlice 50 4 #[(0, x0), (1, x1), (2, x2), (3, x3)], type := ty, pos := ps, after := af, guard := gd } A w fun v w' => v = nv (1000 + 4) w.heap.size ∧ w' = w.alloc (.cells #[.func (.method s0) #[u0] #[], .func (.method s1) #[u1] #[], .func (.method s2) #[u2] #[], .func (.method s3) #[u3] #[]] 1) := by
  have h : (execOp A.eval { dst := dst, op := .buildSlice 50 4 #[(0, x0), (1, x1), (2, x2), (3, x3)], type := ty, pos := ps, after := af, guard := gd }).run Tryz.prog w = .ok (.value (.slice (some ⟨w.heap.size, 0, none⟩) 4 4)) (w.alloc (.cells #[.func (.method s0) #[u0] #[], .func (.method s1) #[u1] #[], .func (.method s2) #[u2] #[], .func (.method s3) #[u3] #[]] 1)) := by generalize A.eval = ev at *; simp [execOp, h0, h1, h2, h3, go_sem]
  exact does_value h ⟨rfl, rfl⟩
theorem bs_5 {x0 : Operand} {x1 : Operand} {x2 : Operand} {x3 : Operand} {x4 : Operand} {s0 : String} {u0 : Value} {s1 : String} {u1 : Value} {s2 : String} {u2 : Value} {s3 : String} {u3 : Value} {s4 : String} {u4 : Value} (h0 : A.eval x0 = .func (.method s0) #[u0] #[]) (h1 : A.eval x1 = .func (.method s1) #[u1] #[]) (h2 : A.eval x2 = .func (.method s2) #[u2] #[]) (h3 : A.eval x3 = .func (.method s3) #[u3] #[]) (h4 : A.eval x4 = .func (.method s4) #[u4] #[]) : Does Tryz.prog { dst := dst, op := .buildSlice 50 5 #[(0, x0), (1, x1), (2, x2), (3, x3), (4, x4)], type := ty, pos := ps, after := af, guard := gd } A w fun v w' => v = nv (1000 + 5) w.heap.size ∧ w' = w.alloc (.cells #[.func (.method s0) #[u0] #[], .func (.method s1) #[u1] #[], .func (.method s2) #[u2] #[], .func (.method s3) #[u3] #[], .func (.method s4) #[u4] #[]] 1) := by
  have h : (execOp A.eval { dst := dst, op := .buildSlice 50 5 #[(0, x0), (1, x1), (2, x2), (3, x3), (4, x4)], type := ty, pos := ps, after := af, guard := gd }).run Tryz.prog w = .ok (.value (.slice (some ⟨w.heap.size, 0, none⟩) 5 5)) (w.alloc (.cells #[.func (.method s0) #[u0] #[], .func (.method s1) #[u1] #[], .func (.method s2) #[u2] #[], .func (.method s3) #[u3] #[], .func (.method s4) #[u4] #[]] 1)) := by generalize A.eval = ev at *; simp [execOp, h0, h1, h2, h3, h4, go_sem]
  exact does_value h ⟨rfl, rfl⟩
theorem find_no (key : Int) : ∀ (es : List MapEntry) (i : Nat), (∀ e ∈ es, ∃ k', e.key = .int .i64 k' ∧ k' ≠ key) → Instr.findNow (.int .i64) (.int .i64 key) es i = some none
  | [], _, _ => rfl
  | e :: es, i, h => by
    obtain ⟨k', h1, h2⟩ := h e (by simp)
    have hn : (key == k') = false := by simpa using fun h => h2 h.symm
    simp only [Instr.findNow, h1, Instr.sameNow, if_true, hn]
    exact find_no key es (i + 1) (fun e he => h e (by simp [he]))
theorem find_yes (key : Int) (u : Value) : ∀ (es : List MapEntry) (i : Nat), (∀ e ∈ es, ∃ k', e.key = .int .i64 k' ∧ (k' = key → e.val = u)) → (∃ e ∈ es, e.key = .int .i64 key) → ∃ j, Instr.findNow (.int .i64) (.int .i64 key) es i = some (some (j, u))
  | [], _, _, h => by obtain ⟨e, he, -⟩ := h; cases he
  | e :: es, i, h, h2 => by
    obtain ⟨k', h1, h3⟩ := h e (by simp)
    by_cases hk : key = k'
    · subst hk
      refine ⟨i, ?_⟩
      simp only [Instr.findNow, h1, Instr.sameNow, if_true, beq_self_eq_true, h3 rfl]
    · have hn : (key == k') = false := by simpa using hk
      obtain ⟨e2, he2, h4⟩ := h2
      have he3 : e2 ∈ es := by
        rcases List.mem_cons.1 he2 with rfl | h5
        · rw [h1] at h4
          injection h4 with _ h4
          exact absurd h4.symm hk
        · exact h5
      obtain ⟨j, hj⟩ := find_yes key u es (i + 1) (fun e he => h e (by simp [he])) ⟨e2, he3, h4⟩
      exact ⟨j, by simp only [Instr.findNow, h1, Instr.sameNow, if_true, hn]; exact hj⟩
theorem in_map {m k v : Operand} {g : Nat} {key : Int} {u : Value} {es : Array MapEntry} {clk : Nat} (h0 : A.eval m = .map (some g)) (h1 : A.eval k = .int .i64 key) (h2 : A.eval v = u) (hg : w.heap[g]? = some (.map es clk)) (hk : ∀ e ∈ es.toList, ∃ k', e.key = .int .i64 k' ∧ k' ≠ key) :
    Does Tryz.prog { dst := dst, op := .insert 51 m k v, type := ty, pos := ps, after := af, guard := gd } A w fun _ w' => Turned g (.map (es.push ⟨.int .i64 key, u, clk⟩) (clk + 1)) w w' := by
  have hf := find_no key es.toList 0 hk
  have hb : (Instr.mapUpdate 51 (.map (some g)) (.int .i64 key) u).run Tryz.prog w = .ok () { w with heap := w.heap.setIfInBounds g (.map (es.push ⟨.int .i64 key, u, clk⟩) (clk + 1)) } := by
    simp [Instr.mapUpdate, run_underlying Tryz.underlying51, MapKept.run_getObj_map hg, MapKept.run_checkKey Tryz.underlying3 (k := .int .i64 key) rfl, MapKept.run_findKey Tryz.underlying3 hf, MapKept.run_setObj_map _ hg, Result.andThen]
  have h : (execOp A.eval { dst := dst, op := .insert 51 m k v, type := ty, pos := ps, after := af, guard := gd }).run Tryz.prog w = .ok .skip { w with heap := w.heap.setIfInBounds g (.map (es.push ⟨.int .i64 key, u, clk⟩) (clk + 1)) } := by
    generalize A.eval = ev at *
    simp [execOp, h0, h1, h2, hb, Result.andThen]
  have hh := MapKept.heap_set (o' := .map (es.push ⟨.int .i64 key, u, clk⟩) (clk + 1)) hg
  exact does_skip h ⟨rfl, rfl, rfl, by simp, hh.1, hh.2⟩
end
section
open G
variable {P : Program} {ops : Array Oper} {kind : Nat → G.Knd} {a0 : Act} {uses : Nat → List Nat} {ins : List G.Ent} {i : Nat} {o : Oper}
theorem mob_val {v : Value} (l : List (Nat × Value)) (ho : ops[i]? = some o) (hk : kind i = .val v) (h0 : i ≠ 0) (hq : ∀ q ∈ ins, q.op ≠ i) (hi : ∀ f, (uses i).map (fun t => (t, G.look ops kind a0 f i t)) = l)
    (h : ∀ A w, Evs A l → Does P o A w fun v' w' => v' = v ∧ w' = w) : G.MOb ins P ops kind uses a0 i := by
  intro o' ho'
  rw [ho] at ho'
  cases ho'
  rw [hk]
  exact ⟨h0, hq, fun f A w hA => h A w (hi f ▸ evs_of _ hA)⟩
theorem mob_new {ob ob' : Obj} (n : Nat) (l : List (Nat × Value)) (ho : ops[i]? = some o) (hk : kind i = .new ob ob' (1000 + n)) (h0 : i ≠ 0) (hq : ∀ q ∈ ins, q.op ≠ i) (hc : ∃ c t z, ob = .cells c t z) (hi : ∀ f, (uses i).map (fun t => (t, G.look ops kind a0 f i t)) = l)
    (h : ∀ A w, Evs A l → Does P o A w fun v w' => v = nv (1000 + n) w.heap.size ∧ w' = w.alloc ob) : G.MOb ins P ops kind uses a0 i := by
  intro o' ho'
  rw [ho] at ho'
  cases ho'
  rw [hk]
  exact ⟨h0, hq, hc, fun f A w hA => h A w (hi f ▸ evs_of _ hA)⟩
theorem mob_map {R : Nat → World → Prop} (ho : ops[0]? = some o) (hk : kind 0 = .got (fun x => .map (some x)) R) (hq : ∀ q ∈ ins, q.op ≠ 0)
    (h : ∀ A w, Does P o A w fun v w' => v = .map (some w.heap.size) ∧ w' = w.alloc (.map #[] 0)) : G.MOb ins P ops kind uses a0 0 := by
  intro o' ho'
  rw [ho] at ho'
  cases ho'
  rw [hk]
  exact ⟨rfl, hq, rfl, h⟩
theorem mob_put {j : Nat} (q : G.Ent) (l : (Nat → Nat) → List (Nat × Value)) (ho : ops[i]? = some o) (hk : kind i = .put j) (hq : q ∈ ins) (hqi : q.op = i) (h0 : i ≠ 0) (hd : o.dst = none) (hm : ∃ t ∈ uses i, ownOf ops t = some 0) (hb : ∃ t ∈ uses i, ownOf ops t = some q.bld) (hl : q.bld < i) (hi : ∀ f, (uses i).map (fun t => (t, G.look ops kind a0 f i t)) = l f)
    (h : ∀ f A w es clk, Evs A (l f) → w.heap[f 0]? = some (.map es clk) → (∀ e ∈ es.toList, ∃ k', e.key = .int .i64 k' ∧ k' ≠ q.key) → Does P o A w fun _ w' => Turned (f 0) (.map (es.push ⟨.int .i64 q.key, nv q.k (f q.bld), clk⟩) (clk + 1)) w w') : G.MOb ins P ops kind uses a0 i := by
  intro o' ho'
  rw [ho] at ho'
  cases ho'
  rw [hk]
  exact ⟨q, hq, hqi, h0, hd, hm, hb, hl, fun f A w es clk hA => h f A w es clk (hi f ▸ evs_of _ hA)⟩
end
def entS : List G.Ent := [⟨8, 7, 1, 1002⟩, ⟨13, 12, 2, 1001⟩, ⟨24, 23, 3, 1003⟩, ⟨38, 37, 4, 1004⟩, ⟨55, 54, 5, 1005⟩, ⟨60, 59, 6, 1001⟩, ⟨62, 61, 7, 1000⟩, ⟨67, 66, 8, 1001⟩]
theorem ent_key : ∀ q ∈ entS, 1 ≤ q.key ∧ q.key ≤ 8 := by decide
theorem sm_at {es : Array MapEntry} {f : Nat → Nat} (hI : G.MapIs entS (upto 70 68) f es) (q : G.Ent) (hq : q ∈ entS) (hun : ∀ r ∈ entS, r.key = q.key → r = q) (hop : q.op < 68) : ∃ j, Instr.findNow (.int .i64) (.int .i64 q.key) es.toList 0 = some (some (j, nv q.k (f q.bld))) := by
  refine find_yes q.key _ _ 0 (fun e he => ?_) (hI.whole q hq ?_)
  · obtain ⟨r, g1, -, g3, g4⟩ := hI.sound e he
    refine ⟨r.key, g3, fun e => ?_⟩
    rw [g4, hun r g1 e]
  · rw [upto_getD, decide_eq_true (by omega), decide_eq_true hop]; rfl
theorem ins_ne0 : ∀ q ∈ entS, q.op ≠ 0 := by decide
def SM (v : Value) (base : Nat) (w : World) (g : Nat) : Prop := base ≤ g ∧ ∃ es clk, w.heap[g]? = some (.map es clk) ∧ ∀ k : Int,
  if kindB k = true then ∃ j b, base ≤ b ∧ Instr.findNow (.int .i64) (.int .i64 k) es.toList 0 = some (some (j, .slice (some ⟨b, 0, none⟩) (flds k).length (flds k).length)) ∧ w.heap[b]? = some (.cells ((flds k).map (fnV v)).toArray 1)
  else Instr.findNow (.int .i64) (.int .i64 k) es.toList 0 = some none
theorem SM.keep {v : Value} {base : Nat} {w w' : World} {g : Nat} (h : SM v base w g) (hb : Below w.heap.size w w') : SM v base w' g := by
  obtain ⟨h0, es, clk, h1, h2⟩ := h
  have old : ∀ {x o}, w.heap[x]? = some o → w'.heap[x]? = some o := fun {x o} hx => (hb.block x (Array.getElem?_eq_some_iff.1 hx).1).trans hx
  refine ⟨h0, es, clk, old h1, fun k => ?_⟩
  have := h2 k
  split
  · rename_i hk
    rw [if_pos hk] at this
    obtain ⟨j, b, g1, g2, g3⟩ := this
    exact ⟨j, b, g1, g2, old g3⟩
  · rename_i hk
    rwa [if_neg hk] at this
theorem stpI (T : TypeId) (x : Value) (w : World) :
    Calls Tryz.prog 18 #[.iface T x] w fun e w' => ∃ g, e = .returned (.map (some g)) ∧ Below w.heap.size w w' ∧ SM (.iface T x) w.heap.size w' g := by
  obtain ⟨v, hv⟩ : ∃ v, v = (.iface T x : Value) := ⟨_, rfl⟩
  go_enter Tryz.func18, Tryz.ntmps18
  go_wp2
  rw [← hv]
  refine G.pool_map (W := w) 68 entS [.got (fun x => .map (some x)) (fun _ _ => True),
      .val v,
      .val v,
      .val (fnV v .u),
      .val v,
      .val v,
      .val (fnV v .e),
      .new (.cells #[fnV v .u, fnV v .e] 1) (.cells #[fnV v .u, fnV v .e] 1) 1002,
      .put 0,
      .val v,
      .val v,
      .val (fnV v .e),
      .new (.cells #[fnV v .e] 1) (.cells #[fnV v .e] 1) 1001,
      .put 0,
      .val v,
      .val v,
      .val (fnV v .u),
      .val v,
      .val v,
      .val (fnV v .o),
      .val v,
      .val v,
      .val (fnV v .b),
      .new (.cells #[fnV v .u, fnV v .o, fnV v .b] 1) (.cells #[fnV v .u, fnV v .o, fnV v .b] 1) 1003,
      .put 0,
      .val v,
      .val v,
      .val (fnV v .u),
      .val v,
      .val v,
      .val (fnV v .e),
      .val v,
      .val v,
      .val (fnV v .o),
      .val v,
      .val v,
      .val (fnV v .n),
      .new (.cells #[fnV v .u, fnV v .e, fnV v .o, fnV v .n] 1) (.cells #[fnV v .u, fnV v .e, fnV v .o, fnV v .n] 1) 1004,
      .put 0,
      .val v,
      .val v,
      .val (fnV v .e),
      .val v,
      .val v,
      .val (fnV v .o),
      .val v,
      .val v,
      .val (fnV v .n),
      .val v,
      .val v,
      .val (fnV v .b),
      .val v,
      .val v,
      .val (fnV v .m),
      .new (.cells #[fnV v .e, fnV v .o, fnV v .n, fnV v .b, fnV v .m] 1) (.cells #[fnV v .e, fnV v .o, fnV v .n, fnV v .b, fnV v .m] 1) 1005,
      .put 0,
      .val v,
      .val v,
      .val (fnV v .m),
      .new (.cells #[fnV v .m] 1) (.cells #[fnV v .m] 1) 1001,
      .put 0,
      .new (.cells #[] 1) (.cells #[] 1) 1000,
      .put 0,
      .val v,
      .val v,
      .val (fnV v .c),
      .new (.cells #[fnV v .c] 1) (.cells #[fnV v .c] 1) 1001,
      .put 0] [[], [0], [4], [5], [0], [7], [8], [6, 9], [3, 10], [0], [11], [12], [13], [3, 14], [0], [15], [16], [0], [18], [19], [0], [21], [22], [17, 20, 23], [3, 24], [0], [25], [26], [0], [28], [29], [0], [31], [32], [0], [34], [35], [27, 30, 33, 36], [3, 37], [0], [38], [39], [0], [41], [42], [0], [44], [45], [0], [47], [48], [0], [50], [51], [40, 43, 46, 49, 52], [3, 53], [0], [54], [55], [56], [3, 57], [], [3, 58], [0], [59], [60], [61], [3, 62]] (fun f => [(some 3, .map (some (f 0))), (some 4, v), (some 5, v), (some 6, fnV v .u), (some 7, v), (some 8, v), (some 9, fnV v .e), (some 10, .slice (some ⟨f 7, 0, none⟩) 2 2), (none, undef), (some 11, v), (some 12, v), (some 13, fnV v .e), (some 14, .slice (some ⟨f 12, 0, none⟩) 1 1), (none, undef), (some 15, v), (some 16, v), (some 17, fnV v .u), (some 18, v), (some 19, v), (some 20, fnV v .o), (some 21, v), (some 22, v), (some 23, fnV v .b), (some 24, .slice (some ⟨f 23, 0, none⟩) 3 3), (none, undef), (some 25, v), (some 26, v), (some 27, fnV v .u), (some 28, v), (some 29, v), (some 30, fnV v .e), (some 31, v), (some 32, v), (some 33, fnV v .o), (some 34, v), (some 35, v), (some 36, fnV v .n), (some 37, .slice (some ⟨f 37, 0, none⟩) 4 4), (none, undef), (some 38, v), (some 39, v), (some 40, fnV v .e), (some 41, v), (some 42, v), (some 43, fnV v .o), (some 44, v), (some 45, v), (some 46, fnV v .n), (some 47, v), (some 48, v), (some 49, fnV v .b), (some 50, v), (some 51, v), (some 52, fnV v .m), (some 53, .slice (some ⟨f 54, 0, none⟩) 5 5), (none, undef), (some 54, v), (some 55, v), (some 56, fnV v .m), (some 57, .slice (some ⟨f 59, 0, none⟩) 1 1), (none, undef), (some 58, .slice (some ⟨f 61, 0, none⟩) 0 0), (none, undef), (some 59, v), (some 60, v), (some 61, fnV v .c), (some 62, .slice (some ⟨f 66, 0, none⟩) 1 1), (none, undef)]) (by kernel_rfl) (by kernel_rfl) (by kernel_rfl) (by kernel_rfl) (by kernel_rfl) (by kernel_rfl) (by kernel_rfl) (by kernel_rfl) (fun _ => by kernel_rfl) ?_ (by decide) ?_
  · intro ix hix
    match ix, hix with
    | 0, _ => exact mob_map rfl rfl ins_ne0 (fun A w => mk_map)
    | 1, _ => exact mob_val [(0, v)] rfl rfl (by decide) (by decide) (fun _ => by kernel_rfl) (fun A w ⟨e0, _⟩ => mv_any e0)
    | 2, _ => exact mob_val [(4, v)] rfl rfl (by decide) (by decide) (fun _ => by kernel_rfl) (fun A w ⟨e0, _⟩ => nc_if hv e0)
    | 3, _ => exact mob_val [(5, v)] rfl rfl (by decide) (by decide) (fun _ => by kernel_rfl) (fun A w ⟨e0, _⟩ => mk_fn e0)
    | 4, _ => exact mob_val [(0, v)] rfl rfl (by decide) (by decide) (fun _ => by kernel_rfl) (fun A w ⟨e0, _⟩ => mv_any e0)
    | 5, _ => exact mob_val [(7, v)] rfl rfl (by decide) (by decide) (fun _ => by kernel_rfl) (fun A w ⟨e0, _⟩ => nc_if hv e0)
    | 6, _ => exact mob_val [(8, v)] rfl rfl (by decide) (by decide) (fun _ => by kernel_rfl) (fun A w ⟨e0, _⟩ => mk_fn e0)
    | 7, _ => exact mob_new 2 [(6, fnV v .u), (9, fnV v .e)] rfl rfl (by decide) (by decide) ⟨_, _, _, rfl⟩ (fun _ => by kernel_rfl) (fun A w ⟨e0, e1, _⟩ => bs_2 e0 e1)
    | 8, _ => exact mob_put ⟨8, 7, 1, 1002⟩ (fun f => [(3, .map (some (f 0))), (10, .slice (some ⟨f 7, 0, none⟩) 2 2)]) rfl rfl (by decide) rfl (by decide) rfl ⟨3, by decide, by kernel_rfl⟩ ⟨10, by decide, by kernel_rfl⟩ (by decide) (fun _ => by kernel_rfl) (fun f A w es clk ⟨e0, e1, _⟩ h0 hk => in_map e0 rfl e1 h0 hk)
    | 9, _ => exact mob_val [(0, v)] rfl rfl (by decide) (by decide) (fun _ => by kernel_rfl) (fun A w ⟨e0, _⟩ => mv_any e0)
    | 10, _ => exact mob_val [(11, v)] rfl rfl (by decide) (by decide) (fun _ => by kernel_rfl) (fun A w ⟨e0, _⟩ => nc_if hv e0)
    | 11, _ => exact mob_val [(12, v)] rfl rfl (by decide) (by decide) (fun _ => by kernel_rfl) (fun A w ⟨e0, _⟩ => mk_fn e0)
    | 12, _ => exact mob_new 1 [(13, fnV v .e)] rfl rfl (by decide) (by decide) ⟨_, _, _, rfl⟩ (fun _ => by kernel_rfl) (fun A w ⟨e0, _⟩ => bs_1 e0)
    | 13, _ => exact mob_put ⟨13, 12, 2, 1001⟩ (fun f => [(3, .map (some (f 0))), (14, .slice (some ⟨f 12, 0, none⟩) 1 1)]) rfl rfl (by decide) rfl (by decide) rfl ⟨3, by decide, by kernel_rfl⟩ ⟨14, by decide, by kernel_rfl⟩ (by decide) (fun _ => by kernel_rfl) (fun f A w es clk ⟨e0, e1, _⟩ h0 hk => in_map e0 rfl e1 h0 hk)
    | 14, _ => exact mob_val [(0, v)] rfl rfl (by decide) (by decide) (fun _ => by kernel_rfl) (fun A w ⟨e0, _⟩ => mv_any e0)
    | 15, _ => exact mob_val [(15, v)] rfl rfl (by decide) (by decide) (fun _ => by kernel_rfl) (fun A w ⟨e0, _⟩ => nc_if hv e0)
    | 16, _ => exact mob_val [(16, v)] rfl rfl (by decide) (by decide) (fun _ => by kernel_rfl) (fun A w ⟨e0, _⟩ => mk_fn e0)
    | 17, _ => exact mob_val [(0, v)] rfl rfl (by decide) (by decide) (fun _ => by kernel_rfl) (fun A w ⟨e0, _⟩ => mv_any e0)
    | 18, _ => exact mob_val [(18, v)] rfl rfl (by decide) (by decide) (fun _ => by kernel_rfl) (fun A w ⟨e0, _⟩ => nc_if hv e0)
    | 19, _ => exact mob_val [(19, v)] rfl rfl (by decide) (by decide) (fun _ => by kernel_rfl) (fun A w ⟨e0, _⟩ => mk_fn e0)
    | 20, _ => exact mob_val [(0, v)] rfl rfl (by decide) (by decide) (fun _ => by kernel_rfl) (fun A w ⟨e0, _⟩ => mv_any e0)
    | 21, _ => exact mob_val [(21, v)] rfl rfl (by decide) (by decide) (fun _ => by kernel_rfl) (fun A w ⟨e0, _⟩ => nc_if hv e0)
    | 22, _ => exact mob_val [(22, v)] rfl rfl (by decide) (by decide) (fun _ => by kernel_rfl) (fun A w ⟨e0, _⟩ => mk_fn e0)
    | 23, _ => exact mob_new 3 [(17, fnV v .u), (20, fnV v .o), (23, fnV v .b)] rfl rfl (by decide) (by decide) ⟨_, _, _, rfl⟩ (fun _ => by kernel_rfl) (fun A w ⟨e0, e1, e2, _⟩ => bs_3 e0 e1 e2)
    | 24, _ => exact mob_put ⟨24, 23, 3, 1003⟩ (fun f => [(3, .map (some (f 0))), (24, .slice (some ⟨f 23, 0, none⟩) 3 3)]) rfl rfl (by decide) rfl (by decide) rfl ⟨3, by decide, by kernel_rfl⟩ ⟨24, by decide, by kernel_rfl⟩ (by decide) (fun _ => by kernel_rfl) (fun f A w es clk ⟨e0, e1, _⟩ h0 hk => in_map e0 rfl e1 h0 hk)
    | 25, _ => exact mob_val [(0, v)] rfl rfl (by decide) (by decide) (fun _ => by kernel_rfl) (fun A w ⟨e0, _⟩ => mv_any e0)
    | 26, _ => exact mob_val [(25, v)] rfl rfl (by decide) (by decide) (fun _ => by kernel_rfl) (fun A w ⟨e0, _⟩ => nc_if hv e0)
    | 27, _ => exact mob_val [(26, v)] rfl rfl (by decide) (by decide) (fun _ => by kernel_rfl) (fun A w ⟨e0, _⟩ => mk_fn e0)
    | 28, _ => exact mob_val [(0, v)] rfl rfl (by decide) (by decide) (fun _ => by kernel_rfl) (fun A w ⟨e0, _⟩ => mv_any e0)
    | 29, _ => exact mob_val [(28, v)] rfl rfl (by decide) (by decide) (fun _ => by kernel_rfl) (fun A w ⟨e0, _⟩ => nc_if hv e0)
    | 30, _ => exact mob_val [(29, v)] rfl rfl (by decide) (by decide) (fun _ => by kernel_rfl) (fun A w ⟨e0, _⟩ => mk_fn e0)
    | 31, _ => exact mob_val [(0, v)] rfl rfl (by decide) (by decide) (fun _ => by kernel_rfl) (fun A w ⟨e0, _⟩ => mv_any e0)
    | 32, _ => exact mob_val [(31, v)] rfl rfl (by decide) (by decide) (fun _ => by kernel_rfl) (fun A w ⟨e0, _⟩ => nc_if hv e0)
    | 33, _ => exact mob_val [(32, v)] rfl rfl (by decide) (by decide) (fun _ => by kernel_rfl) (fun A w ⟨e0, _⟩ => mk_fn e0)
    | 34, _ => exact mob_val [(0, v)] rfl rfl (by decide) (by decide) (fun _ => by kernel_rfl) (fun A w ⟨e0, _⟩ => mv_any e0)
    | 35, _ => exact mob_val [(34, v)] rfl rfl (by decide) (by decide) (fun _ => by kernel_rfl) (fun A w ⟨e0, _⟩ => nc_if hv e0)
    | 36, _ => exact mob_val [(35, v)] rfl rfl (by decide) (by decide) (fun _ => by kernel_rfl) (fun A w ⟨e0, _⟩ => mk_fn e0)
    | 37, _ => exact mob_new 4 [(27, fnV v .u), (30, fnV v .e), (33, fnV v .o), (36, fnV v .n)] rfl rfl (by decide) (by decide) ⟨_, _, _, rfl⟩ (fun _ => by kernel_rfl) (fun A w ⟨e0, e1, e2, e3, _⟩ => bs_4 e0 e1 e2 e3)
    | 38, _ => exact mob_put ⟨38, 37, 4, 1004⟩ (fun f => [(3, .map (some (f 0))), (37, .slice (some ⟨f 37, 0, none⟩) 4 4)]) rfl rfl (by decide) rfl (by decide) rfl ⟨3, by decide, by kernel_rfl⟩ ⟨37, by decide, by kernel_rfl⟩ (by decide) (fun _ => by kernel_rfl) (fun f A w es clk ⟨e0, e1, _⟩ h0 hk => in_map e0 rfl e1 h0 hk)
    | 39, _ => exact mob_val [(0, v)] rfl rfl (by decide) (by decide) (fun _ => by kernel_rfl) (fun A w ⟨e0, _⟩ => mv_any e0)
    | 40, _ => exact mob_val [(38, v)] rfl rfl (by decide) (by decide) (fun _ => by kernel_rfl) (fun A w ⟨e0, _⟩ => nc_if hv e0)
    | 41, _ => exact mob_val [(39, v)] rfl rfl (by decide) (by decide) (fun _ => by kernel_rfl) (fun A w ⟨e0, _⟩ => mk_fn e0)
    | 42, _ => exact mob_val [(0, v)] rfl rfl (by decide) (by decide) (fun _ => by kernel_rfl) (fun A w ⟨e0, _⟩ => mv_any e0)
    | 43, _ => exact mob_val [(41, v)] rfl rfl (by decide) (by decide) (fun _ => by kernel_rfl) (fun A w ⟨e0, _⟩ => nc_if hv e0)
    | 44, _ => exact mob_val [(42, v)] rfl rfl (by decide) (by decide) (fun _ => by kernel_rfl) (fun A w ⟨e0, _⟩ => mk_fn e0)
    | 45, _ => exact mob_val [(0, v)] rfl rfl (by decide) (by decide) (fun _ => by kernel_rfl) (fun A w ⟨e0, _⟩ => mv_any e0)
    | 46, _ => exact mob_val [(44, v)] rfl rfl (by decide) (by decide) (fun _ => by kernel_rfl) (fun A w ⟨e0, _⟩ => nc_if hv e0)
    | 47, _ => exact mob_val [(45, v)] rfl rfl (by decide) (by decide) (fun _ => by kernel_rfl) (fun A w ⟨e0, _⟩ => mk_fn e0)
    | 48, _ => exact mob_val [(0, v)] rfl rfl (by decide) (by decide) (fun _ => by kernel_rfl) (fun A w ⟨e0, _⟩ => mv_any e0)
    | 49, _ => exact mob_val [(47, v)] rfl rfl (by decide) (by decide) (fun _ => by kernel_rfl) (fun A w ⟨e0, _⟩ => nc_if hv e0)
    | 50, _ => exact mob_val [(48, v)] rfl rfl (by decide) (by decide) (fun _ => by kernel_rfl) (fun A w ⟨e0, _⟩ => mk_fn e0)
    | 51, _ => exact mob_val [(0, v)] rfl rfl (by decide) (by decide) (fun _ => by kernel_rfl) (fun A w ⟨e0, _⟩ => mv_any e0)
    | 52, _ => exact mob_val [(50, v)] rfl rfl (by decide) (by decide) (fun _ => by kernel_rfl) (fun A w ⟨e0, _⟩ => nc_if hv e0)
    | 53, _ => exact mob_val [(51, v)] rfl rfl (by decide) (by decide) (fun _ => by kernel_rfl) (fun A w ⟨e0, _⟩ => mk_fn e0)
    | 54, _ => exact mob_new 5 [(40, fnV v .e), (43, fnV v .o), (46, fnV v .n), (49, fnV v .b), (52, fnV v .m)] rfl rfl (by decide) (by decide) ⟨_, _, _, rfl⟩ (fun _ => by kernel_rfl) (fun A w ⟨e0, e1, e2, e3, e4, _⟩ => bs_5 e0 e1 e2 e3 e4)
    | 55, _ => exact mob_put ⟨55, 54, 5, 1005⟩ (fun f => [(3, .map (some (f 0))), (53, .slice (some ⟨f 54, 0, none⟩) 5 5)]) rfl rfl (by decide) rfl (by decide) rfl ⟨3, by decide, by kernel_rfl⟩ ⟨53, by decide, by kernel_rfl⟩ (by decide) (fun _ => by kernel_rfl) (fun f A w es clk ⟨e0, e1, _⟩ h0 hk => in_map e0 rfl e1 h0 hk)
    | 56, _ => exact mob_val [(0, v)] rfl rfl (by decide) (by decide) (fun _ => by kernel_rfl) (fun A w ⟨e0, _⟩ => mv_any e0)
    | 57, _ => exact mob_val [(54, v)] rfl rfl (by decide) (by decide) (fun _ => by kernel_rfl) (fun A w ⟨e0, _⟩ => nc_if hv e0)
    | 58, _ => exact mob_val [(55, v)] rfl rfl (by decide) (by decide) (fun _ => by kernel_rfl) (fun A w ⟨e0, _⟩ => mk_fn e0)
    | 59, _ => exact mob_new 1 [(56, fnV v .m)] rfl rfl (by decide) (by decide) ⟨_, _, _, rfl⟩ (fun _ => by kernel_rfl) (fun A w ⟨e0, _⟩ => bs_1 e0)
    | 60, _ => exact mob_put ⟨60, 59, 6, 1001⟩ (fun f => [(3, .map (some (f 0))), (57, .slice (some ⟨f 59, 0, none⟩) 1 1)]) rfl rfl (by decide) rfl (by decide) rfl ⟨3, by decide, by kernel_rfl⟩ ⟨57, by decide, by kernel_rfl⟩ (by decide) (fun _ => by kernel_rfl) (fun f A w es clk ⟨e0, e1, _⟩ h0 hk => in_map e0 rfl e1 h0 hk)
    | 61, _ => exact mob_new 0 [] rfl rfl (by decide) (by decide) ⟨_, _, _, rfl⟩ (fun _ => by kernel_rfl) (fun A w _ => bs_0)
    | 62, _ => exact mob_put ⟨62, 61, 7, 1000⟩ (fun f => [(3, .map (some (f 0))), (58, .slice (some ⟨f 61, 0, none⟩) 0 0)]) rfl rfl (by decide) rfl (by decide) rfl ⟨3, by decide, by kernel_rfl⟩ ⟨58, by decide, by kernel_rfl⟩ (by decide) (fun _ => by kernel_rfl) (fun f A w es clk ⟨e0, e1, _⟩ h0 hk => in_map e0 rfl e1 h0 hk)
    | 63, _ => exact mob_val [(0, v)] rfl rfl (by decide) (by decide) (fun _ => by kernel_rfl) (fun A w ⟨e0, _⟩ => mv_any e0)
    | 64, _ => exact mob_val [(59, v)] rfl rfl (by decide) (by decide) (fun _ => by kernel_rfl) (fun A w ⟨e0, _⟩ => nc_if hv e0)
    | 65, _ => exact mob_val [(60, v)] rfl rfl (by decide) (by decide) (fun _ => by kernel_rfl) (fun A w ⟨e0, _⟩ => mk_fn e0)
    | 66, _ => exact mob_new 1 [(61, fnV v .c)] rfl rfl (by decide) (by decide) ⟨_, _, _, rfl⟩ (fun _ => by kernel_rfl) (fun A w ⟨e0, _⟩ => bs_1 e0)
    | 67, _ => exact mob_put ⟨67, 66, 8, 1001⟩ (fun f => [(3, .map (some (f 0))), (62, .slice (some ⟨f 66, 0, none⟩) 1 1)]) rfl rfl (by decide) rfl (by decide) rfl ⟨3, by decide, by kernel_rfl⟩ ⟨62, by decide, by kernel_rfl⟩ (by decide) (fun _ => by kernel_rfl) (fun f A w es clk ⟨e0, e1, _⟩ h0 hk => in_map e0 rfl e1 h0 hk)
    | ix + 68, h => exact absurd h (by omega)
  intro f W1 es clk hB hN h0 hM hI fuel hfu
  simp only [puts, List.foldl, Act.put, List.setIfInBounds_toArray, List.set_cons_zero, List.set_cons_succ]
  refine last_do2 68 69 hfu (by kernel_rfl) (by kernel_rfl) (by kernel_rfl) rfl rfl rfl rfl (mv_any (u := .map (some (f 0))) rfl) ?_
  rintro v1 w1 ⟨rfl, rfl⟩
  refine fun Q K hK => doV_as (u := .map (some (f 0))) rfl Q K (fun v w' e => hK v w' ?_)
  obtain ⟨rfl, rfl⟩ := e
  go_wp2
  go_ret
  rw [← hv]
  refine ⟨f 0, rfl, (Below.refl _ w).drew.trans hB, h0, es, clk, hM, fun k => ?_⟩
  split
  · rename_i hk
    rcases kind_cases hk with rfl | rfl | rfl | rfl | rfl | rfl | rfl | rfl
    · obtain ⟨j, hj⟩ := sm_at hI ⟨8, 7, 1, 1002⟩ (by decide) (by decide) (by decide)
      obtain ⟨g1, g2⟩ := hN 7 _ _ _ rfl (by decide)
      exact ⟨j, f 7, g1, hj, g2⟩
    · obtain ⟨j, hj⟩ := sm_at hI ⟨13, 12, 2, 1001⟩ (by decide) (by decide) (by decide)
      obtain ⟨g1, g2⟩ := hN 12 _ _ _ rfl (by decide)
      exact ⟨j, f 12, g1, hj, g2⟩
    · obtain ⟨j, hj⟩ := sm_at hI ⟨24, 23, 3, 1003⟩ (by decide) (by decide) (by decide)
      obtain ⟨g1, g2⟩ := hN 23 _ _ _ rfl (by decide)
      exact ⟨j, f 23, g1, hj, g2⟩
    · obtain ⟨j, hj⟩ := sm_at hI ⟨38, 37, 4, 1004⟩ (by decide) (by decide) (by decide)
      obtain ⟨g1, g2⟩ := hN 37 _ _ _ rfl (by decide)
      exact ⟨j, f 37, g1, hj, g2⟩
    · obtain ⟨j, hj⟩ := sm_at hI ⟨55, 54, 5, 1005⟩ (by decide) (by decide) (by decide)
      obtain ⟨g1, g2⟩ := hN 54 _ _ _ rfl (by decide)
      exact ⟨j, f 54, g1, hj, g2⟩
    · obtain ⟨j, hj⟩ := sm_at hI ⟨60, 59, 6, 1001⟩ (by decide) (by decide) (by decide)
      obtain ⟨g1, g2⟩ := hN 59 _ _ _ rfl (by decide)
      exact ⟨j, f 59, g1, hj, g2⟩
    · obtain ⟨j, hj⟩ := sm_at hI ⟨62, 61, 7, 1000⟩ (by decide) (by decide) (by decide)
      obtain ⟨g1, g2⟩ := hN 61 _ _ _ rfl (by decide)
      exact ⟨j, f 61, g1, hj, g2⟩
    · obtain ⟨j, hj⟩ := sm_at hI ⟨67, 66, 8, 1001⟩ (by decide) (by decide) (by decide)
      obtain ⟨g1, g2⟩ := hN 66 _ _ _ rfl (by decide)
      exact ⟨j, f 66, g1, hj, g2⟩
  · rename_i hk
    refine find_no k _ 0 (fun e he => ?_)
    obtain ⟨q, g1, -, g3, -⟩ := hI.sound e he
    refine ⟨q.key, g3, fun e => hk ?_⟩
    have := ent_key q g1
    unfold kindB
    rw [← e]
    exact decide_eq_true this
end Go.Proofs.YtdaobioomoajfaaGreat
