import Derived.Test.YtjmhmajfkdglnaaGreatDoorMrg7
import Derived.Test.YtjmhmajfkdglnaaGreatDoorMrg12
import Derived.Test.YtjmhmajfkdglnaaGreatDoorMrg3
import Derived.Test.YtjmhmajfkdglnaaGreatDoorProg
import Derived.Deep.MidRow
import Derived.Test.YtjmhmajfkdglnaaGreatDoorMrg0
set_option linter.unusedVariables false
set_option maxRecDepth 100000
set_option maxHeartbeats 16000000
namespace Go.Proofs.YtjmhmajfkdglnaaGreatDoor
open Go.RowKit
section
variable {P : Program} {ops : Array Oper} {Q : Exit → Act → World → Prop} {md : Region.Mode} {kind : Nat → Knd} {a0 : Act} {uses : Nat → List Nat}
theorem any_until (m : Nat) (I : Array Bool → Act → World → Prop)
    (stop : ∀ fuel l a w, I l a w → (∀ j, j < m → l.getD j false = true) → l.toList.count false ≤ fuel → wpAny P md ops Q fuel l a w)
    (stuck : ∀ l a w, I l a w → (¬ ∀ j, j < m → l.getD j false = true) → Region.ready md ops l ≠ [])
    (step : ∀ l a w i, I l a w → (¬ ∀ j, j < m → l.getD j false = true) → i ∈ Region.ready md ops l → wpOp P ops Q i (I (l.setIfInBounds i true)) a w) :
    ∀ fuel l a w, l.toList.count false ≤ fuel → I l a w → wpAny P md ops Q fuel l a w := by
  intro fuel
  induction fuel with
  | zero =>
    intro l a w hc hI
    by_cases hm : ∀ j, j < m → l.getD j false = true
    · exact stop 0 l a w hI hm hc
    · exfalso
      cases hr : Region.ready md ops l with
      | nil => exact stuck l a w hI hm hr
      | cons i r =>
        obtain ⟨h1, h2, -, -⟩ := ready_get (i := i) (md := md) (ops := ops) (l := l) (by rw [hr]; simp)
        have : false ∈ l.toList := by
          rw [Array.getD_eq_getD_getElem?, Array.getElem?_eq_getElem h1] at h2
          rw [← show l[i] = false from h2]
          exact Array.mem_toList_iff.2 (Array.getElem_mem h1)
        have := List.count_pos_iff.2 this
        omega
  | succ fuel ih =>
    intro l a w hc hI
    by_cases hm : ∀ j, j < m → l.getD j false = true
    · exact stop _ l a w hI hm hc
    · refine ⟨fun hr => absurd hr (stuck l a w hI hm), fun i hi => ?_⟩
      refine wpOp_mono (fun a w hI' => ih _ a w ?_ hI') (step l a w i hI hm hi)
      obtain ⟨h1, h2, -, -⟩ := ready_get hi
      have h3 : l.toList[i]? = some false := by
        rw [Array.getD_eq_getD_getElem?] at h2
        rw [Array.getElem?_toList, Array.getElem?_eq_getElem h1] at *
        simpa using h2
      have := count_set h3
      rw [Array.toList_setIfInBounds]
      omega
theorem upto_eq {l : Array Bool} {n m : Nat} (hs : l.size = n) (h1 : ∀ j, j < m → l.getD j false = true) (h2 : ∀ j, m ≤ j → l.getD j false = false) : l = upto n m := by
  apply Array.ext
  · rw [hs]; simp [upto]
  · intro i hi _
    have h3 : l.getD i false = l[i] := by rw [Array.getD_eq_getD_getElem?, Array.getElem?_eq_getElem hi]; rfl
    have h4 : (upto n m)[i] = decide (i < m) := by simp [upto]
    rw [h4, ← h3]
    by_cases h : i < m
    · rw [h1 i h, decide_eq_true h]
    · rw [h2 i (by omega), decide_eq_false h]
theorem count_upto (n m : Nat) (h : m ≤ n) : (upto n m).toList.count false = n - m := by
  have : (upto n m).toList = List.replicate m true ++ List.replicate (n - m) false := by
    apply List.ext_getElem
    · simp [upto]; omega
    · intro i h1 h2
      by_cases hi : i < m
      · simp [upto, hi]
      · simp [upto, hi, List.getElem_append]
  rw [this]
  simp [List.count_append, List.count_replicate]
theorem op_go {i : Nat} {o : Oper} {a : Act} {w : World} {K : Act → World → Prop} {R : Value → World → Prop} (ho : ops[i]? = some o) (hg : o.guard = none)
    (hd : Does P o a w R) (h : ∀ v w', R v w' → K (a.put o.dst v) w') : wpOp P ops Q i K a w := by
  unfold wpOp
  simp only [ho]
  rw [if_pos (by unfold Region.wanted; rw [hg])]
  exact .inl (hd _ _ h)
end
def edge (ops : Array Oper) (md : Region.Mode) (v j : Nat) : Bool := match ops[v]? with
  | none => false
  | some o => o.after.toList.any fun e => e.on == j && Region.binds md e
def preT (ops : Array Oper) (md : Region.Mode) (m : Nat) : Bool := ((List.range m).all fun j => (List.range (m + 1)).any fun v => decide (j < v) && edge ops md v j) &&
  (List.range ops.size).all fun i => decide (i ≤ m) || (List.range i).any fun v => decide (m ≤ v) && edge ops md i v
theorem edge_listed {ops : Array Oper} {md : Region.Mode} {l : Array Bool} {v j : Nat} (h : edge ops md v j = true) (hd : ∀ o, ops[v]? = some o → ∀ e ∈ o.after.toList, Region.binds md e = true → l.getD e.on false = true) : l.getD j false = true := by
  unfold edge at h
  cases hv : ops[v]? with
  | none => rw [hv] at h; cases h
  | some o =>
    rw [hv] at h
    simp only [List.any_eq_true, Bool.and_eq_true] at h
    obtain ⟨e, he, h1, h2⟩ := h
    have h3 : e.on = j := by simpa using h1
    exact h3 ▸ hd o hv e he h2
theorem preT_lt {ops : Array Oper} {md : Region.Mode} {m i : Nat} (h : preT ops md m = true) {l : Array Bool} (hi : i ∈ Region.ready md ops l)
    (hC : ∀ j oj, ops[j]? = some oj → l.getD j false = true → ∀ e ∈ oj.after.toList, Region.binds md e = true → l.getD e.on false = true)
    (hb : ∀ j, m ≤ j → l.getD j false = false) (hn : ¬ ∀ j, j < m → l.getD j false = true) : i < m := by
  obtain ⟨h1, -, -, o, ho, hedge⟩ := ready_get hi
  by_cases hl : i < m
  · exact hl
  exfalso
  unfold preT at h
  rw [Bool.and_eq_true, List.all_eq_true, List.all_eq_true] at h
  obtain ⟨hA, hB⟩ := h
  have hEi : ∀ o', ops[i]? = some o' → ∀ e ∈ o'.after.toList, Region.binds md e = true → l.getD e.on false = true := fun o' ho' => by rw [ho] at ho'; cases ho'; exact hedge
  by_cases him : i = m
  · subst him
    apply hn
    suffices ∀ d j, i - j ≤ d → j < i → l.getD j false = true from fun j hj => this (i - j) j (Nat.le_refl _) hj
    intro d
    induction d with
    | zero => intro j h h'; omega
    | succ d ih =>
      intro j hd hj
      have h2 := hA j (List.mem_range.2 hj)
      rw [List.any_eq_true] at h2
      obtain ⟨v, hv, h3⟩ := h2
      rw [Bool.and_eq_true, decide_eq_true_eq] at h3
      have hv' := List.mem_range.1 hv
      by_cases hvi : v = i
      · subst hvi; exact edge_listed h3.2 hEi
      · exact edge_listed h3.2 (fun o' ho' => hC v o' ho' (ih v (by omega) (by omega)))
  · have h2 := hB i (List.mem_range.2 (Array.getElem?_eq_some_iff.1 ho).1)
    rw [decide_eq_false (by omega), Bool.false_or, List.any_eq_true] at h2
    obtain ⟨v, hv, h3⟩ := h2
    rw [Bool.and_eq_true, decide_eq_true_eq] at h3
    have h4 := edge_listed h3.2 hEi
    rw [hb v h3.1] at h4
    cases h4
section
variable {P : Program} {ops : Array Oper} {Q : Exit → Act → World → Prop} {md : Region.Mode}
theorem pool_prT {id : Nat} {W : World} {a0 : Act} (m : Nat) (kinds : List Knd) (us : List (List Nat)) (dl : (Nat → Nat) → List (Option Tmp × Value)) (hm : P.follows .mixedOrders = true) (hok : (okOps ops a0 .any (usesOf us) && okG ops (kindOf kinds) .any) = true) (hdag : dag ops = true) (hkk : okK kinds ops.size = true) (hmn : decide (m < ops.size) = true) (hpre : preT ops .any m = true)
    (hdl : ∀ f, ((List.range m).map fun i => ((ops[i]?).bind (·.dst), vl (kindOf kinds) f i)) = dl f)
    (hob : ∀ i, i < m → Ob P ops (kindOf kinds) (usesOf us) a0 W.drew i)
    (fin : ∀ (f : Nat → Nat) (w : World), Below W.drew.heap.size W.drew w →
      (∀ i ob ob' k, kindOf kinds i = .new ob ob' k → i < m → W.drew.heap.size ≤ f i ∧ w.heap[f i]? = some (if k < m then ob' else ob)) →
      ∀ fuel, ops.size - m ≤ fuel → wpAny P .any ops Q fuel (upto ops.size m) (puts (dl f) a0) w) :
    (Code.region id ops true).wp P Q a0 W := by
  have hmn' := of_decide_eq_true hmn
  refine wp_region_any hm ?_
  refine any_until m (fun l a w => (∀ j, m ≤ j → l.getD j false = false) ∧ PInv .any ops (kindOf kinds) a0 W.drew l a w) ?_ ?_ ?_ _ _ _ _ ?_ ?_
  · rintro fuel l a w ⟨h1, hs, f, rfl, hB, hN, -, -, -⟩ h2 hc
    obtain rfl := upto_eq hs h2 h1
    rw [count_upto _ _ (by omega)] at hc
    rw [canon_upto (and_l hok) f m (by omega), hdl f]
    refine fin f w hB (fun i ob ob' k hk hi => ?_) fuel hc
    obtain ⟨g1, -, g3⟩ := hN i ob ob' k hk (h2 i hi)
    refine ⟨g1, g3.trans ?_⟩
    by_cases hkm : k < m
    · rw [if_pos (h2 k hkm), if_pos hkm]
    · rw [h1 k (by omega), if_neg hkm]; rfl
  · rintro l a w ⟨h1, hs, -⟩ hn hr
    have := all_listed hdag l hs hr (m + 1) m (by omega) (by omega)
    rw [h1 m (Nat.le_refl _)] at this; cases this
  · rintro l a w i ⟨h1, hI⟩ hn hi
    have hC := hI
    obtain ⟨-, -, -, -, -, -, -, hC⟩ := hC
    have him := preT_lt hpre hi hC h1 hn
    refine wpOp_mono (fun a w h => ⟨fun j hj => ?_, h⟩) (pinv_step (and_l hok) (and_r hok) (okK_is hkk) (hob i him) hI hi)
    obtain ⟨hil, -⟩ := ready_get hi
    rw [getD_set l i j hil, if_neg (by omega)]
    exact h1 j hj
  · simp
  · exact ⟨fun j _ => by rw [Array.getD_eq_getD_getElem?, Array.getElem?_replicate]; split <;> rfl, pinv_start _⟩
theorem last_do2 {fuel : Nat} {l : Array Bool} {A : Act} {w : World} (p q : Nat) {op oq : Oper} (hf : 2 ≤ fuel)
    (hr : Region.ready md ops l = [p]) (hrp : Region.ready md ops (l.setIfInBounds p true) = [q])
    (hpq : Region.ready md ops ((l.setIfInBounds p true).setIfInBounds q true) = [])
    (hop : ops[p]? = some op) (hgp : op.guard = none) (hoq : ops[q]? = some oq) (hgq : oq.guard = none) {R : Value → World → Prop}
    (dp : Does P op A w R) (fq : ∀ v w', R v w' → Does P oq (A.put op.dst v) w' fun v2 w2 => Q .normal ((A.put op.dst v).put oq.dst v2) w2) : wpAny P md ops Q fuel l A w := by
  obtain ⟨n, rfl⟩ : ∃ n, fuel = n + 1 + 1 := ⟨fuel - 2, by omega⟩
  refine ⟨fun h => (by rw [hr] at h; cases h), fun i hi => ?_⟩
  rw [hr] at hi
  obtain rfl := List.mem_singleton.1 hi
  refine op_go hop hgp dp ?_
  intro v w' hv
  refine ⟨fun h => (by rw [hrp] at h; cases h), fun i hi => ?_⟩
  rw [hrp] at hi
  obtain rfl := List.mem_singleton.1 hi
  refine op_go hoq hgq (fq v w' hv) ?_
  intro v2 w2 h2
  cases n with
  | zero => exact ⟨hpq, h2⟩
  | succ n => exact ⟨fun _ => h2, fun i hi => by rw [hpq] at hi; cases hi⟩
theorem last_do1 {fuel : Nat} {l : Array Bool} {A : Act} {w : World} (p : Nat) {op : Oper} (hf : 1 ≤ fuel)
    (hr : Region.ready md ops l = [p]) (hrp : Region.ready md ops (l.setIfInBounds p true) = [])
    (hop : ops[p]? = some op) (hgp : op.guard = none)
    (dp : Does P op A w fun v w' => Q .normal (A.put op.dst v) w') : wpAny P md ops Q fuel l A w := by
  obtain ⟨n, rfl⟩ : ∃ n, fuel = n + 1 := ⟨fuel - 1, by omega⟩
  refine ⟨fun h => (by rw [hr] at h; cases h), fun i hi => ?_⟩
  rw [hr] at hi
  obtain rfl := List.mem_singleton.1 hi
  refine op_go hop hgp dp ?_
  intro v2 w2 h2
  cases n with
  | zero => exact ⟨hrp, h2⟩
  | succ n => exact ⟨fun _ => h2, fun i hi => by rw [hrp] at hi; cases hi⟩
end
theorem catA_le (t : ByteArray) : ∀ (l r : List ByteArray), (catA t l).size ≤ (catA t (l ++ r)).size := by
  intro l r
  unfold catA
  rw [List.foldl_append]
  generalize List.foldl (· ++ ·) t l = u
  induction r generalizing u with
  | nil => exact Nat.le_refl _
  | cons a r ih =>
    rw [List.foldl_cons]
    refine Nat.le_trans ?_ (ih (u ++ a))
    rw [ByteArray.size_append]; omega
theorem with_blk (t : ByteArray) (L : List (Value × ByteArray)) (g n : Nat) (T : TypeId) (cs : Array Value) (w : World) (hr : w.heap[g]? = some (.cells cs T)) (hcs : cs.toList = L.map (·.1)) (hl : L.length = n) (hn : n ≤ 100) (hW : ∀ vs ∈ L, Writ vs.1 vs.2)
    (hz : (catA t (L.map (·.2))).size ≤ 300000) :
    Calls Tryz.prog 123 #[.string t, .slice (some ⟨g, 0, none⟩) n n] w fun e w' => e = .returned (.string (catA t (L.map (·.2)))) ∧ Below w.heap.size w w' := by
  refine withI_any t g n L w hl hn (Array.getElem?_eq_some_iff.1 hr).1 (fun i v s hi => ⟨?_, hW _ (List.mem_of_getElem? hi)⟩) (fun i hi => ?_)
  · rw [cell_of_row _ _ _ _ _ _ hr, ← Array.getElem?_toList, hcs, List.getElem?_map, hi]; rfl
  · refine Nat.le_trans ?_ hz
    have := catA_le t ((L.take i).map (·.2)) ((L.drop i).map (·.2))
    rwa [← List.map_append, List.take_append_drop] at this
theorem hash_blk (s : ByteArray) (g : Nat) (T : TypeId) (w : World) (hT : TabK w) (hr : w.heap[g]? = some (.cells #[.string s] T)) (hs : s.size ≤ 1000000) :
    Calls Tryz.prog 124 #[.slice (some ⟨g, 0, none⟩) 1 1] w fun e w' => e = .returned (.string (strOfNums (shaF (byt s)))) ∧ Below w.heap.size w w' := by
  have := hashOfI_any g 1 1 [s] w hT (by simp [sizeB]; omega) rfl (by omega) (by omega) (fun i hi => by
    obtain rfl : i = 0 := by omega
    rw [cell_of_row _ _ _ _ _ _ hr]; rfl)
  rwa [show catB [s] = byt s by simp [catB]] at this
theorem does_append_ow {w : World} {o : Oper} {a : Act} (s x : Operand) (t : TypeId) (ho : o.op = .call { callee := .builtin .append, args := #[s, x], argTypes := #[t, t] })
    (base : Nat) (e : TypeId) (i : TypeInfo) (z : Value) (size bytes : Nat) (ht : Tryz.prog.underlying t = some (.slice e)) (hi : Tryz.prog.info? e = some i) (hz : i.zero = some z)
    (hsize : i.size = size) (hby : i.bytes = bytes) (hzs : z.cells.size = size) (hsz : 0 < size)
    (v : Value) (n : Nat) (xs : List Value) (hs : a.eval s = v) (hown : w.ownsRow base e size v n xs)
    (ad : Addr) (m c : Nat) (news : List Value) (hx : a.eval x = .slice (some ad) m c) (hl : news.length = m * size) (hnews : ∀ j u, news[j]? = some u → w.cell? (ad.add j) = some u) (h1 : ∀ u ∈ news, u.oneCell' = true)
    (hm : 0 < m) (h63 : n + m ≤ maxLen) (hbytes : (n + m) * bytes ≤ 140737488355328) (hbase : base ≤ w.heap.size) :
    Does Tryz.prog o a w fun v' w' => ∃ g cap, v' = .slice (some ⟨g, 0, none⟩) (n + m) cap ∧ w'.ownsRow base e size (.slice (some ⟨g, 0, none⟩) (n + m) cap) (n + m) (xs ++ news) ∧ w.grownBy w' v.ownBlock := by
  intro Q K hK
  obtain ⟨g, cap, w', hr, h2, h3, -, h5⟩ := run_append_lies (P := Tryz.prog) w t o.type base e i z size bytes ht hi hz hsize hby hzs hsz v n xs hown ad m c news hl hnews h1 hm h63 hbytes hbase w.heap.size rfl
  unfold Oper.wp execOp
  simp only [ho, resolve, invoke, builtin, Sem.run_bind, Sem.run_pure, Result.andThen_ok, List.map_toArray, List.map_cons, List.map_nil, hs, hx, hr]
  exact hK _ _ ⟨g, cap, rfl, h2, h3⟩
theorem own_ne {W : World} {base : Nat} {e T : TypeId} {size : Nat} {v : Value} {n : Nat} {xs : List Value} {b : Nat} {cs : Array Value} (hown : W.ownsRow base e size v n xs) (h : W.heap[b]? = some (.cells cs T)) (hne : T ≠ e) : v.ownBlock ≠ some b := by
  rcases hown.2 with ⟨rfl, _⟩ | ⟨g, cap, cur, rfl, hbg, hg, -⟩
  · intro h'; cases h'
  · intro h'
    have h2 : g = b := by simpa [Value.ownBlock] using h'
    subst h2
    rw [h] at hg
    cases hg
    exact hne rfl
theorem eml (s : ByteArray) : (⟨#[]⟩ : ByteArray) ++ s = s := ByteArray.empty_append
theorem below_own3 {w w' : World} {B : Nat} {e : TypeId} {s : Nat} {v : Value} {n : Nat} {xs : List Value} (h : w.ownsRow B e s v n xs) (hb : Below w.heap.size w w') : w'.ownsRow B e s v n xs := by
  refine ⟨h.1, ?_⟩
  rcases h.2 with h2 | ⟨g, cap, cur, hv, hbg, hg, hr⟩
  · exact .inl h2
  · refine .inr ⟨g, cap, cur, hv, hbg, ?_, hr⟩
    rw [hb.block g (Array.getElem?_eq_some_iff.1 hg).1]; exact hg
def Bk (W : World) (t : TypeId) (b : Nat) (cs : Array Value) : Prop := W.heap[b]? = some (.cells cs t)
section
variable {W W' : World} {t : TypeId} {b : Nat} {cs : Array Value}
theorem Bk.cell (h : Bk W t b cs) {k : Nat} {v : Value} (hk : cs[k]? = some v) : W.cell? ⟨b, k, none⟩ = some v := by
  rw [cell_of_row _ _ _ _ _ _ h]; exact hk
theorem Bk.frz (h : Bk W t b cs) (i : Nat) : W.frozen? ⟨b, i, none⟩ = false := by unfold Bk at h; simp [World.frozen?, h]
theorem Bk.lt (h : Bk W t b cs) : b < W.heap.size := (Array.getElem?_eq_some_iff.1 h).1
theorem Bk.keep (h : Bk W t b cs) (hb : Below W.heap.size W W') : Bk W' t b cs := (hb.block b h.lt).trans h
theorem Bk.below {N : Nat} (h : Bk W t b cs) (hb : Below N W W') (hl : b < N) : Bk W' t b cs := (hb.block b hl).trans h
theorem Bk.new (w : World) (t : TypeId) (cs : Array Value) : Bk (w.alloc (.cells cs t)) t w.heap.size cs := heap_alloc_new w _
theorem Bk.alloc (h : Bk W t b cs) (o : Obj) : Bk (W.alloc o) t b cs := (Below.heap_alloc W o b h.lt).trans h
theorem Bk.at {b' : Nat} (h : Bk W t b cs) (e : b = b') : Bk W t b' cs := e ▸ h
theorem Bk.range (h : Bk W t b cs) : W.rangeAt b 0 cs.toList := fun j v hj => by
  rw [Nat.zero_add]
  exact h.cell (by rw [← hj, Array.getElem?_toList])
theorem Bk.set (h : Bk W t b cs) (i : Nat) (v : Value) : Bk (W.setCell ⟨b, i, none⟩ v) t b (cs.setIfInBounds i v) := by
  unfold Bk at *
  simp [World.setCell, Array.getElem?_modify, h]
theorem Bk.other (h : Bk W t b cs) {b' : Nat} (hne : b ≠ b') (i : Nat) (v : Value) : Bk (W.setCell ⟨b', i, none⟩ v) t b cs := by
  unfold Bk at *
  rw [← h]
  simp [World.setCell, Array.getElem?_modify, Ne.symm hne]
theorem Bk.there (h : Bk W t b cs) (n : Nat) (hn : n ≤ cs.size) : W.there b 0 n := fun j hj => by
  rw [Nat.zero_add]
  exact ⟨by rw [h.cell (v := cs[j]'(by omega)) (Array.getElem?_eq_getElem (by omega))]; rfl, h.frz j⟩
theorem bk_res1 {fn : Func} {p : Tmp} {d : TypeDesc} (h : fn.results = #[.cell p t]) (tmps : Array Value) (hp : tmps.getD p undef = .pointer (some ⟨b, 0, none⟩)) (hc : Bk W t b cs) (hu : Tryz.prog.underlying t = some d) (hd : d.isRow = true) (hi : (Tryz.prog.info? t).map (·.size) = some cs.size) :
    (results fn tmps).run Tryz.prog W = .ok (.agg cs) W := by
  have hp' : tmps[p]?.getD undef = .pointer (some ⟨b, 0, none⟩) := by simpa using hp
  have hl := run_loadVar_mid (P := Tryz.prog) W b 0 t cs.toList d hc.range hu hd (by rw [hi, Array.length_toList])
  simp [results, h, hp', asAddr, hl]
theorem bk_res2 {fn : Func} {p u : Tmp} {d : TypeDesc} (h : fn.results = #[.cell p t, .tmp u]) (tmps : Array Value) (hp : tmps.getD p undef = .pointer (some ⟨b, 0, none⟩)) (hc : Bk W t b cs) (hu : Tryz.prog.underlying t = some d) (hd : d.isRow = true) (hi : (Tryz.prog.info? t).map (·.size) = some cs.size) :
    (results fn tmps).run Tryz.prog W = .ok (.tuple #[.agg cs, tmps.getD u undef]) W := by
  have hp' : tmps[p]?.getD undef = .pointer (some ⟨b, 0, none⟩) := by simpa using hp
  have hl := run_loadVar_mid (P := Tryz.prog) W b 0 t cs.toList d hc.range hu hd (by rw [hi, Array.length_toList])
  simp [results, h, hp', asAddr, hl]
end
end Go.Proofs.YtjmhmajfkdglnaaGreatDoor
