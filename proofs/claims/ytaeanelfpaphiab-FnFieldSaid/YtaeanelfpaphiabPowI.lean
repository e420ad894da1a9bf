import Derived.Test.YtaeanelfpaphiabPowA
import Derived.Test.YtaeanelfpaphiabNumI
namespace Go.Proofs.Ytaeanelfpaphiab
open Go.RowKit Go.Shelf
set_option linter.unusedVariables false
attribute [local go_sem] Oper.semAt_some

/-- a block that holds one number with its modulus -/
def Rw (W : World) (t : TypeId) (b : Nat) (x y : Nat) : Prop := W.heap[b]? = some (.cells #[.int .u64 x, .int .u64 y] t)
theorem Rw.cell0 {W : World} {t : TypeId} {b x y : Nat} (h : Rw W t b x y) : W.cell? ⟨b, 0, none⟩ = some (.int .u64 x) := by unfold Rw at h; simp [World.cell?, h]
theorem Rw.cell1 {W : World} {t : TypeId} {b x y : Nat} (h : Rw W t b x y) : W.cell? ⟨b, 1, none⟩ = some (.int .u64 y) := by unfold Rw at h; simp [World.cell?, h]
theorem Rw.frz {W : World} {t : TypeId} {b x y : Nat} (h : Rw W t b x y) (i : Nat) : W.frozen? ⟨b, i, none⟩ = false := by unfold Rw at h; simp [World.frozen?, h]
theorem Rw.set {W : World} {t : TypeId} {b x y : Nat} (h : Rw W t b x y) (x' y' : Nat) : Rw ((W.setCell ⟨b, 0, none⟩ (.int .u64 x')).setCell ⟨b, 1, none⟩ (.int .u64 y')) t b x' y' := by
  unfold Rw at *
  simp [World.setCell, Array.getElem?_modify, h]
theorem Rw.other {W : World} {t : TypeId} {b x y : Nat} (h : Rw W t b x y) {b' : Nat} (hne : b ≠ b') (v v' : Value) : Rw ((W.setCell ⟨b', 0, none⟩ v).setCell ⟨b', 1, none⟩ v') t b x y := by
  unfold Rw at *
  rw [setCell_heap _ _ _ _ _ hne, setCell_heap _ _ _ _ _ hne]; exact h
theorem Rw.lt {W : World} {t : TypeId} {b x y : Nat} (h : Rw W t b x y) : b < W.heap.size := (Array.getElem?_eq_some_iff.1 h).1
theorem Rw.own {β : Type} (B : Nat) (t : TypeId) (b : Nat) (f g : β → Nat) : OwnFrom B (fun s W => Rw W t b (f s) (g s)) := fun s W W' row hs hg hr => by
  refine (hg.block b hs.lt (fun e => ?_)).trans hs
  obtain ⟨-, o, ho, hc⟩ := hr b e.symm
  rw [show W.heap[b]? = _ from hs] at ho
  cases ho; cases hc
theorem Rw.below {W W' : World} {t : TypeId} {b x y N : Nat} (h : Rw W t b x y) (hb : Below N W W') (hl : b < N) : Rw W' t b x y := (hb.block b hl).trans h
theorem Rw.new (w : World) (t : TypeId) (x y : Nat) : Rw (w.alloc (.cells #[.int .u64 x, .int .u64 y] t)) t w.heap.size x y := World.alloc_heap_new w _
theorem Rw.alloc {W : World} {t : TypeId} {b x y : Nat} (h : Rw W t b x y) (o : Obj) : Rw (W.alloc o) t b x y := (Below.heap_alloc W o b h.lt).trans h
theorem Rw.range {W : World} {t : TypeId} {b x y : Nat} (h : Rw W t b x y) : W.rangeAt b 0 [.int .u64 x, .int .u64 y] := fun j v hj => by
  match j, hj with
  | 0, hj => cases hj; exact h.cell0
  | 1, hj => cases hj; exact h.cell1
theorem Rw.at {W : World} {t : TypeId} {b b' x y : Nat} (h : Rw W t b x y) (e : b = b') : Rw W t b' x y := e ▸ h
/-- two cells of one block are written -/
def sets (W : World) (b x y : Nat) : World := (W.setCell ⟨b, 0, none⟩ (.int .u64 x)).setCell ⟨b, 1, none⟩ (.int .u64 y)
theorem sets_keeps (W : World) (b x y : Nat) : KeepsOthers W (sets W b x y) := (KeepsOthers.setCell _ _ _).trans (KeepsOthers.setCell _ _ _)
theorem sets_cell (W : World) (b x y : Nat) {k : Nat} (hne : k ≠ b) (i : Nat) : (sets W b x y).cell? ⟨k, i, none⟩ = W.cell? ⟨k, i, none⟩ :=
  World.cell?_of_block (by unfold sets; rw [setCell_heap _ _ _ _ _ hne, setCell_heap _ _ _ _ _ hne])
theorem sets_below {N b x y : Nat} {w W : World} (h : Below N w W) (hb : N ≤ b) : Below N w (sets W b x y) :=
  (h.setCell (p := ⟨b, 0, none⟩) hb _).setCell (p := ⟨b, 1, none⟩) hb _
theorem Rw.sets {W : World} {t : TypeId} {b x y : Nat} (h : Rw W t b x y) (x' y' : Nat) : Rw (sets W b x' y') t b x' y' := h.set x' y'
theorem Rw.sets_other {W : World} {t : TypeId} {b x y : Nat} (h : Rw W t b x y) {b' : Nat} (hne : b ≠ b') (x' y' : Nat) : Rw (Go.Proofs.Ytaeanelfpaphiab.sets W b' x' y') t b x y := h.other hne _ _
set_option maxRecDepth 100000 in
set_option maxHeartbeats 4000000 in
theorem powI_any (a e m : Nat) (w : World) (ha : a < m) (he : e < 18446744073709551616) (hm : m < 18446744073709551616) :
    Calls Try.prog 54 #[nm m a, .int .u64 e] w fun r w' => r = .returned (nm m (a ^ e % m)) ∧ Below w.heap.size w w' := by
  obtain ⟨res, hres⟩ : ∃ res, Hid (res = a ^ e % m) := ⟨_, rfl⟩
  rw [← hres.out]
  have R := fun w => redI_any 1 m w (by omega)
  have T := timI_any
  have B := bits_of e
  unfold nm at *
  refine (callsIn_wide (n := 5)).1 ?_
  refine callsIn_of_wp_marks Try.func54 rfl trivial ?_ rfl
  simp only [Try.ntmps54, List.size_toArray, List.length_cons, List.length_nil, Nat.reduceAdd, Nat.reduceSub, Array.replicate_succ, Array.replicate_zero, List.push_toArray, List.append_toArray, List.nil_append, List.cons_append]
  gi_wp2_with (first
    | (refine ⟨trivial, ?_⟩; gi_at_call 50; refine (callsIn_wide.2 (R _)).mono ?_; rintro e w' ⟨rfl, rfl⟩)
    | (refine ⟨trivial, ?_⟩; gi_at_call 80; refine (callsIn_wide.2 (B _)).mono ?_; rintro e w' ⟨rfl, rfl⟩))
  clear R B
  obtain ⟨W0, hW0⟩ : ∃ W0, (((((w.alloc (Obj.cells #[Value.int IntKind.u64 (m : Int), Value.int IntKind.u64 (a : Int)] 72)).alloc
                  (Obj.cells #[Value.int IntKind.u64 0, Value.int IntKind.u64 0] 72)).alloc
              (Obj.cells #[Value.int IntKind.u64 (m : Int), Value.int IntKind.u64 (1 % (m : Int))] 72)).alloc
          (Obj.cells #[Value.int IntKind.u64 (m : Int), Value.int IntKind.u64 (1 % (m : Int))] 72)).alloc
      (Obj.cells #[Value.int IntKind.u64 (e : Int)] 22)) = W0 := ⟨_, rfl⟩
  rw [hW0]
  have e1 : (1 : Int) % (m : Int) = ((1 % m : Nat) : Int) := by simp
  rw [e1] at hW0
  have hsz : W0.heap.size = w.heap.size + 5 := by rw [← hW0]; simp
  have hA : Rw W0 72 w.heap.size m a := by rw [← hW0]; exact ((((Rw.new w _ m a).alloc _).alloc _).alloc _).alloc _
  have hR : Rw W0 72 (w.heap.size + 1) 0 0 := by rw [← hW0]; exact ((((Rw.new _ _ 0 0).alloc _).alloc _).alloc _).at (by simp)
  have hO : Rw W0 72 (w.heap.size + 1 + 1 + 1) m (1 % m) := by rw [← hW0]; exact ((Rw.new _ _ m (1 % m)).alloc _).at (by simp)
  have hE : W0.cell? ⟨w.heap.size + 1 + 1 + 1 + 1, 0, none⟩ = some (.int .u64 e) := by
    rw [← hW0]
    exact (cell_new1 _ _ _ (by simp))
  have hB : Below w.heap.size w W0 := by
    rw [← hW0]
    exact (((((Below.refl _ w).alloc (Nat.le_refl _) _).alloc (by simp) _).alloc (by simp; omega) _).alloc (by simp; omega) _).alloc (by simp; omega) _
  clear hW0 e1
  refine wpIn_rangeFunc_ownF (F := Fence.wide) (n := 5) rfl (by omega) (gf := 93) (lb := #[.pointer (some ⟨w.heap.size + 1 + 1 + 1 + 1, 0, none⟩)]) rfl trivial (enters_of Try.func93 (by kernel_rfl) rfl)
    (bit_stops (5 - 1) (by omega) e (w.heap.size + 1 + 1 + 1 + 1) he W0 hE (by omega)) (fun h k x => k (h x)) ?hKb (Below.refl _ _) (fun _ => rfl)
    (fun pre W => (Rw W 72 (w.heap.size + 1 + 1 + 1) m (a ^ valB pre % m) ∧ Rw W 72 w.heap.size m a ∧ Rw W 72 (w.heap.size + 1) 0 0) ∧ Below w.heap.size w W)
    (fun _ _ _ => False)
    (OwnFrom.and (OwnFrom.and (Rw.own _ _ _ _ _) (OwnFrom.and (Rw.own _ _ _ (fun _ => m) (fun _ => a)) (Rw.own _ _ _ (fun _ => 0) (fun _ => 0)))) (ownFrom_below (Nat.le_refl _) (by omega)))
    (fun _ _ _ _ _ hs _ _ => hs)
    ⟨⟨by simpa [valB] using hO, hA, hR⟩, hB⟩
    (fun x => { tmps := #[Value.agg #[Value.int IntKind.u64 (m : Int), Value.int IntKind.u64 (a : Int)], Value.int IntKind.u64 (e : Int),
          Value.pointer (some { block := w.heap.size, off := 0 }), undef,
          Value.pointer (some { block := w.heap.size + 1, off := 0 }),
          Value.pointer (some { block := w.heap.size + 1 + 1 + 1, off := 0 }), .bool x,
          Value.pointer (some { block := w.heap.size, off := 0 }), Value.int IntKind.u64 (m : Int),
          Value.agg #[Value.int IntKind.u64 (m : Int), Value.int IntKind.u64 (1 % (m : Int))], Value.int IntKind.u64 (e : Int),
          Value.func (Fn.func 93) #[] #[Value.pointer (some { block := w.heap.size + 1 + 1 + 1 + 1, off := 0 })], .bool x,
          undef, undef, undef, undef, undef, undef, undef, undef], defers := [] }) ?assign ?body ?done ?stop
  case hKb =>
    intro W l o o' hl ho hc _ hcell
    have hne : w.heap.size + 1 + 1 + 1 + 1 ≠ l := by omega
    refine (World.cell?_of_block ?_).trans hcell
    exact (grownBy_putObj' W l o').block _ (World.block_lt_of_cell? W _ hcell) (fun e => hne (Option.some.inj e))
  case assign =>
    intro l x W K hK
    gi_wp2
    exact hK
  case body =>
    rintro l pre x W ⟨⟨rO, rA, rR⟩, rB⟩ _
    obtain ⟨c, hc⟩ : ∃ c, Hid (c = a ^ valB pre % m) := ⟨_, rfl⟩
    rw [← hc.out] at rO
    have hcm : c < m := by rw [hc.out]; exact Nat.mod_lt _ (by omega)
    have T1 := fun w => T c c m w hcm hcm hm
    have hdm : c * c % m < m := Nat.mod_lt _ (by omega)
    have T2 := fun w => T (c * c % m) a m w hdm ha hm
    obtain ⟨d, hd⟩ : ∃ d, Hid (d = c * c % m) := ⟨_, rfl⟩
    rw [← hd.out] at T1 T2
    obtain ⟨d2, hd2⟩ : ∃ d2, Hid (d2 = d * a % m) := ⟨_, rfl⟩
    rw [← hd2.out] at T2
    have o0 := rO.cell0
    have o1 := rO.cell1
    clear T hdm hcm ha he hm
    cases x
    · gi_wp2_with fail
      refine ⟨trivial, ?_⟩
      gi_at_call 51
      refine (CallsIn.inRound l (callsIn_wide.2 (T1 _))).mono ?_
      rintro e' W1 ⟨rfl, b1⟩
      have rO1 := rO.below b1 rO.lt
      have f0 := rO1.frz 0
      have f1 := rO1.frz 1
      have p0 := rO1.cell0
      have p1 := rO1.cell1
      gi_wp2
      have ev : valB (pre ++ [false]) = 2 * valB pre := by rw [valB_snoc]; rfl
      refine ⟨(keeps_below b1).trans (sets_keeps W1 (w.heap.size + 1 + 1 + 1) m d), fun hk => ?_, ⟨⟨?_, ?_, ?_⟩, ?_⟩⟩
      · exact (sets_cell W1 (w.heap.size + 1 + 1 + 1) m d (by omega) 0).trans ((b1.cell (p := ⟨w.heap.size + 1 + 1 + 1 + 1, 0, none⟩) (World.block_lt_of_cell? W _ hk)).trans hk)
      · rw [ev, ← pow_step0 a m c d _ hc.out hd.out]; exact rO1.sets m d
      · exact (rA.below b1 rA.lt).sets_other (by omega) m d
      · exact (rR.below b1 rR.lt).sets_other (by omega) m d
      · exact sets_below (rB.trans (b1.mono rB.size)) (by omega)
    · gi_wp2_with fail
      refine ⟨trivial, ?_⟩
      gi_at_call 51
      refine (CallsIn.inRound l (callsIn_wide.2 (T1 _))).mono ?_
      rintro e' W1 ⟨rfl, b1⟩
      have rO1 := rO.below b1 rO.lt
      have f0 := rO1.frz 0
      have f1 := rO1.frz 1
      have p0 := rO1.cell0
      have p1 := rO1.cell1
      have q0 : ((W1.setCell ⟨w.heap.size + 1 + 1 + 1, 0, none⟩ (.int .u64 m)).setCell ⟨w.heap.size + 1 + 1 + 1, 1, none⟩ (.int .u64 d)).cell? ⟨w.heap.size + 1 + 1 + 1, 0, none⟩ = some (.int .u64 m) := (rO1.sets m d).cell0
      have q1 : ((W1.setCell ⟨w.heap.size + 1 + 1 + 1, 0, none⟩ (.int .u64 m)).setCell ⟨w.heap.size + 1 + 1 + 1, 1, none⟩ (.int .u64 d)).cell? ⟨w.heap.size + 1 + 1 + 1, 1, none⟩ = some (.int .u64 d) := (rO1.sets m d).cell1
      have q2 : ((W1.setCell ⟨w.heap.size + 1 + 1 + 1, 0, none⟩ (.int .u64 m)).setCell ⟨w.heap.size + 1 + 1 + 1, 1, none⟩ (.int .u64 d)).cell? ⟨w.heap.size, 0, none⟩ = some (.int .u64 m) := ((rA.below b1 rA.lt).sets_other (by omega) m d).cell0
      have q3 : ((W1.setCell ⟨w.heap.size + 1 + 1 + 1, 0, none⟩ (.int .u64 m)).setCell ⟨w.heap.size + 1 + 1 + 1, 1, none⟩ (.int .u64 d)).cell? ⟨w.heap.size, 1, none⟩ = some (.int .u64 a) := ((rA.below b1 rA.lt).sets_other (by omega) m d).cell1
      have rO2 := rO1.sets m d
      have rA2 := (rA.below b1 rA.lt).sets_other (b' := w.heap.size + 1 + 1 + 1) (by omega) m d
      have rR2 := (rR.below b1 rR.lt).sets_other (b' := w.heap.size + 1 + 1 + 1) (by omega) m d
      have rB2 := sets_below (b := w.heap.size + 1 + 1 + 1) (x := m) (y := d) (rB.trans (b1.mono rB.size)) (by omega)
      have k2 := (keeps_below b1).trans (sets_keeps W1 (w.heap.size + 1 + 1 + 1) m d)
      have c2 : W.cell? ⟨w.heap.size + 1 + 1 + 1 + 1, 0, none⟩ = some (.int .u64 e) → (sets W1 (w.heap.size + 1 + 1 + 1) m d).cell? ⟨w.heap.size + 1 + 1 + 1 + 1, 0, none⟩ = some (.int .u64 e) := fun hk =>
        (sets_cell W1 (w.heap.size + 1 + 1 + 1) m d (by omega) 0).trans ((b1.cell (p := ⟨w.heap.size + 1 + 1 + 1 + 1, 0, none⟩) (World.block_lt_of_cell? W _ hk)).trans hk)
      gi_wp2_with fail
      refine ⟨trivial, ?_⟩
      gi_at_call 51
      refine (CallsIn.inRound l (callsIn_wide.2 (T2 (sets W1 (w.heap.size + 1 + 1 + 1) m d)))).mono ?_
      rintro e' W3 ⟨rfl, b3⟩
      clear q0 q1 q2 q3 f0 f1 p0 p1 o0 o1
      generalize sets W1 (w.heap.size + 1 + 1 + 1) m d = W2 at *
      have rO3 := rO2.below b3 rO2.lt
      have f0 := rO3.frz 0
      have f1 := rO3.frz 1
      have p0 := rO3.cell0
      have p1 := rO3.cell1
      gi_wp2
      have ev : valB (pre ++ [true]) = 2 * valB pre + 1 := by rw [valB_snoc]; rfl
      refine ⟨k2.trans ((keeps_below b3).trans (sets_keeps W3 (w.heap.size + 1 + 1 + 1) m d2)), fun hk => ?_, ⟨⟨?_, ?_, ?_⟩, ?_⟩⟩
      · exact (sets_cell W3 (w.heap.size + 1 + 1 + 1) m d2 (by omega) 0).trans ((b3.cell (p := ⟨w.heap.size + 1 + 1 + 1 + 1, 0, none⟩) (World.block_lt_of_cell? W2 _ (c2 hk))).trans (c2 hk))
      · rw [ev, ← pow_step1 a m c d d2 _ hc.out hd.out hd2.out]; exact rO3.sets m d2
      · exact (rA2.below b3 rA2.lt).sets_other (by omega) m d2
      · exact (rR2.below b3 rR2.lt).sets_other (by omega) m d2
      · exact sets_below (rB2.trans (b3.mono rB2.size)) (by omega)
  case done =>
    rintro D xs W hD rfl ⟨⟨rO, rA, rR⟩, rB⟩ hK
    rw [valB_all e (by omega), ← hres.out] at rO
    have o0 := rO.cell0
    have o1 := rO.cell1
    have r0 := rR.cell0
    have r1 := rR.cell1
    have f0 := rR.frz 0
    have f1 := rR.frz 1
    gi_wp2
    refine ⟨by simp, .inl ⟨_, _, rfl, run_takeDeferred ((sets_keeps W (w.heap.size + 1) m res).same D _ hK rfl), ?_⟩⟩
    have rF := rR.sets m res
    refine ⟨.agg #[.int .u64 m, .int .u64 res], ?_, rfl, ?_⟩
    · have hne : D ≠ w.heap.size + 1 := by omega
      have rG : Rw ((sets W (w.heap.size + 1) m res).putObj D (Obj.deferred none)) 72 (w.heap.size + 1) m res :=
        ((grownBy_putObj' _ D (Obj.deferred none)).block _ rF.lt (fun e => hne (Option.some.inj e).symm)).trans rF
      exact results_mid (fn := Try.f54) (p := 4) (ty := 72) Try.results54 _ _ (w.heap.size + 1) 0 [.int .u64 m, .int .u64 res] _ rfl rG.range Try.underlying72 rfl (by kernel_rfl)
    · have hB3 := sets_below (b := w.heap.size + 1) (x := m) (y := res) rB (by omega)
      exact hB3.grown (grownBy_putObj' _ D (Obj.deferred none)) hB3.size (fun k e => by cases e; omega)
  case stop =>
    rintro D c pre W _ _ h _
    exact h.elim
end Go.Proofs.Ytaeanelfpaphiab
