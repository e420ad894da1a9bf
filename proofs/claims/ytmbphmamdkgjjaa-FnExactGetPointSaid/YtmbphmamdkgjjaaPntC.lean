import Derived.Test.YtmbphmamdkgjjaaPntB
namespace Go.Proofs.Ytmbphmamdkgjjaa
open Go.RowKit M
set_option linter.unusedVariables false

theorem rep_point {X Y Z : Fp} : ∀ {p : Pt}, rep X Y Z p → (p = none ∧ Z = 0) ∨ (Z ≠ 0 ∧ p = some (X * fi Z, Y * fi Z))
  | none, ⟨l, _, _, _, hZ⟩ => .inl ⟨rfl, by rw [hZ]; show l * 0 = 0; grobner⟩
  | some (x, y), ⟨l, hl, hX, hY, hZ⟩ => by
    have e : Z = l := by rw [hZ]; show l * 1 = l; grobner
    subst e
    have hf := fi_mul hl
    refine .inr ⟨hl, ?_⟩
    have h1 : X * fi Z = x := by
      have : X = Z * x := hX
      grobner
    have h2 : Y * fi Z = y := by
      have : Y = Z * y := hY
      grobner
    rw [h1, h2]
theorem pntV {X Y Z : Fp} {p : Pt} (h : rep X Y Z p) (w : World) :
    Calls Try.prog 50 #[.agg #[.int .u64 (fv X), .int .u64 (fv Y), .int .u64 (fv Z)]] w fun e w' => e = .returned (ptW p) ∧ Below w.heap.size w w' := by
  rcases rep_point h with ⟨rfl, hz⟩ | ⟨hz, rfl⟩
  · exact pntP_no X Y Z w (by rw [fv_zero]; simp [hz])
  · exact pntP_yes X Y Z w (by rw [fv_zero]; simp [hz])
theorem cplV {p q : Pt} (hp : on p) (hq : on q) (w : World) :
    Calls Try.prog 33 #[ptW p, ptW q] w fun e w' => e = .returned (ptW (ad p q)) ∧ Below w.heap.size w w' := by
  have K1 := triV p
  have K2 := triV q
  have K4 := pntV (rep_ad hp hq)
  rw [ptW_eq] at K1 K2 K4 ⊢
  rw [ptW_eq q, ptW_eq (ad p q)]
  exact cplus_of _ _ _ _ _ _ _ _ _ _ _ _ _ _ _ _ _ _ w K1 K2 (trV _ _ _ _ _ _) K4

/-- the multiple of a triple, bit by bit -/
def tstep (t u : Fp × Fp × Fp) : Fp × Fp × Fp := (cX t.1 t.2.1 t.2.2 u.1 u.2.1 u.2.2, cY t.1 t.2.1 t.2.2 u.1 u.2.1 u.2.2, cZ t.1 t.2.1 t.2.2 u.1 u.2.1 u.2.2)
def trB (t : Fp × Fp × Fp) (l : List Bool) : Fp × Fp × Fp := l.foldl (fun v b => if b then tstep (tstep v v) t else tstep v v) (0, 1, 0)
theorem trB_0 (t : Fp × Fp × Fp) (l : List Bool) : trB t (l ++ [false]) = tstep (trB t l) (trB t l) := by simp [trB]
theorem trB_1 (t : Fp × Fp × Fp) (l : List Bool) : trB t (l ++ [true]) = tstep (tstep (trB t l) (trB t l)) t := by simp [trB]
def rept (t : Fp × Fp × Fp) (p : Pt) : Prop := rep t.1 t.2.1 t.2.2 p
theorem rept_step {t u : Fp × Fp × Fp} {p q : Pt} (hp : on p) (hq : on q) (h : rept t p) (k : rept u q) : rept (tstep t u) (ad p q) := rep_c hp hq h k
theorem trB_rep {t : Fp × Fp × Fp} {p : Pt} (hp : on p) (h : rept t p) (l : List Bool) : rept (trB t l) (nt (valB l) p) := by
  suffices ∀ r : List Bool, rept (trB t r.reverse) (nt (valB r.reverse) p) by simpa using this l.reverse
  intro r
  induction r with
  | nil => exact rep_self none
  | cons b r ih =>
    have h2 := rept_step (nt_on hp _) (nt_on hp _) ih ih
    rw [← nt_add hp, ← Nat.two_mul] at h2
    rw [List.reverse_cons]
    cases b with
    | false => rw [trB_0, valB_snoc]; exact h2
    | true =>
      rw [trB_1, valB_snoc]
      have h3 := rept_step (nt_on hp _) hp h2 h
      exact h3
theorem T3.own {β : Type} (B : Nat) (b : Nat) (g1 g2 g3 : β → Int) : OwnFrom B (fun s W => T3 W b (g1 s) (g2 s) (g3 s)) := fun s W W' row hs hg hr => by
  refine (hg.block b hs.lt (fun e => ?_)).trans hs
  obtain ⟨-, o, ho, hc⟩ := hr b e.symm
  rw [show W.heap[b]? = _ from hs] at ho
  cases ho; cases hc
end Go.Proofs.Ytmbphmamdkgjjaa
