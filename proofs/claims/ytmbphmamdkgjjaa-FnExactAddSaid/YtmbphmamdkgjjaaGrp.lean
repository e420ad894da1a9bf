import Derived.Test.YtmbphmamdkgjjaaCrv
namespace Go.Proofs.Ytmbphmamdkgjjaa.M

/-- the sum of two points -/
def ad : Pt → Pt → Pt
  | none, q => q
  | some (x, y), none => some (x, y)
  | some (x1, y1), some (x2, y2) =>
    if x1 = x2 then
      if y1 + y2 = 0 then none else third x1 y1 x1 ((3 * (x1 * x1) - 3) * fi (y1 + y1))
    else third x1 y1 x2 ((y2 - y1) * fi (x2 - x1))
def ng : Pt → Pt
  | none => none
  | some (x, y) => some (x, (-y))
def pX : Pt → Fp
  | none => 0
  | some (x, _) => x
def pY : Pt → Fp
  | none => 1
  | some (_, y) => y
def pZ : Pt → Fp
  | none => 0
  | some (_, _) => 1
theorem sub_eq {a b : Fp} (h : a - b = 0) : a = b := by grobner
theorem sub_ne {a b : Fp} (h : a ≠ b) : b - a ≠ 0 := fun e => h (by grobner)
theorem dbl_ne {y : Fp} (h : y ≠ 0) : y + y ≠ 0 := by
  intro e
  have : (2 : Fp) * y = 0 := by grobner
  exact ne_mul two_ne h this
/-- the three ways to add two points of the curve that aren't zero -/
theorem ad_ways {x1 y1 x2 y2 : Fp} (h1 : on (some (x1, y1))) (h2 : on (some (x2, y2))) (m : Pt → Prop)
    (a : x1 = x2 → y1 + y2 = 0 → m none)
    (b : ∀ s, x1 = x2 → y1 = y2 → s * (y1 + y1) = 3 * (x1 * x1) - 3 → m (third x1 y1 x1 s))
    (d : ∀ s, x1 ≠ x2 → s * (x2 - x1) = y2 - y1 → m (third x1 y1 x2 s)) : m (ad (some (x1, y1)) (some (x2, y2))) := by
  simp only [ad]
  split
  · rename_i e
    split
    · rename_i e2; exact a e e2
    · rename_i e2
      subst e
      have e3 : y1 = y2 := by
        rcases same_x h1 h2 with r | r
        · exact r
        · exact absurd r e2
      refine b _ rfl e3 ?_
      have := fi_mul (dbl_ne (y_ne h1))
      grobner
  · rename_i e
    refine d _ e ?_
    have := fi_mul (sub_ne e)
    grobner
theorem ad_on : ∀ {p q : Pt}, on p → on q → on (ad p q)
  | none, _, _, h => h
  | some (_, _), none, h, _ => h
  | some (_, _), some (_, _), h1, h2 => by
    refine ad_ways h1 h2 on (fun _ _ => trivial) (fun s _ _ hs => third_dbl h1 hs) (fun s hx hs => third_on h1 h2 hx hs)
theorem ng_on : ∀ {p : Pt}, on p → on (ng p)
  | none, _ => trivial
  | some (x, y), h => by
    have h' : y * y = crv x := h
    show (-y) * (-y) = crv x
    grobner

/-- three coordinates of a point -/
def rep (X Y Z : Fp) (p : Pt) : Prop := ∃ l : Fp, l ≠ 0 ∧ X = l * pX p ∧ Y = l * pY p ∧ Z = l * pZ p
theorem rep_eq {X Y Z X' Y' Z' : Fp} : ∀ {p q : Pt}, rep X Y Z p → rep X' Y' Z' q → X * Z' = Z * X' → Y * Z' = Z * Y' → p = q
  | none, none, _, _, _, _ => rfl
  | none, some (x, y), ⟨l, h0, _, h2, h3⟩, ⟨m, g0, _, _, g3⟩, _, e2 => by
    simp only [pY, pZ] at h2 h3 g3
    exact absurd (show l * m = 0 by grobner) (ne_mul h0 g0)
  | some (x, y), none, ⟨l, h0, _, _, h3⟩, ⟨m, g0, _, g2, g3⟩, _, e2 => by
    simp only [pY, pZ] at h3 g2 g3
    exact absurd (show l * m = 0 by grobner) (ne_mul h0 g0)
  | some (x, y), some (x', y'), ⟨l, h0, h1, h2, h3⟩, ⟨m, g0, g1, g2, g3⟩, e1, e2 => by
    simp only [pX, pY, pZ] at h1 h2 h3 g1 g2 g3
    have a : (l * m) * (x - x') = 0 := by grobner
    have b : (l * m) * (y - y') = 0 := by grobner
    have n := ne_mul h0 g0
    have a' : x = x' := by
      rcases noz a with r | r
      · exact absurd r n
      · grobner
    have b' : y = y' := by
      rcases noz b with r | r
      · exact absurd r n
      · grobner
    rw [a', b']
theorem c3_ne {y : Fp} (h : y ≠ 0) : 8 * (y * y * y) ≠ 0 := ne_mul (by decide) (ne_mul (ne_mul h h) h)

/-- the sum in three coordinates is the sum, at all points of the curve -/
theorem rep_ad : ∀ {p q : Pt}, on p → on q → rep (cX (pX p) (pY p) (pZ p) (pX q) (pY q) (pZ q)) (cY (pX p) (pY p) (pZ p) (pX q) (pY q) (pZ q)) (cZ (pX p) (pY p) (pZ p) (pX q) (pY q) (pZ q)) (ad p q)
  | none, none, _, _ => ⟨1, by decide, by simp only [ad, pX, pY, pZ, cX]; grobner, by simp only [ad, pX, pY, pZ, cY]; grobner, by simp only [ad, pX, pY, pZ, cZ]; grobner⟩
  | none, some (x, y), _, h => ⟨y, y_ne h, by simp only [ad, pX, pY, pZ, cX]; grobner, by simp only [ad, pX, pY, pZ, cY]; grobner, by simp only [ad, pX, pY, pZ, cZ]; grobner⟩
  | some (x, y), none, h, _ => ⟨y, y_ne h, by simp only [ad, pX, pY, pZ, cX]; grobner, by simp only [ad, pX, pY, pZ, cY]; grobner, by simp only [ad, pX, pY, pZ, cZ]; grobner⟩
  | some (x1, y1), some (x2, y2), h1, h2 => by
    have h1' : y1 * y1 = x1 * x1 * x1 - 3 * x1 + 111 := h1
    have h2' : y2 * y2 = x2 * x2 * x2 - 3 * x2 + 111 := h2
    refine ad_ways h1 h2 (fun r => rep (cX x1 y1 1 x2 y2 1) (cY x1 y1 1 x2 y2 1) (cZ x1 y1 1 x2 y2 1) r) ?_ ?_ ?_
    · intro e1 e2
      subst e1
      have e3 : y2 = - y1 := by grobner
      subst e3
      -- the double of the first
      have d := fi_mul (dbl_ne (y_ne h1))
      have on2 := third_dbl (s := (3 * (x1 * x1) - 3) * fi (y1 + y1)) h1 (by grobner)
      have hs : ((3 * (x1 * x1) - 3) * fi (y1 + y1)) * (y1 + y1) = 3 * (x1 * x1) - 3 := by grobner
      generalize (3 * (x1 * x1) - 3) * fi (y1 + y1) = s at on2 hs
      refine ⟨8 * (y1 * y1 * y1) * (s * (x1 - (s * s - x1 - x1)) - y1), ne_mul (c3_ne (y_ne h1)) (y_ne on2), ?_, ?_, ?_⟩
      · simp only [pX, cX]; grobner
      · simp only [pY, cY]; grobner
      · simp only [pZ, cZ]; grobner
    · intro s e1 e2 hs
      subst e1 e2
      refine ⟨8 * (y1 * y1 * y1), c3_ne (y_ne h1), ?_, ?_, ?_⟩
      · simp only [third, pX, cX]; grobner
      · simp only [third, pY, cY]; grobner
      · simp only [third, pZ, cZ]; grobner
    · intro s hx hs
      have d := fi_mul (sub_ne hx)
      have hd := sub_ne hx
      have hs' : ((- y2 - y1) * fi (x2 - x1)) * (x2 - x1) = - y2 - y1 := by grobner
      generalize (- y2 - y1) * fi (x2 - x1) = t at hs'
      have on2 : on (third x1 y1 x2 t) := third_on h1 (ng_on h2) hx hs'
      have k : cZ x1 y1 1 x2 y2 1 = (x2 - x1) * (x2 - x1) * (x2 - x1) * (t * (x1 - (t * t - x1 - x2)) - y1) := by
        unfold cZ; grobner
      refine ⟨cZ x1 y1 1 x2 y2 1, ?_, ?_, ?_, ?_⟩
      · rw [k]; exact ne_mul (ne_mul (ne_mul hd hd) hd) (y_ne on2)
      · have : (x2 - x1) * (x2 - x1) * (cX x1 y1 1 x2 y2 1 - cZ x1 y1 1 x2 y2 1 * (s * s - x1 - x2)) = 0 := by
          unfold cX cZ; clear k on2 hs' d; grobner
        rcases noz this with r | r
        · exact absurd r (ne_mul hd hd)
        · exact sub_eq r
      · have : (x2 - x1) * (x2 - x1) * (x2 - x1) * (cY x1 y1 1 x2 y2 1 - cZ x1 y1 1 x2 y2 1 * (s * (x1 - (s * s - x1 - x2)) - y1)) = 0 := by
          unfold cY cZ; clear k on2 hs' d; grobner
        rcases noz this with r | r
        · exact absurd r (ne_mul (ne_mul hd hd) hd)
        · exact sub_eq r
      · show cZ x1 y1 1 x2 y2 1 = cZ x1 y1 1 x2 y2 1 * 1
        generalize cZ x1 y1 1 x2 y2 1 = u
        clear k on2 hs' d hs h1' h2'
        grobner
end Go.Proofs.Ytmbphmamdkgjjaa.M
