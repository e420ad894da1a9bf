import Derived.Test.YtmbphmamdkgjjaaGrp
namespace Go.Proofs.Ytmbphmamdkgjjaa.M

theorem cX_sc (l m X1 Y1 Z1 X2 Y2 Z2 : Fp) : cX (l * X1) (l * Y1) (l * Z1) (m * X2) (m * Y2) (m * Z2) = (l * l * (m * m)) * cX X1 Y1 Z1 X2 Y2 Z2 := by unfold cX; grobner
theorem cY_sc (l m X1 Y1 Z1 X2 Y2 Z2 : Fp) : cY (l * X1) (l * Y1) (l * Z1) (m * X2) (m * Y2) (m * Z2) = (l * l * (m * m)) * cY X1 Y1 Z1 X2 Y2 Z2 := by unfold cY; grobner
theorem cZ_sc (l m X1 Y1 Z1 X2 Y2 Z2 : Fp) : cZ (l * X1) (l * Y1) (l * Z1) (m * X2) (m * Y2) (m * Z2) = (l * l * (m * m)) * cZ X1 Y1 Z1 X2 Y2 Z2 := by unfold cZ; grobner
theorem rep_sc {X Y Z : Fp} {p : Pt} (k : Fp) (hk : k ≠ 0) : rep X Y Z p → rep (k * X) (k * Y) (k * Z) p := by
  rintro ⟨l, h0, h1, h2, h3⟩
  exact ⟨k * l, ne_mul hk h0, by grobner, by grobner, by grobner⟩
theorem rep_c {X1 Y1 Z1 X2 Y2 Z2 : Fp} {p q : Pt} (hp : on p) (hq : on q) (h1 : rep X1 Y1 Z1 p) (h2 : rep X2 Y2 Z2 q) : rep (cX X1 Y1 Z1 X2 Y2 Z2) (cY X1 Y1 Z1 X2 Y2 Z2) (cZ X1 Y1 Z1 X2 Y2 Z2) (ad p q) := by
  obtain ⟨l, h0, rfl, rfl, rfl⟩ := h1
  obtain ⟨m, g0, rfl, rfl, rfl⟩ := h2
  rw [cX_sc, cY_sc, cZ_sc]
  exact rep_sc _ (ne_mul (ne_mul h0 h0) (ne_mul g0 g0)) (rep_ad hp hq)
theorem rep_self (p : Pt) : rep (pX p) (pY p) (pZ p) p := ⟨1, by decide, by grobner, by grobner, by grobner⟩
def gG : Pt := some (1, 509478702933351334)
theorem gG_on : on gG := by
  show (509478702933351334 : Fp) * 509478702933351334 = 1 * 1 * 1 - 3 * 1 + 111
  decide

section check
variable {x1 y1 x2 y2 : Fp}
def e1 (x1 y1 : Fp) : List Nat × List Nat → Fp := pev (lev (fun a => Fin.ofNat _ a) x1) y1
def e2 (x1 y1 x2 y2 : Fp) : Tm → Fp := pev (lev (e1 x1 y1) x2) y2
theorem e1_is (h1 : on (some (x1, y1))) : Is O1 (e1 x1 y1) := by
  have h1' : y1 * y1 = x1 * x1 * x1 - 3 * x1 + 111 := h1
  refine pr_is _ _ (lst_is _ _ base_is x1) _ y1 ?_
  show y1 * y1 = 111 + x1 * (2305843009213693948 + x1 * (0 + x1 * (1 + x1 * 0)))
  grobner
theorem e1_cst (n : Nat) : e1 x1 y1 ([n], []) = Fin.ofNat _ n := by
  show (Fin.ofNat _ n + x1 * 0) + 0 * y1 = _
  generalize Fin.ofNat 2305843009213693951 n = u
  grobner
theorem e1_nil : e1 x1 y1 ([], []) = 0 := by
  show (0 : Fp) + 0 * y1 = 0
  grobner
theorem e2_is (h1 : on (some (x1, y1))) (h2 : on (some (x2, y2))) : Is O2 (e2 x1 y1 x2 y2) := by
  have h2' : y2 * y2 = x2 * x2 * x2 - 3 * x2 + 111 := h2
  refine pr_is _ _ (lst_is _ _ (e1_is h1) x2) _ y2 ?_
  show y2 * y2 = e1 x1 y1 ([111], []) + x2 * (e1 x1 y1 ([2305843009213693948], []) + x2 * (e1 x1 y1 ([], []) + x2 * (e1 x1 y1 ([1], []) + x2 * 0)))
  rw [e1_cst, e1_cst, e1_cst, e1_nil]
  show y2 * y2 = 111 + x2 * (2305843009213693948 + x2 * (0 + x2 * (1 + x2 * 0)))
  grobner
theorem ck_eq (h1 : on (some (x1, y1))) (h2 : on (some (x2, y2))) {a b : Tm} (h : O2.isz (O2.sub a b) = true) : e2 x1 y1 x2 y2 a = e2 x1 y1 x2 y2 b := by
  have I := e2_is h1 h2
  have := I.isz_ev _ h
  rw [I.sub_ev] at this
  exact sub_eq this
theorem e2_X1 : e2 x1 y1 x2 y2 vX1 = x1 := by
  show ((((Fin.ofNat _ 0 + x1 * (Fin.ofNat _ 1 + x1 * 0)) + 0 * y1) + x2 * 0) + 0 * y2) = x1
  show ((((0 + x1 * (1 + x1 * 0)) + 0 * y1) + x2 * 0) + 0 * y2) = x1
  grobner
theorem e2_Y1 : e2 x1 y1 x2 y2 vY1 = y1 := by
  show (((0 + (Fin.ofNat _ 1 + x1 * 0) * y1) + x2 * 0) + 0 * y2) = y1
  show (((0 + (1 + x1 * 0) * y1) + x2 * 0) + 0 * y2) = y1
  grobner
theorem e2_X2 : e2 x1 y1 x2 y2 vX2 = x2 := by
  show (e1 x1 y1 ([], []) + x2 * (e1 x1 y1 ([1], []) + x2 * 0)) + 0 * y2 = x2
  rw [e1_cst, e1_nil]
  show (0 + x2 * (1 + x2 * 0)) + 0 * y2 = x2
  grobner
theorem e2_Y2 : e2 x1 y1 x2 y2 vY2 = y2 := by
  show 0 + (e1 x1 y1 ([1], []) + x2 * 0) * y2 = y2
  rw [e1_cst]
  show 0 + (1 + x2 * 0) * y2 = y2
  grobner
theorem e2_1 (h1 : on (some (x1, y1))) (h2 : on (some (x2, y2))) : e2 x1 y1 x2 y2 v1 = 1 := (e2_is h1 h2).cst_ev 1
theorem e2_G (h1 : on (some (x1, y1))) (h2 : on (some (x2, y2))) : e2 x1 y1 x2 y2 vG = 509478702933351334 := (e2_is h1 h2).cst_ev 509478702933351334

/-- adding the base last or first is the same -/
theorem asc_cc (h1 : on (some (x1, y1))) (h2 : on (some (x2, y2))) : ad (some (x1, y1)) (ad (some (x2, y2)) gG) = ad (ad (some (x1, y1)) (some (x2, y2))) gG := by
  have I := e2_is h1 h2
  have b := rep_c h1 (ad_on h2 gG_on) (rep_self _) (rep_ad h2 gG_on)
  have a := rep_c (ad_on h1 h2) gG_on (rep_ad h1 h2) (rep_self _)
  simp only [pX, pY, pZ, gG] at a b
  have bX' := (tX_ev O2 _ I vX2 vY2 v1 v1 vG v1).symm.trans (ck_eq h1 h2 bX_ck)
  have bY' := (tY_ev O2 _ I vX2 vY2 v1 v1 vG v1).symm.trans (ck_eq h1 h2 bY_ck)
  have bZ' := (tZ_ev O2 _ I vX2 vY2 v1 v1 vG v1).symm.trans (ck_eq h1 h2 bZ_ck)
  have aX' := (tX_ev O2 _ I vX1 vY1 v1 vX2 vY2 v1).symm.trans (ck_eq h1 h2 aX_ck)
  have aY' := (tY_ev O2 _ I vX1 vY1 v1 vX2 vY2 v1).symm.trans (ck_eq h1 h2 aY_ck)
  have aZ' := (tZ_ev O2 _ I vX1 vY1 v1 vX2 vY2 v1).symm.trans (ck_eq h1 h2 aZ_ck)
  have lX' := (tX_ev O2 _ I vX1 vY1 v1 bX bY bZ).symm.trans (ck_eq h1 h2 lX_ck)
  have lY' := (tY_ev O2 _ I vX1 vY1 v1 bX bY bZ).symm.trans (ck_eq h1 h2 lY_ck)
  have lZ' := (tZ_ev O2 _ I vX1 vY1 v1 bX bY bZ).symm.trans (ck_eq h1 h2 lZ_ck)
  have rX' := (tX_ev O2 _ I aX aY aZ v1 vG v1).symm.trans (ck_eq h1 h2 rX_ck)
  have rY' := (tY_ev O2 _ I aX aY aZ v1 vG v1).symm.trans (ck_eq h1 h2 rY_ck)
  have rZ' := (tZ_ev O2 _ I aX aY aZ v1 vG v1).symm.trans (ck_eq h1 h2 rZ_ck)
  rw [e2_X2, e2_Y2, e2_1 h1 h2, e2_G h1 h2] at bX' bY' bZ'
  rw [e2_X1, e2_Y1, e2_X2, e2_Y2, e2_1 h1 h2] at aX' aY' aZ'
  rw [e2_X1, e2_Y1, e2_1 h1 h2] at lX' lY' lZ'
  rw [e2_1 h1 h2, e2_G h1 h2] at rX' rY' rZ'
  rw [bX', bY', bZ', lX', lY', lZ'] at b
  rw [aX', aY', aZ', rX', rY', rZ'] at a
  refine rep_eq b a ?_ ?_
  · rw [← I.mul_ev, ← I.mul_ev]; exact ck_eq h1 h2 XZ_ck
  · rw [← I.mul_ev, ← I.mul_ev]; exact ck_eq h1 h2 YZ_ck
end check
theorem ad_o (p : Pt) : ad p none = p := by cases p <;> rfl
theorem o_ad (p : Pt) : ad none p = p := rfl
theorem asc : ∀ {p q : Pt}, on p → on q → ad p (ad q gG) = ad (ad p q) gG
  | none, _, _, _ => rfl
  | some (_, _), none, _, _ => rfl
  | some (_, _), some (_, _), h1, h2 => asc_cc h1 h2
end Go.Proofs.Ytmbphmamdkgjjaa.M
