import Derived.Test.YtagnikeaellbiaaGreatDoorMrg32
import Derived.Test.YtagnikeaellbiaaGreatDoorMrg33
import Derived.Test.YtagnikeaellbiaaGreatDoorMrg35
/-
  The program's proofs: prove, accepts.
-/
namespace Go.Proofs.YtagnikeaellbiaaGreatDoor
open Go.RowKit M
set_option linter.unusedVariables false

theorem RN.new (w : World) (z : Int) : RN (w.alloc (.cells #[.int .u64 z] 77)) w.heap.size z := heap_alloc_new w _
theorem RN.alloc' {W : World} {b : Nat} {z : Int} (h : RN W b z) (o : Obj) : RN (W.alloc o) b z := (Below.heap_alloc W o b (Array.getElem?_eq_some_iff.1 h).1).trans h
theorem RN.at' {W : World} {b b' : Nat} {z : Int} (h : RN W b z) (e : b = b') : RN W b' z := e ▸ h
theorem prf_res {W : World} {b : Nat} {x y : Int} {fn : Func} {p : Tmp} (h : fn.results = #[.cell p 37]) (tmps : Array Value) (hp : tmps.getD p undef = .pointer (some ⟨b, 0, none⟩)) (hc : P2 W 37 b x y) :
    (results fn tmps).run Tryz.prog W = .ok (.agg #[.int .u64 x, .int .u64 y]) W :=
  results_mid h tmps W b 0 [.int .u64 x, .int .u64 y] _ hp hc.range Tryz.underlying37 rfl (by kernel_rfl)
theorem mnN_any (a b : Nat) (w : World) (ha : a < 2305843010818082053) (hb : b < 2305843010818082053) :
    Calls Tryz.prog 63 #[.agg #[.int .u64 a], .agg #[.int .u64 b]] w fun e w' => e = .returned (.agg #[.int .u64 ((a + (2305843010818082053 - b) % 2305843010818082053) % 2305843010818082053 : Nat)]) ∧ Below w.heap.size w w' := by
  by_cases h : a < b
  · have e : ((a + (2305843010818082053 - b) % 2305843010818082053) % 2305843010818082053 : Nat) = a + 2305843010818082053 - b := by
      rw [Nat.mod_eq_of_lt (show 2305843010818082053 - b < 2305843010818082053 by omega), Nat.mod_eq_of_lt (by omega)]; omega
    rw [e]
    refine mnN_lt a b ((a : Int) - b + 18446744073709551616) _ w (by omega) ?_ ?_
    · rw [IntKind.wrap_u64]; omega
    · rw [IntKind.wrap_u64]; omega
  · have e : ((a + (2305843010818082053 - b) % 2305843010818082053) % 2305843010818082053 : Nat) = a - b := by
      by_cases hb0 : b = 0
      · subst hb0
        rw [Nat.sub_zero, Nat.mod_self, Nat.add_zero, Nat.mod_eq_of_lt ha, Nat.sub_zero]
      · rw [Nat.mod_eq_of_lt (show 2305843010818082053 - b < 2305843010818082053 by omega)]
        have : a + (2305843010818082053 - b) = (a - b) + 2305843010818082053 := by omega
        rw [this, Nat.add_mod_right, Nat.mod_eq_of_lt (by omega)]
    rw [e]
    refine mnN_ge a b _ w (by omega) ?_
    rw [IntKind.wrap_u64]; omega
set_option maxRecDepth 100000 in
set_option maxHeartbeats 8000000 in
theorem prvI_any (md n g1 k1 g2 k2 k r : Nat) (a b : Pt) (cs ds : List Pt) (w : World) (hT : TabK w) (hmd : md < 3) (h1 : 1 ≤ n) (hn : n ≤ 200) (hlc : cs.length = n) (hld : ds.length = n) (ha : on a) (hoc : ∀ p ∈ cs, on p) (hc : Cps w g1 cs) (hd : Cps w g2 ds)
    (hk : k < 2305843010818082053) (hr : r < 2305843010818082053) (m : Pt) (hm : m = mixTo (wgts md b cs ds n) cs n) (c : Nat) (hcc : c = chal md b m (nt k m) (nt r a) (nt r m)) :
    Calls Tryz.prog 38 #[.agg #[.string (ctxB md), .int .u64 (px b), .int .u64 (py b), .bool (pb b), .slice (some ⟨g1, 0, none⟩) n k1, .slice (some ⟨g2, 0, none⟩) n k2], .agg #[.int .u64 k], .agg #[.int .u64 (px a), .int .u64 (py a), .bool (pb a)], .agg #[.int .u64 r]] w fun e w' => e = .returned (.agg #[.int .u64 c, .int .u64 ((r + (2305843010818082053 - c * k % 2305843010818082053) % 2305843010818082053) % 2305843010818082053 : Nat)]) ∧ Below w.heap.size w w' := by
  have hgw : 3 < w.heap.size := World.block_lt_of_cell? w _ (hT 0 (by omega))
  have hom : on m := by rw [hm]; exact mixTo_on hoc n
  have hcl : c < 2305843010818082053 := by rw [hcc]; exact scaN_lt _ _
  have hWt : ∀ w', Below w.heap.size w w' → Calls Tryz.prog 55 #[.agg #[.string (ctxB md), .int .u64 (px b), .int .u64 (py b), .bool (pb b), .slice (some ⟨g1, 0, none⟩) n k1, .slice (some ⟨g2, 0, none⟩) n k2]] w' fun e w'' => ∃ x, e = .returned (slG n x) ∧ w''.ownsRow w.heap.size 77 1 (slG n x) n ((wgts md b cs ds n).map (Value.int .u64)) ∧ Below w'.heap.size w' w'' := fun w' hb => by
    refine (wgtI_of md n g1 k1 g2 k2 b cs ds w' (keepT hT hgw hb) hmd h1 hn hlc hld (hc.below (B := w.heap.size) hb hc.lt) (hd.below (B := w.heap.size) hb hd.lt)).mono ?_
    rintro e w'' ⟨g, cap, rfl, hown, hb2⟩
    have e := slG_of n g cap (own_cap hown)
    exact ⟨g * 18446744073709551616 + cap, by rw [e], by rw [e]; exact hown.mono hb.size, hb2⟩
  have hMx : ∀ x w', Below w.heap.size w w' → w'.ownsRow w.heap.size 77 1 (slG n x) n ((wgts md b cs ds n).map (Value.int .u64)) → Calls Tryz.prog 56 #[slG n x, .slice (some ⟨g1, 0, none⟩) n k1] w' fun e w'' => e = .returned (.agg #[.int .u64 (px m), .int .u64 (py m), .bool (pb m)]) ∧ Below w'.heap.size w' w'' := fun x w' hb hown => by
    rw [hm]
    unfold slG at hown ⊢
    exact sumW_any _ _ n _ cs n g1 k1 w' hn (Nat.le_refl _) (fun i hi => wgts_in' md b cs ds n i hi) (hown.lt _ rfl).2 (fun i hi => own_cell hown i hi) hlc hoc (hc.below hb hc.lt)
  have T1 := fun w => ctmV hom k (by omega) w
  have T2 := fun w => ctmV ha r (by omega) w
  have T3' := fun w => ctmV hom r (by omega) w
  rw [ptW_eq, ptW_eq] at T1 T2 T3'
  have CH := fun w hT => chlI_of md b m (nt k m) (nt r a) (nt r m) (some ⟨g1, 0, none⟩) n k1 (some ⟨g2, 0, none⟩) n k2 w hT hmd
  rw [← hcc] at CH
  have MU := fun w => timN_any c k w hcl hk
  have hx : c * k % 2305843010818082053 < 2305843010818082053 := Nat.mod_lt _ (by decide)
  have MN := fun w => mnN_any r (c * k % 2305843010818082053) w hr hx
  generalize ((r + (2305843010818082053 - c * k % 2305843010818082053) % 2305843010818082053) % 2305843010818082053 : Nat) = s at *
  generalize c * k % 2305843010818082053 = ck at *
  generalize nt k m = z at *
  generalize nt r m = y at *
  generalize nt r a = x at *
  generalize wgts md b cs ds n = ws at *
  clear hm hcc hx
  obtain ⟨X, hX⟩ : ∃ X, X = ((((w.alloc (Obj.cells #[.string (ctxB md), .int .u64 (px b), .int .u64 (py b), .bool (pb b), .slice (some ⟨g1, 0, none⟩) n k1, .slice (some ⟨g2, 0, none⟩) n k2] 65)).alloc (Obj.cells #[.int .u64 (k : Int)] 77)).alloc (Obj.cells #[.int .u64 (px a), .int .u64 (py a), .bool (pb a)] 62)).alloc (Obj.cells #[.int .u64 (r : Int)] 77)).alloc (Obj.cells #[.int .u64 0, .int .u64 0] 37) := ⟨_, rfl⟩
  have r0 : B6 X w.heap.size (ctxB md) (px b) (py b) (pb b) (some ⟨g1, 0, none⟩) n k1 (some ⟨g2, 0, none⟩) n k2 := by rw [hX]; exact ((((B6.new _ _ _ _ _ _ _ _ _ _ _).alloc _).alloc _).alloc _).alloc _
  have rk : RN X (w.heap.size + 1) (k : Int) := by rw [hX]; exact ((((RN.new _ _).at' (by simp)).alloc' _).alloc' _).alloc' _
  have ra : K3 X 62 (w.heap.size + 1 + 1) (px a) (py a) (pb a) := by rw [hX]; exact (((K3.new _ _ _ _ _).at (by simp)).alloc _).alloc _
  have rr : RN X (w.heap.size + 1 + 1 + 1) (r : Int) := by rw [hX]; exact ((RN.new _ _).at' (by simp)).alloc' _
  have rp : P2 X 37 (w.heap.size + 1 + 1 + 1 + 1) 0 0 := by rw [hX]; exact (P2.new _ _ _ _).at (by simp)
  have hb : Below w.heap.size w X := by
    rw [hX]
    exact (((((Below.refl _ w).alloc (Nat.le_refl _) _).alloc (by simp) _).alloc (by simp; omega) _).alloc (by simp; omega) _).alloc (by simp; omega) _
  go_enter Tryz.func38, Tryz.ntmps38
  go_wp2
  rw [← hX]
  clear hX
  have s0 : X.drew.cell? ⟨w.heap.size, 0, none⟩ = _ := r0.c0
  have s1 : X.drew.cell? ⟨w.heap.size, 1, none⟩ = _ := r0.c1
  have s2 : X.drew.cell? ⟨w.heap.size, 2, none⟩ = _ := r0.c2
  have s3 : X.drew.cell? ⟨w.heap.size, 3, none⟩ = _ := r0.c3
  have s4 : X.drew.cell? ⟨w.heap.size, 4, none⟩ = _ := r0.c4
  have s5 : X.drew.cell? ⟨w.heap.size, 5, none⟩ = _ := r0.c5
  have hbD : ∀ w', G.Sides [] X.drew w' → Below w.heap.size w w' := fun w' h => hb.drew.trans (h.below.mono hb.size)
  refine G.pool_list [] [.val (.agg #[.string (ctxB md), .int .u64 (px b), .int .u64 (py b), .bool (pb b), .slice (some ⟨g1, 0, none⟩) n k1, .slice (some ⟨g2, 0, none⟩) n k2]),
      .got (slG n) (fun x w' => w'.ownsRow w.heap.size 77 1 (slG n x) n (ws.map (Value.int .u64))),
      .val (.pointer (some ⟨w.heap.size, 4, none⟩)),
      .val (.slice (some ⟨g1, 0, none⟩) n k1),
      .val (.agg #[.int .u64 (px m), .int .u64 (py m), .bool (pb m)]),
      .new (.cells #[.int .u64 0, .int .u64 0, .bool false] 62) (.cells #[.int .u64 (px m), .int .u64 (py m), .bool (pb m)] 62) 6,
      .put 5] [[4], [11], [4], [13], [12, 14], [], [9, 15]] (fun f => [(some 11, .agg #[.string (ctxB md), .int .u64 (px b), .int .u64 (py b), .bool (pb b), .slice (some ⟨g1, 0, none⟩) n k1, .slice (some ⟨g2, 0, none⟩) n k2]), (some 12, slG n (f 1)), (some 13, .pointer (some ⟨w.heap.size, 4, none⟩)), (some 14, .slice (some ⟨g1, 0, none⟩) n k1), (some 15, .agg #[.int .u64 (px m), .int .u64 (py m), .bool (pb m)]), (some 9, .pointer (some ⟨f 5, 0, none⟩)), (none, undef)]) (by kernel_rfl) (by kernel_rfl) (by kernel_rfl) (by kernel_rfl) (fun _ => by kernel_rfl) (G.last_of [.cells #[.int .u64 0, .int .u64 0, .bool false] 62] (fun F R hm => by simp only [List.mem_cons, List.not_mem_nil, or_false, reduceCtorEq, false_or, G.Knd.got.injEq] at hm; obtain ⟨-, rfl⟩ := hm; exact (own_lasts _ _ _ _ _ _ (fun ob hm => by simp at hm; subst hm; exact ⟨_, _, rfl, by decide⟩))) (fun ob ob' k hm => by simp at hm; simp [hm]) (fun b ob ob' hm => by simp at hm)) (fun b ob ob' hm => by simp at hm) ?_ ?_
  · intro ix hix
    match ix, hix with
    | 0, _ => exact G.ob_val [(4, .pointer (some ⟨w.heap.size, 0, none⟩))] rfl rfl (fun _ => by kernel_rfl) (fun A w ⟨e0, _⟩ hB => ld_bat e0 (hB.cell s0 (by simp)) (hB.cell s1 (by simp)) (hB.cell s2 (by simp)) (hB.cell s3 (by simp)) (hB.cell s4 (by simp)) (hB.cell s5 (by simp)))
    | 1, _ => exact G.ob_got (fun f => [(11, .agg #[.string (ctxB md), .int .u64 (px b), .int .u64 (py b), .bool (pb b), .slice (some ⟨g1, 0, none⟩) n k1, .slice (some ⟨g2, 0, none⟩) n k2])]) rfl rfl (fun _ => by kernel_rfl) (fun f A w ⟨e0, _⟩ hB hh => cg1 cf_impl_batch_weights e0 (hWt w (hbD w hB)))
    | 2, _ => exact G.ob_val [(4, .pointer (some ⟨w.heap.size, 0, none⟩))] rfl rfl (fun _ => by kernel_rfl) (fun A w ⟨e0, _⟩ hB => fa_bat2 e0)
    | 3, _ => exact G.ob_val [(13, .pointer (some ⟨w.heap.size, 4, none⟩))] rfl rfl (fun _ => by kernel_rfl) (fun A w ⟨e0, _⟩ hB => ld_cpsl e0 (hB.cell s4 (by simp)))
    | 4, _ => exact G.ob_had (fun f => [(12, slG n (f 1)), (14, .slice (some ⟨g1, 0, none⟩) n k1)]) rfl rfl (fun _ => by kernel_rfl) (fun f A w ⟨e0, e1, _⟩ hB hh => cl2 cf_impl_weighted e0 e1 (hMx _ w (hbD w hB) (hh 12 (by decide) 1 rfl (by decide) _ _ rfl)))
    | 5, _ => exact G.ob_new rfl rfl (fun A w => al_cp)
    | 6, _ => exact G.ob_put 9 (fun f => [(9, .pointer (some ⟨f 5, 0, none⟩)), (15, .agg #[.int .u64 (px m), .int .u64 (py m), .bool (pb m)])]) rfl rfl rfl (by decide) (by kernel_rfl) rfl (fun _ => by kernel_rfl) (fun f A w ⟨e0, e1, _⟩ hr => pu_cp e0 e1 hr)
    | ix + 7, h => exact absurd h (by simp)
  intro f W1 hS1 hnew _ _ _
  have hb1 : Below X.heap.size X W1 := (Below.refl _ X).drew.trans hS1.below
  have rm : K3 W1 62 (f 5) (px m) (py m) (pb m) := (hnew 5 _ _ _ rfl (by decide)).2
  generalize f 5 = BM at *
  replace r0 := r0.keep hb1
  replace rk := rk.keep hb1
  replace ra := ra.keep hb1
  replace rr := rr.keep hb1
  replace rp := rp.keep hb1
  replace hb := hb.trans (hb1.mono hb.size)
  clear s0 s1 s2 s3 s4 s5 hbD hS1 hb1 hnew hWt hMx
  simp only [puts, List.foldl, Act.put, List.setIfInBounds_toArray, List.set_cons_zero, List.set_cons_succ]
  go_wp2
  have hT1 : TabK W1.drew := fun i hi => (hb.cell (p := ⟨3, i, none⟩) hgw).trans (hT i hi)
  have hg1 : 3 < W1.drew.heap.size := Nat.lt_of_lt_of_le hgw hb.size
  have s0 : W1.drew.cell? ⟨w.heap.size, 0, none⟩ = _ := r0.c0
  have s1 : W1.drew.cell? ⟨w.heap.size, 1, none⟩ = _ := r0.c1
  have s2 : W1.drew.cell? ⟨w.heap.size, 2, none⟩ = _ := r0.c2
  have s3 : W1.drew.cell? ⟨w.heap.size, 3, none⟩ = _ := r0.c3
  have s4 : W1.drew.cell? ⟨w.heap.size, 4, none⟩ = _ := r0.c4
  have s5 : W1.drew.cell? ⟨w.heap.size, 5, none⟩ = _ := r0.c5
  have kk : W1.drew.cell? ⟨w.heap.size + 1, 0, none⟩ = some (.int .u64 (k : Int)) := rk.cell
  have nn : W1.drew.cell? ⟨w.heap.size + 1 + 1 + 1, 0, none⟩ = some (.int .u64 (r : Int)) := rr.cell
  have a0 : W1.drew.cell? ⟨w.heap.size + 1 + 1, 0, none⟩ = _ := ra.c0
  have a1 : W1.drew.cell? ⟨w.heap.size + 1 + 1, 1, none⟩ = _ := ra.c1
  have a2 : W1.drew.cell? ⟨w.heap.size + 1 + 1, 2, none⟩ = _ := ra.c2
  have m0 : W1.drew.cell? ⟨BM, 0, none⟩ = _ := rm.c0
  have m1 : W1.drew.cell? ⟨BM, 1, none⟩ = _ := rm.c1
  have m2 : W1.drew.cell? ⟨BM, 2, none⟩ = _ := rm.c2
  refine pool_list [.val (.agg #[.string (ctxB md), .int .u64 (px b), .int .u64 (py b), .bool (pb b), .slice (some ⟨g1, 0, none⟩) n k1, .slice (some ⟨g2, 0, none⟩) n k2]),
      .val (.agg #[.int .u64 (px m), .int .u64 (py m), .bool (pb m)]),
      .val (.agg #[.int .u64 (px m), .int .u64 (py m), .bool (pb m)]),
      .val (.pointer (some ⟨w.heap.size + 1, 0, none⟩)),
      .val (.int .u64 (k : Int)),
      .val (.agg #[.int .u64 (px z), .int .u64 (py z), .bool (pb z)]),
      .val (.agg #[.int .u64 (px a), .int .u64 (py a), .bool (pb a)]),
      .val (.pointer (some ⟨w.heap.size + 1 + 1 + 1, 0, none⟩)),
      .val (.int .u64 (r : Int)),
      .val (.agg #[.int .u64 (px x), .int .u64 (py x), .bool (pb x)]),
      .val (.agg #[.int .u64 (px m), .int .u64 (py m), .bool (pb m)]),
      .val (.pointer (some ⟨w.heap.size + 1 + 1 + 1, 0, none⟩)),
      .val (.int .u64 (r : Int)),
      .val (.agg #[.int .u64 (px y), .int .u64 (py y), .bool (pb y)]),
      .val (.agg #[.int .u64 (c : Int)]),
      .new (.cells #[.int .u64 0] 77) (.cells #[.int .u64 (c : Int)] 77) 16,
      .put 15] [[4], [9], [9], [5], [19], [18, 20], [6], [7], [23], [22, 24], [9], [7], [27], [26, 28], [16, 17, 21, 25, 29], [], [10, 30]] (fun f => [(some 16, .agg #[.string (ctxB md), .int .u64 (px b), .int .u64 (py b), .bool (pb b), .slice (some ⟨g1, 0, none⟩) n k1, .slice (some ⟨g2, 0, none⟩) n k2]), (some 17, .agg #[.int .u64 (px m), .int .u64 (py m), .bool (pb m)]), (some 18, .agg #[.int .u64 (px m), .int .u64 (py m), .bool (pb m)]), (some 19, .pointer (some ⟨w.heap.size + 1, 0, none⟩)), (some 20, .int .u64 (k : Int)), (some 21, .agg #[.int .u64 (px z), .int .u64 (py z), .bool (pb z)]), (some 22, .agg #[.int .u64 (px a), .int .u64 (py a), .bool (pb a)]), (some 23, .pointer (some ⟨w.heap.size + 1 + 1 + 1, 0, none⟩)), (some 24, .int .u64 (r : Int)), (some 25, .agg #[.int .u64 (px x), .int .u64 (py x), .bool (pb x)]), (some 26, .agg #[.int .u64 (px m), .int .u64 (py m), .bool (pb m)]), (some 27, .pointer (some ⟨w.heap.size + 1 + 1 + 1, 0, none⟩)), (some 28, .int .u64 (r : Int)), (some 29, .agg #[.int .u64 (px y), .int .u64 (py y), .bool (pb y)]), (some 30, .agg #[.int .u64 (c : Int)]), (some 10, .pointer (some ⟨f 15, 0, none⟩)), (none, undef)]) (by kernel_rfl) (by kernel_rfl) (by kernel_rfl) (by kernel_rfl) (fun _ => by kernel_rfl) ?_ ?_
  · intro ix hix
    match ix, hix with
    | 0, _ => exact ob_val [(4, .pointer (some ⟨w.heap.size, 0, none⟩))] rfl rfl (fun _ => by kernel_rfl) (fun A w ⟨e0, _⟩ hB => ld_bat e0 (keepC s0 hB) (keepC s1 hB) (keepC s2 hB) (keepC s3 hB) (keepC s4 hB) (keepC s5 hB))
    | 1, _ => exact ob_val [(9, .pointer (some ⟨BM, 0, none⟩))] rfl rfl (fun _ => by kernel_rfl) (fun A w ⟨e0, _⟩ hB => ld_cp e0 (keepC m0 hB) (keepC m1 hB) (keepC m2 hB))
    | 2, _ => exact ob_val [(9, .pointer (some ⟨BM, 0, none⟩))] rfl rfl (fun _ => by kernel_rfl) (fun A w ⟨e0, _⟩ hB => ld_cp e0 (keepC m0 hB) (keepC m1 hB) (keepC m2 hB))
    | 3, _ => exact ob_val [(5, .pointer (some ⟨w.heap.size + 1, 0, none⟩))] rfl rfl (fun _ => by kernel_rfl) (fun A w ⟨e0, _⟩ hB => fa_nN1 e0)
    | 4, _ => exact ob_val [(19, .pointer (some ⟨w.heap.size + 1, 0, none⟩))] rfl rfl (fun _ => by kernel_rfl) (fun A w ⟨e0, _⟩ hB => ld_u64 e0 (keepC kk hB))
    | 5, _ => exact ob_val [(18, .agg #[.int .u64 (px m), .int .u64 (py m), .bool (pb m)]), (20, .int .u64 (k : Int))] rfl rfl (fun _ => by kernel_rfl) (fun A w ⟨e0, e1, _⟩ hB => cl2 cf_impl_curvePoint_times e0 e1 (T1 w))
    | 6, _ => exact ob_val [(6, .pointer (some ⟨w.heap.size + 1 + 1, 0, none⟩))] rfl rfl (fun _ => by kernel_rfl) (fun A w ⟨e0, _⟩ hB => ld_cp e0 (keepC a0 hB) (keepC a1 hB) (keepC a2 hB))
    | 7, _ => exact ob_val [(7, .pointer (some ⟨w.heap.size + 1 + 1 + 1, 0, none⟩))] rfl rfl (fun _ => by kernel_rfl) (fun A w ⟨e0, _⟩ hB => fa_nN1 e0)
    | 8, _ => exact ob_val [(23, .pointer (some ⟨w.heap.size + 1 + 1 + 1, 0, none⟩))] rfl rfl (fun _ => by kernel_rfl) (fun A w ⟨e0, _⟩ hB => ld_u64 e0 (keepC nn hB))
    | 9, _ => exact ob_val [(22, .agg #[.int .u64 (px a), .int .u64 (py a), .bool (pb a)]), (24, .int .u64 (r : Int))] rfl rfl (fun _ => by kernel_rfl) (fun A w ⟨e0, e1, _⟩ hB => cl2 cf_impl_curvePoint_times e0 e1 (T2 w))
    | 10, _ => exact ob_val [(9, .pointer (some ⟨BM, 0, none⟩))] rfl rfl (fun _ => by kernel_rfl) (fun A w ⟨e0, _⟩ hB => ld_cp e0 (keepC m0 hB) (keepC m1 hB) (keepC m2 hB))
    | 11, _ => exact ob_val [(7, .pointer (some ⟨w.heap.size + 1 + 1 + 1, 0, none⟩))] rfl rfl (fun _ => by kernel_rfl) (fun A w ⟨e0, _⟩ hB => fa_nN1 e0)
    | 12, _ => exact ob_val [(27, .pointer (some ⟨w.heap.size + 1 + 1 + 1, 0, none⟩))] rfl rfl (fun _ => by kernel_rfl) (fun A w ⟨e0, _⟩ hB => ld_u64 e0 (keepC nn hB))
    | 13, _ => exact ob_val [(26, .agg #[.int .u64 (px m), .int .u64 (py m), .bool (pb m)]), (28, .int .u64 (r : Int))] rfl rfl (fun _ => by kernel_rfl) (fun A w ⟨e0, e1, _⟩ hB => cl2 cf_impl_curvePoint_times e0 e1 (T3' w))
    | 14, _ => exact ob_val [(16, .agg #[.string (ctxB md), .int .u64 (px b), .int .u64 (py b), .bool (pb b), .slice (some ⟨g1, 0, none⟩) n k1, .slice (some ⟨g2, 0, none⟩) n k2]), (17, .agg #[.int .u64 (px m), .int .u64 (py m), .bool (pb m)]), (21, .agg #[.int .u64 (px z), .int .u64 (py z), .bool (pb z)]), (25, .agg #[.int .u64 (px x), .int .u64 (py x), .bool (pb x)]), (29, .agg #[.int .u64 (px y), .int .u64 (py y), .bool (pb y)])] rfl rfl (fun _ => by kernel_rfl) (fun A w ⟨e0, e1, e2, e3, e4, _⟩ hB => cl5 cf_impl_batch_challenge e0 e1 e2 e3 e4 (CH w (keepT hT1 hg1 hB)))
    | 15, _ => exact ob_new rfl rfl (fun A w => al_nN)
    | 16, _ => exact ob_put 10 (fun f => [(10, .pointer (some ⟨f 15, 0, none⟩)), (30, .agg #[.int .u64 (c : Int)])]) rfl rfl rfl (by decide) (by kernel_rfl) rfl (fun _ => by kernel_rfl) (fun f A w ⟨e0, e1, _⟩ hr => pu_nN e0 e1 hr)
    | ix + 17, h => exact absurd h (by simp)
  intro f W2 hb2 hnew _
  have hb2' : Below W1.heap.size W1 W2 := (Below.refl _ W1).drew.trans hb2
  have rc : RN W2 (f 15) (c : Int) := (hnew 15 _ _ _ rfl (by decide)).2
  generalize f 15 = BC at *
  replace rk := rk.keep hb2'
  replace rr := rr.keep hb2'
  replace rp := rp.keep hb2'
  replace hb := hb.trans (hb2'.mono hb.size)
  clear s0 s1 s2 s3 s4 s5 kk nn a0 a1 a2 m0 m1 m2 hb2 hb2' hnew T1 T2 T3' CH hT1 hg1 r0 ra rm
  simp only [puts, List.foldl, Act.put, List.setIfInBounds_toArray, List.set_cons_zero, List.set_cons_succ]
  go_wp2
  have kk : W2.drew.cell? ⟨w.heap.size + 1, 0, none⟩ = some (.int .u64 (k : Int)) := rk.cell
  have nn : W2.drew.cell? ⟨w.heap.size + 1 + 1 + 1, 0, none⟩ = some (.int .u64 (r : Int)) := rr.cell
  have c0 : W2.drew.cell? ⟨BC, 0, none⟩ = some (.int .u64 (c : Int)) := rc.cell
  refine pool_prT 9 [.val (.pointer (some ⟨BC, 0, none⟩)),
      .val (.int .u64 (c : Int)),
      .val (.agg #[.int .u64 (r : Int)]),
      .val (.agg #[.int .u64 (c : Int)]),
      .val (.agg #[.int .u64 (k : Int)]),
      .val (.agg #[.int .u64 (ck : Int)]),
      .val (.agg #[.int .u64 (s : Int)]),
      .val (.int .u64 (s : Int)),
      .val (.agg #[.int .u64 (c : Int), .int .u64 (s : Int)])] [[10], [31], [7], [10], [5], [34, 35], [33, 36], [37], [32, 38]] (fun f => [(some 31, .pointer (some ⟨BC, 0, none⟩)), (some 32, .int .u64 (c : Int)), (some 33, .agg #[.int .u64 (r : Int)]), (some 34, .agg #[.int .u64 (c : Int)]), (some 35, .agg #[.int .u64 (k : Int)]), (some 36, .agg #[.int .u64 (ck : Int)]), (some 37, .agg #[.int .u64 (s : Int)]), (some 38, .int .u64 (s : Int)), (some 39, .agg #[.int .u64 (c : Int), .int .u64 (s : Int)])]) (by kernel_rfl) (by kernel_rfl) (by kernel_rfl) (by kernel_rfl) (by decide) (by kernel_rfl) (fun _ => by kernel_rfl) ?_ ?_
  · intro ix hix
    match ix, hix with
    | 0, _ => exact ob_val [(10, .pointer (some ⟨BC, 0, none⟩))] rfl rfl (fun _ => by kernel_rfl) (fun A w ⟨e0, _⟩ hB => fa_nN1 e0)
    | 1, _ => exact ob_val [(31, .pointer (some ⟨BC, 0, none⟩))] rfl rfl (fun _ => by kernel_rfl) (fun A w ⟨e0, _⟩ hB => ld_u64 e0 (keepC c0 hB))
    | 2, _ => exact ob_val [(7, .pointer (some ⟨w.heap.size + 1 + 1 + 1, 0, none⟩))] rfl rfl (fun _ => by kernel_rfl) (fun A w ⟨e0, _⟩ hB => ld_nN e0 (keepC nn hB))
    | 3, _ => exact ob_val [(10, .pointer (some ⟨BC, 0, none⟩))] rfl rfl (fun _ => by kernel_rfl) (fun A w ⟨e0, _⟩ hB => ld_nN e0 (keepC c0 hB))
    | 4, _ => exact ob_val [(5, .pointer (some ⟨w.heap.size + 1, 0, none⟩))] rfl rfl (fun _ => by kernel_rfl) (fun A w ⟨e0, _⟩ hB => ld_nN e0 (keepC kk hB))
    | 5, _ => exact ob_val [(34, .agg #[.int .u64 (c : Int)]), (35, .agg #[.int .u64 (k : Int)])] rfl rfl (fun _ => by kernel_rfl) (fun A w ⟨e0, e1, _⟩ hB => cl2 cf_impl_number_impl_primeN_times e0 e1 (MU w))
    | 6, _ => exact ob_val [(33, .agg #[.int .u64 (r : Int)]), (36, .agg #[.int .u64 (ck : Int)])] rfl rfl (fun _ => by kernel_rfl) (fun A w ⟨e0, e1, _⟩ hB => cl2 cf_impl_number_impl_primeN_minus e0 e1 (MN w))
    | 7, _ => exact ob_val [(37, .agg #[.int .u64 (s : Int)])] rfl rfl (fun _ => by kernel_rfl) (fun A w ⟨e0, _⟩ hB => fl_nN1 e0)
    | 8, _ => exact ob_val [(32, .int .u64 (c : Int)), (38, .int .u64 (s : Int))] rfl rfl (fun _ => by kernel_rfl) (fun A w ⟨e0, e1, _⟩ hB => bu_prf e0 e1)
    | ix + 9, h => exact absurd h (by simp)
  intro f W3 hb3 _ fuel hfuel
  have hb3' : Below W2.heap.size W2 W3 := (Below.refl _ W2).drew.trans hb3
  replace rp := rp.keep hb3'
  replace hb := hb.trans (hb3'.mono hb.size)
  clear kk nn c0 hb3 hb3' MU MN rk rr rc
  simp only [puts, List.foldl, Act.put, List.setIfInBounds_toArray, List.set_cons_zero, List.set_cons_succ]
  refine last_do1 9 hfuel (by kernel_rfl) (by kernel_rfl) rfl rfl ?_
  refine fun Q K hK => st_prf (z0 := (c : Int)) (z1 := (s : Int)) rfl rfl rp Q K (fun v w' e => hK v w' ?_)
  subst e
  go_wp2
  exact bodyPost_ret (v := .agg #[.int .u64 (c : Int), .int .u64 (s : Int)]) (prf_res (fn := Tryz.f38) (p := 8) Tryz.results38 _ rfl (rp.set c s)) rfl ⟨rfl, P2_below hb (by omega) _ _⟩
end Go.Proofs.YtagnikeaellbiaaGreatDoor

/-
  The program's proofs: accepts.
-/
namespace Go.Proofs.YtagnikeaellbiaaGreatDoor
open Go.RowKit M
set_option linter.unusedVariables false

set_option maxRecDepth 100000 in
set_option maxHeartbeats 8000000 in
theorem accI_any (md n g1 k1 g2 k2 c s : Nat) (a b : Pt) (cs ds : List Pt) (w : World) (hT : TabK w) (hmd : md < 3) (h1 : 1 ≤ n) (hn : n ≤ 200) (hlc : cs.length = n) (hld : ds.length = n) (ha : on a) (hob : on b) (hoc : ∀ p ∈ cs, on p) (hod : ∀ p ∈ ds, on p) (hc : Cps w g1 cs) (hd : Cps w g2 ds)
    (hcl : c < 2305843010818082053) (hsl : s < 2305843010818082053) (m z : Pt) (hm : m = mixTo (wgts md b cs ds n) cs n) (hz : z = mixTo (wgts md b cs ds n) ds n) (h : Nat) (hh : h = chal md b m z (ad (nt s a) (nt c b)) (ad (nt s m) (nt c z))) :
    Calls Tryz.prog 40 #[.agg #[.string (ctxB md), .int .u64 (px b), .int .u64 (py b), .bool (pb b), .slice (some ⟨g1, 0, none⟩) n k1, .slice (some ⟨g2, 0, none⟩) n k2], .agg #[.int .u64 (px a), .int .u64 (py a), .bool (pb a)], .agg #[.int .u64 c], .agg #[.int .u64 s]] w fun e w' => e = .returned (.bool ((h : Int) == (c : Int))) ∧ Below w.heap.size w w' := by
  have hgw : 3 < w.heap.size := World.block_lt_of_cell? w _ (hT 0 (by omega))
  have hom : on m := by rw [hm]; exact mixTo_on hoc n
  have hoz : on z := by rw [hz]; exact mixTo_on hod n
  have CM := fun w' hb => cmpI_any md n g1 k1 g2 k2 b cs ds w' (keepT hT hgw hb) hmd h1 hn hlc hld hoc hod (hc.below (B := w.heap.size) hb hc.lt) (hd.below (B := w.heap.size) hb hd.lt)
  rw [← hm, ← hz, ptW_eq, ptW_eq] at CM
  have T1 := fun w => ctmV ha s (by omega) w
  have T2 := fun w => ctmV hob c (by omega) w
  have T3' := fun w => ctmV hom s (by omega) w
  have T4 := fun w => ctmV hoz c (by omega) w
  have A1 := fun w => cplV (nt_on ha s) (nt_on hob c) w
  have A2 := fun w => cplV (nt_on hom s) (nt_on hoz c) w
  rw [ptW_eq, ptW_eq] at T1 T2 T3' T4
  rw [ptW_eq, ptW_eq, ptW_eq] at A1 A2
  have CH := fun w hT => chlI_of md b m z (ad (nt s a) (nt c b)) (ad (nt s m) (nt c z)) (some ⟨g1, 0, none⟩) n k1 (some ⟨g2, 0, none⟩) n k2 w hT hmd
  rw [← hh] at CH
  generalize ad (nt s a) (nt c b) = x at *
  generalize ad (nt s m) (nt c z) = y at *
  generalize nt s a = sa at *
  generalize nt c b = cb at *
  generalize nt s m = sm at *
  generalize nt c z = cz at *
  clear hm hz hh hoc hod hom hoz ha hob
  obtain ⟨X, hX⟩ : ∃ X, X = (((w.alloc (Obj.cells #[.string (ctxB md), .int .u64 (px b), .int .u64 (py b), .bool (pb b), .slice (some ⟨g1, 0, none⟩) n k1, .slice (some ⟨g2, 0, none⟩) n k2] 65)).alloc (Obj.cells #[.int .u64 (px a), .int .u64 (py a), .bool (pb a)] 62)).alloc (Obj.cells #[.int .u64 (c : Int)] 77)).alloc (Obj.cells #[.int .u64 (s : Int)] 77) := ⟨_, rfl⟩
  have r0 : B6 X w.heap.size (ctxB md) (px b) (py b) (pb b) (some ⟨g1, 0, none⟩) n k1 (some ⟨g2, 0, none⟩) n k2 := by rw [hX]; exact (((B6.new _ _ _ _ _ _ _ _ _ _ _).alloc _).alloc _).alloc _
  have ra : K3 X 62 (w.heap.size + 1) (px a) (py a) (pb a) := by rw [hX]; exact (((K3.new _ _ _ _ _).at (by simp)).alloc _).alloc _
  have rc : RN X (w.heap.size + 1 + 1) (c : Int) := by rw [hX]; exact ((RN.new _ _).at' (by simp)).alloc' _
  have rs : RN X (w.heap.size + 1 + 1 + 1) (s : Int) := by rw [hX]; exact (RN.new _ _).at' (by simp)
  have hb : Below w.heap.size w X := by
    rw [hX]
    exact ((((Below.refl _ w).alloc (Nat.le_refl _) _).alloc (by simp) _).alloc (by simp; omega) _).alloc (by simp; omega) _
  rw [hX] at r0 ra rc rs hb
  clear hX
  go_enter Tryz.func40, Tryz.ntmps40
  go_wp2_with fail
  refine (CM _ hb).mono ?_
  rintro e w1 ⟨rfl, b1⟩
  obtain ⟨W1, hW1⟩ : ∃ W1, W1 = (w1.alloc (Obj.cells #[.int .u64 (px m), .int .u64 (py m), .bool (pb m)] 62)).alloc (Obj.cells #[.int .u64 (px z), .int .u64 (py z), .bool (pb z)] 62) := ⟨_, rfl⟩
  have hB1 : Below w1.heap.size w1 W1 := by rw [hW1]; exact ((Below.refl _ w1).alloc (Nat.le_refl _) _).alloc (by simp) _
  replace r0 := (r0.keep b1).keep hB1
  replace ra := (ra.keep b1).keep hB1
  replace rc := (rc.keep b1).keep hB1
  replace rs := (rs.keep b1).keep hB1
  replace hb := hb.trans (b1.mono hb.size)
  replace hb := hb.trans (hB1.mono hb.size)
  have rm : K3 W1 62 w1.heap.size (px m) (py m) (pb m) := by rw [hW1]; exact (K3.new _ _ _ _ _).alloc _
  have rz : K3 W1 62 (w1.heap.size + 1) (px z) (py z) (pb z) := by rw [hW1]; exact (K3.new _ _ _ _ _).at (by simp)
  clear CM b1 hB1
  go_wp2
  rw [← hW1]
  clear hW1
  generalize w1.heap.size = H1 at *
  have s1 : W1.drew.cell? ⟨w.heap.size, 1, none⟩ = _ := r0.c1
  have s2 : W1.drew.cell? ⟨w.heap.size, 2, none⟩ = _ := r0.c2
  have s3 : W1.drew.cell? ⟨w.heap.size, 3, none⟩ = _ := r0.c3
  have a0 : W1.drew.cell? ⟨w.heap.size + 1, 0, none⟩ = _ := ra.c0
  have a1 : W1.drew.cell? ⟨w.heap.size + 1, 1, none⟩ = _ := ra.c1
  have a2 : W1.drew.cell? ⟨w.heap.size + 1, 2, none⟩ = _ := ra.c2
  have cc : W1.drew.cell? ⟨w.heap.size + 1 + 1, 0, none⟩ = some (.int .u64 (c : Int)) := rc.cell
  have ss : W1.drew.cell? ⟨w.heap.size + 1 + 1 + 1, 0, none⟩ = some (.int .u64 (s : Int)) := rs.cell
  refine pool_list [.val (.agg #[.int .u64 (px a), .int .u64 (py a), .bool (pb a)]),
      .val (.pointer (some ⟨w.heap.size + 1 + 1 + 1, 0, none⟩)),
      .val (.int .u64 (s : Int)),
      .val (.agg #[.int .u64 (px sa), .int .u64 (py sa), .bool (pb sa)]),
      .val (.pointer (some ⟨w.heap.size, 1, none⟩)),
      .val (.agg #[.int .u64 (px b), .int .u64 (py b), .bool (pb b)]),
      .val (.pointer (some ⟨w.heap.size + 1 + 1, 0, none⟩)),
      .val (.int .u64 (c : Int)),
      .val (.agg #[.int .u64 (px cb), .int .u64 (py cb), .bool (pb cb)]),
      .val (.agg #[.int .u64 (px x), .int .u64 (py x), .bool (pb x)]),
      .new (.cells #[.int .u64 0, .int .u64 0, .bool false] 62) (.cells #[.int .u64 (px x), .int .u64 (py x), .bool (pb x)] 62) 11,
      .put 10] [[5], [7], [19], [18, 20], [4], [22], [6], [24], [23, 25], [21, 26], [], [11, 27]] (fun f => [(some 18, .agg #[.int .u64 (px a), .int .u64 (py a), .bool (pb a)]), (some 19, .pointer (some ⟨w.heap.size + 1 + 1 + 1, 0, none⟩)), (some 20, .int .u64 (s : Int)), (some 21, .agg #[.int .u64 (px sa), .int .u64 (py sa), .bool (pb sa)]), (some 22, .pointer (some ⟨w.heap.size, 1, none⟩)), (some 23, .agg #[.int .u64 (px b), .int .u64 (py b), .bool (pb b)]), (some 24, .pointer (some ⟨w.heap.size + 1 + 1, 0, none⟩)), (some 25, .int .u64 (c : Int)), (some 26, .agg #[.int .u64 (px cb), .int .u64 (py cb), .bool (pb cb)]), (some 27, .agg #[.int .u64 (px x), .int .u64 (py x), .bool (pb x)]), (some 11, .pointer (some ⟨f 10, 0, none⟩)), (none, undef)]) (by kernel_rfl) (by kernel_rfl) (by kernel_rfl) (by kernel_rfl) (fun _ => by kernel_rfl) ?_ ?_
  · intro ix hix
    match ix, hix with
    | 0, _ => exact ob_val [(5, .pointer (some ⟨w.heap.size + 1, 0, none⟩))] rfl rfl (fun _ => by kernel_rfl) (fun A w ⟨e0, _⟩ hB => ld_cp e0 (keepC a0 hB) (keepC a1 hB) (keepC a2 hB))
    | 1, _ => exact ob_val [(7, .pointer (some ⟨w.heap.size + 1 + 1 + 1, 0, none⟩))] rfl rfl (fun _ => by kernel_rfl) (fun A w ⟨e0, _⟩ hB => fa_nN1 e0)
    | 2, _ => exact ob_val [(19, .pointer (some ⟨w.heap.size + 1 + 1 + 1, 0, none⟩))] rfl rfl (fun _ => by kernel_rfl) (fun A w ⟨e0, _⟩ hB => ld_u64 e0 (keepC ss hB))
    | 3, _ => exact ob_val [(18, .agg #[.int .u64 (px a), .int .u64 (py a), .bool (pb a)]), (20, .int .u64 (s : Int))] rfl rfl (fun _ => by kernel_rfl) (fun A w ⟨e0, e1, _⟩ hB => cl2 cf_impl_curvePoint_times e0 e1 (T1 w))
    | 4, _ => exact ob_val [(4, .pointer (some ⟨w.heap.size, 0, none⟩))] rfl rfl (fun _ => by kernel_rfl) (fun A w ⟨e0, _⟩ hB => fa_bat1 e0)
    | 5, _ => exact ob_val [(22, .pointer (some ⟨w.heap.size, 1, none⟩))] rfl rfl (fun _ => by kernel_rfl) (fun A w ⟨e0, _⟩ hB => ld_cp e0 (keepC s1 hB) (keepC s2 hB) (keepC s3 hB))
    | 6, _ => exact ob_val [(6, .pointer (some ⟨w.heap.size + 1 + 1, 0, none⟩))] rfl rfl (fun _ => by kernel_rfl) (fun A w ⟨e0, _⟩ hB => fa_nN1 e0)
    | 7, _ => exact ob_val [(24, .pointer (some ⟨w.heap.size + 1 + 1, 0, none⟩))] rfl rfl (fun _ => by kernel_rfl) (fun A w ⟨e0, _⟩ hB => ld_u64 e0 (keepC cc hB))
    | 8, _ => exact ob_val [(23, .agg #[.int .u64 (px b), .int .u64 (py b), .bool (pb b)]), (25, .int .u64 (c : Int))] rfl rfl (fun _ => by kernel_rfl) (fun A w ⟨e0, e1, _⟩ hB => cl2 cf_impl_curvePoint_times e0 e1 (T2 w))
    | 9, _ => exact ob_val [(21, .agg #[.int .u64 (px sa), .int .u64 (py sa), .bool (pb sa)]), (26, .agg #[.int .u64 (px cb), .int .u64 (py cb), .bool (pb cb)])] rfl rfl (fun _ => by kernel_rfl) (fun A w ⟨e0, e1, _⟩ hB => cl2 cf_impl_curvePoint_plus e0 e1 (A1 w))
    | 10, _ => exact ob_new rfl rfl (fun A w => al_cp)
    | 11, _ => exact ob_put 11 (fun f => [(11, .pointer (some ⟨f 10, 0, none⟩)), (27, .agg #[.int .u64 (px x), .int .u64 (py x), .bool (pb x)])]) rfl rfl rfl (by decide) (by kernel_rfl) rfl (fun _ => by kernel_rfl) (fun f A w ⟨e0, e1, _⟩ hr => pu_cp e0 e1 hr)
    | ix + 12, h => exact absurd h (by simp)
  intro f W2 hb2 hnew _
  have hb2' : Below W1.heap.size W1 W2 := (Below.refl _ W1).drew.trans hb2
  have rx : K3 W2 62 (f 10) (px x) (py x) (pb x) := (hnew 10 _ _ _ rfl (by decide)).2
  generalize f 10 = BX at *
  replace r0 := r0.keep hb2'
  replace rm := rm.keep hb2'
  replace rz := rz.keep hb2'
  replace rc := rc.keep hb2'
  replace rs := rs.keep hb2'
  replace hb := hb.trans (hb2'.mono hb.size)
  clear s1 s2 s3 a0 a1 a2 cc ss hb2 hb2' hnew T1 T2 A1 ra
  simp only [puts, List.foldl, Act.put, List.setIfInBounds_toArray, List.set_cons_zero, List.set_cons_succ]
  go_wp2
  have m0 : W2.drew.cell? ⟨H1, 0, none⟩ = _ := rm.c0
  have m1 : W2.drew.cell? ⟨H1, 1, none⟩ = _ := rm.c1
  have m2 : W2.drew.cell? ⟨H1, 2, none⟩ = _ := rm.c2
  have z0 : W2.drew.cell? ⟨H1 + 1, 0, none⟩ = _ := rz.c0
  have z1 : W2.drew.cell? ⟨H1 + 1, 1, none⟩ = _ := rz.c1
  have z2 : W2.drew.cell? ⟨H1 + 1, 2, none⟩ = _ := rz.c2
  have cc : W2.drew.cell? ⟨w.heap.size + 1 + 1, 0, none⟩ = some (.int .u64 (c : Int)) := rc.cell
  have ss : W2.drew.cell? ⟨w.heap.size + 1 + 1 + 1, 0, none⟩ = some (.int .u64 (s : Int)) := rs.cell
  refine pool_list [.val (.agg #[.int .u64 (px m), .int .u64 (py m), .bool (pb m)]),
      .val (.pointer (some ⟨w.heap.size + 1 + 1 + 1, 0, none⟩)),
      .val (.int .u64 (s : Int)),
      .val (.agg #[.int .u64 (px sm), .int .u64 (py sm), .bool (pb sm)]),
      .val (.agg #[.int .u64 (px z), .int .u64 (py z), .bool (pb z)]),
      .val (.pointer (some ⟨w.heap.size + 1 + 1, 0, none⟩)),
      .val (.int .u64 (c : Int)),
      .val (.agg #[.int .u64 (px cz), .int .u64 (py cz), .bool (pb cz)]),
      .val (.agg #[.int .u64 (px y), .int .u64 (py y), .bool (pb y)]),
      .new (.cells #[.int .u64 0, .int .u64 0, .bool false] 62) (.cells #[.int .u64 (px y), .int .u64 (py y), .bool (pb y)] 62) 10,
      .put 9] [[9], [7], [29], [28, 30], [10], [6], [33], [32, 34], [31, 35], [], [12, 36]] (fun f => [(some 28, .agg #[.int .u64 (px m), .int .u64 (py m), .bool (pb m)]), (some 29, .pointer (some ⟨w.heap.size + 1 + 1 + 1, 0, none⟩)), (some 30, .int .u64 (s : Int)), (some 31, .agg #[.int .u64 (px sm), .int .u64 (py sm), .bool (pb sm)]), (some 32, .agg #[.int .u64 (px z), .int .u64 (py z), .bool (pb z)]), (some 33, .pointer (some ⟨w.heap.size + 1 + 1, 0, none⟩)), (some 34, .int .u64 (c : Int)), (some 35, .agg #[.int .u64 (px cz), .int .u64 (py cz), .bool (pb cz)]), (some 36, .agg #[.int .u64 (px y), .int .u64 (py y), .bool (pb y)]), (some 12, .pointer (some ⟨f 9, 0, none⟩)), (none, undef)]) (by kernel_rfl) (by kernel_rfl) (by kernel_rfl) (by kernel_rfl) (fun _ => by kernel_rfl) ?_ ?_
  · intro ix hix
    match ix, hix with
    | 0, _ => exact ob_val [(9, .pointer (some ⟨H1, 0, none⟩))] rfl rfl (fun _ => by kernel_rfl) (fun A w ⟨e0, _⟩ hB => ld_cp e0 (keepC m0 hB) (keepC m1 hB) (keepC m2 hB))
    | 1, _ => exact ob_val [(7, .pointer (some ⟨w.heap.size + 1 + 1 + 1, 0, none⟩))] rfl rfl (fun _ => by kernel_rfl) (fun A w ⟨e0, _⟩ hB => fa_nN1 e0)
    | 2, _ => exact ob_val [(29, .pointer (some ⟨w.heap.size + 1 + 1 + 1, 0, none⟩))] rfl rfl (fun _ => by kernel_rfl) (fun A w ⟨e0, _⟩ hB => ld_u64 e0 (keepC ss hB))
    | 3, _ => exact ob_val [(28, .agg #[.int .u64 (px m), .int .u64 (py m), .bool (pb m)]), (30, .int .u64 (s : Int))] rfl rfl (fun _ => by kernel_rfl) (fun A w ⟨e0, e1, _⟩ hB => cl2 cf_impl_curvePoint_times e0 e1 (T3' w))
    | 4, _ => exact ob_val [(10, .pointer (some ⟨H1 + 1, 0, none⟩))] rfl rfl (fun _ => by kernel_rfl) (fun A w ⟨e0, _⟩ hB => ld_cp e0 (keepC z0 hB) (keepC z1 hB) (keepC z2 hB))
    | 5, _ => exact ob_val [(6, .pointer (some ⟨w.heap.size + 1 + 1, 0, none⟩))] rfl rfl (fun _ => by kernel_rfl) (fun A w ⟨e0, _⟩ hB => fa_nN1 e0)
    | 6, _ => exact ob_val [(33, .pointer (some ⟨w.heap.size + 1 + 1, 0, none⟩))] rfl rfl (fun _ => by kernel_rfl) (fun A w ⟨e0, _⟩ hB => ld_u64 e0 (keepC cc hB))
    | 7, _ => exact ob_val [(32, .agg #[.int .u64 (px z), .int .u64 (py z), .bool (pb z)]), (34, .int .u64 (c : Int))] rfl rfl (fun _ => by kernel_rfl) (fun A w ⟨e0, e1, _⟩ hB => cl2 cf_impl_curvePoint_times e0 e1 (T4 w))
    | 8, _ => exact ob_val [(31, .agg #[.int .u64 (px sm), .int .u64 (py sm), .bool (pb sm)]), (35, .agg #[.int .u64 (px cz), .int .u64 (py cz), .bool (pb cz)])] rfl rfl (fun _ => by kernel_rfl) (fun A w ⟨e0, e1, _⟩ hB => cl2 cf_impl_curvePoint_plus e0 e1 (A2 w))
    | 9, _ => exact ob_new rfl rfl (fun A w => al_cp)
    | 10, _ => exact ob_put 12 (fun f => [(12, .pointer (some ⟨f 9, 0, none⟩)), (36, .agg #[.int .u64 (px y), .int .u64 (py y), .bool (pb y)])]) rfl rfl rfl (by decide) (by kernel_rfl) rfl (fun _ => by kernel_rfl) (fun f A w ⟨e0, e1, _⟩ hr => pu_cp e0 e1 hr)
    | ix + 11, h => exact absurd h (by simp)
  intro f W3 hb3 hnew _
  have hb3' : Below W2.heap.size W2 W3 := (Below.refl _ W2).drew.trans hb3
  have ry : K3 W3 62 (f 9) (px y) (py y) (pb y) := (hnew 9 _ _ _ rfl (by decide)).2
  generalize f 9 = BY at *
  replace r0 := r0.keep hb3'
  replace rm := rm.keep hb3'
  replace rz := rz.keep hb3'
  replace rx := rx.keep hb3'
  replace rc := rc.keep hb3'
  replace hb := hb.trans (hb3'.mono hb.size)
  clear m0 m1 m2 z0 z1 z2 cc ss hb3 hb3' hnew T3' T4 A2 rs
  simp only [puts, List.foldl, Act.put, List.setIfInBounds_toArray, List.set_cons_zero, List.set_cons_succ]
  go_wp2
  have hT3 : TabK W3.drew := fun i hi => (hb.cell (p := ⟨3, i, none⟩) hgw).trans (hT i hi)
  have hg3 : 3 < W3.drew.heap.size := Nat.lt_of_lt_of_le hgw hb.size
  have s0 : W3.drew.cell? ⟨w.heap.size, 0, none⟩ = _ := r0.c0
  have s1 : W3.drew.cell? ⟨w.heap.size, 1, none⟩ = _ := r0.c1
  have s2 : W3.drew.cell? ⟨w.heap.size, 2, none⟩ = _ := r0.c2
  have s3 : W3.drew.cell? ⟨w.heap.size, 3, none⟩ = _ := r0.c3
  have s4 : W3.drew.cell? ⟨w.heap.size, 4, none⟩ = _ := r0.c4
  have s5 : W3.drew.cell? ⟨w.heap.size, 5, none⟩ = _ := r0.c5
  have m0 : W3.drew.cell? ⟨H1, 0, none⟩ = _ := rm.c0
  have m1 : W3.drew.cell? ⟨H1, 1, none⟩ = _ := rm.c1
  have m2 : W3.drew.cell? ⟨H1, 2, none⟩ = _ := rm.c2
  have z0 : W3.drew.cell? ⟨H1 + 1, 0, none⟩ = _ := rz.c0
  have z1 : W3.drew.cell? ⟨H1 + 1, 1, none⟩ = _ := rz.c1
  have z2 : W3.drew.cell? ⟨H1 + 1, 2, none⟩ = _ := rz.c2
  have x0 : W3.drew.cell? ⟨BX, 0, none⟩ = _ := rx.c0
  have x1 : W3.drew.cell? ⟨BX, 1, none⟩ = _ := rx.c1
  have x2 : W3.drew.cell? ⟨BX, 2, none⟩ = _ := rx.c2
  have y0 : W3.drew.cell? ⟨BY, 0, none⟩ = _ := ry.c0
  have y1 : W3.drew.cell? ⟨BY, 1, none⟩ = _ := ry.c1
  have y2 : W3.drew.cell? ⟨BY, 2, none⟩ = _ := ry.c2
  have cc : W3.drew.cell? ⟨w.heap.size + 1 + 1, 0, none⟩ = some (.int .u64 (c : Int)) := rc.cell
  refine pool_list [.val (.agg #[.string (ctxB md), .int .u64 (px b), .int .u64 (py b), .bool (pb b), .slice (some ⟨g1, 0, none⟩) n k1, .slice (some ⟨g2, 0, none⟩) n k2]),
      .val (.agg #[.int .u64 (px m), .int .u64 (py m), .bool (pb m)]),
      .val (.agg #[.int .u64 (px z), .int .u64 (py z), .bool (pb z)]),
      .val (.agg #[.int .u64 (px x), .int .u64 (py x), .bool (pb x)]),
      .val (.agg #[.int .u64 (px y), .int .u64 (py y), .bool (pb y)]),
      .val (.agg #[.int .u64 (h : Int)]),
      .val (.agg #[.int .u64 (c : Int)]),
      .val (.bool ((h : Int) == (c : Int))),
      .val (.bool ((h : Int) == (c : Int)))] [[4], [9], [10], [11], [12], [37, 38, 39, 40, 41], [6], [42, 43], [44]] (fun f => [(some 37, .agg #[.string (ctxB md), .int .u64 (px b), .int .u64 (py b), .bool (pb b), .slice (some ⟨g1, 0, none⟩) n k1, .slice (some ⟨g2, 0, none⟩) n k2]), (some 38, .agg #[.int .u64 (px m), .int .u64 (py m), .bool (pb m)]), (some 39, .agg #[.int .u64 (px z), .int .u64 (py z), .bool (pb z)]), (some 40, .agg #[.int .u64 (px x), .int .u64 (py x), .bool (pb x)]), (some 41, .agg #[.int .u64 (px y), .int .u64 (py y), .bool (pb y)]), (some 42, .agg #[.int .u64 (h : Int)]), (some 43, .agg #[.int .u64 (c : Int)]), (some 44, .bool ((h : Int) == (c : Int))), (some 8, .bool ((h : Int) == (c : Int)))]) (by kernel_rfl) (by kernel_rfl) (by kernel_rfl) (by kernel_rfl) (fun _ => by kernel_rfl) ?_ ?_
  · intro ix hix
    match ix, hix with
    | 0, _ => exact ob_val [(4, .pointer (some ⟨w.heap.size, 0, none⟩))] rfl rfl (fun _ => by kernel_rfl) (fun A w ⟨e0, _⟩ hB => ld_bat e0 (keepC s0 hB) (keepC s1 hB) (keepC s2 hB) (keepC s3 hB) (keepC s4 hB) (keepC s5 hB))
    | 1, _ => exact ob_val [(9, .pointer (some ⟨H1, 0, none⟩))] rfl rfl (fun _ => by kernel_rfl) (fun A w ⟨e0, _⟩ hB => ld_cp e0 (keepC m0 hB) (keepC m1 hB) (keepC m2 hB))
    | 2, _ => exact ob_val [(10, .pointer (some ⟨H1 + 1, 0, none⟩))] rfl rfl (fun _ => by kernel_rfl) (fun A w ⟨e0, _⟩ hB => ld_cp e0 (keepC z0 hB) (keepC z1 hB) (keepC z2 hB))
    | 3, _ => exact ob_val [(11, .pointer (some ⟨BX, 0, none⟩))] rfl rfl (fun _ => by kernel_rfl) (fun A w ⟨e0, _⟩ hB => ld_cp e0 (keepC x0 hB) (keepC x1 hB) (keepC x2 hB))
    | 4, _ => exact ob_val [(12, .pointer (some ⟨BY, 0, none⟩))] rfl rfl (fun _ => by kernel_rfl) (fun A w ⟨e0, _⟩ hB => ld_cp e0 (keepC y0 hB) (keepC y1 hB) (keepC y2 hB))
    | 5, _ => exact ob_val [(37, .agg #[.string (ctxB md), .int .u64 (px b), .int .u64 (py b), .bool (pb b), .slice (some ⟨g1, 0, none⟩) n k1, .slice (some ⟨g2, 0, none⟩) n k2]), (38, .agg #[.int .u64 (px m), .int .u64 (py m), .bool (pb m)]), (39, .agg #[.int .u64 (px z), .int .u64 (py z), .bool (pb z)]), (40, .agg #[.int .u64 (px x), .int .u64 (py x), .bool (pb x)]), (41, .agg #[.int .u64 (px y), .int .u64 (py y), .bool (pb y)])] rfl rfl (fun _ => by kernel_rfl) (fun A w ⟨e0, e1, e2, e3, e4, _⟩ hB => cl5 cf_impl_batch_challenge e0 e1 e2 e3 e4 (CH w (keepT hT3 hg3 hB)))
    | 6, _ => exact ob_val [(6, .pointer (some ⟨w.heap.size + 1 + 1, 0, none⟩))] rfl rfl (fun _ => by kernel_rfl) (fun A w ⟨e0, _⟩ hB => ld_nN e0 (keepC cc hB))
    | 7, _ => exact ob_val [(42, .agg #[.int .u64 (h : Int)]), (43, .agg #[.int .u64 (c : Int)])] rfl rfl (fun _ => by kernel_rfl) (fun A w ⟨e0, e1, _⟩ hB => eq_nN e0 e1)
    | 8, _ => exact ob_val [(44, .bool ((h : Int) == (c : Int)))] rfl rfl (fun _ => by kernel_rfl) (fun A w ⟨e0, _⟩ hB => doV_assign e0)
    | ix + 9, h => exact absurd h (by simp)
  intro f W4 hb4 _ _
  have hb5 := hb.drew.trans (hb4.mono hb.size)
  simp only [puts, List.foldl, Act.put, List.setIfInBounds_toArray, List.set_cons_zero, List.set_cons_succ]
  go_wp2
  go_ret
  exact ⟨rfl, hb5⟩
end Go.Proofs.YtagnikeaellbiaaGreatDoor

namespace Go.Proofs.YtagnikeaellbiaaGreatDoor
open Go.RowKit M
set_option linter.unusedVariables false

section
variable (ax ay bx by' pc ps : Int) (ac bc : Bool) (gc oc nc cc gd od nd cd : Nat) (w : World)
set_option maxRecDepth 100000 in
set_option maxHeartbeats 1000000 in
theorem chkS_no (mode : Int) (ob : Bool) (h : ob = false ∨ 2305843010818082053 ≤ pc ∨ 2305843010818082053 ≤ ps)
    (B : ∀ w', Below w.heap.size w w' → Calls Tryz.prog 28 #[.int .i64 mode, .agg #[.int .u64 ax, .int .u64 ay, .bool ac], .agg #[.int .u64 bx, .int .u64 by', .bool bc], .slice (some ⟨gc, oc, none⟩) nc cc, .slice (some ⟨gd, od, none⟩) nd cd] w' fun e w'' => e = .returned (.bool ob) ∧ Below w'.heap.size w' w'') :
    Calls Tryz.prog 17 #[.int .i64 mode, .agg #[.int .u64 ax, .int .u64 ay, .bool ac], .agg #[.int .u64 bx, .int .u64 by', .bool bc], .slice (some ⟨gc, oc, none⟩) nc cc, .slice (some ⟨gd, od, none⟩) nd cd, .agg #[.int .u64 pc, .int .u64 ps]] w fun e w' => e = .returned (.bool false) ∧ Below w.heap.size w w' := by
  obtain ⟨X, hX⟩ : ∃ X, X = ((w.alloc (Obj.cells #[.int .u64 ax, .int .u64 ay, .bool ac] 27)).alloc (Obj.cells #[.int .u64 bx, .int .u64 by', .bool bc] 27)).alloc (Obj.cells #[.int .u64 pc, .int .u64 ps] 37) := ⟨_, rfl⟩
  have r2 : P2 X 37 (w.heap.size + 1 + 1) pc ps := by rw [hX]; exact (P2.new _ _ pc ps).at (by simp)
  have hb : Below w.heap.size w X := by rw [hX]; exact ((((Below.refl _ w).alloc (Nat.le_refl _) _).alloc (by simp) _).alloc (by simp; omega) _)
  rw [hX] at r2 hb
  clear hX
  go_enter Tryz.func17, Tryz.ntmps17
  go_wp2_with fail
  refine (B _ hb).mono ?_
  rintro e w1 ⟨rfl, b1⟩
  replace r2 := r2.keep b1
  replace hb := hb.trans (b1.mono hb.size)
  clear B b1
  have d0 := r2.c0
  have d1 := r2.c1
  cases ob with
  | false =>
    clear h
    go_wp2
    go_ret
    exact ⟨rfl, hb⟩
  | true =>
    by_cases hk : 2305843010818082053 ≤ pc
    · clear h
      go_wp2
      go_ret
      exact ⟨rfl, hb⟩
    · have hr : 2305843010818082053 ≤ ps := by
        rcases h with h | h | h
        · cases h
        · exact absurd h hk
        · exact h
      clear h
      go_wp2
      go_ret
      exact ⟨rfl, hb⟩
set_option maxRecDepth 100000 in
set_option maxHeartbeats 4000000 in
theorem chkS_of (md : Nat) (mx my zx zy sax say cbx cby xx xy smx smy czx czy yx yy c : Int) (mc zc sac cbc xc smc czc yc : Bool) (hk : pc < 2305843010818082053) (hr : ps < 2305843010818082053)
    (B : ∀ w', Below w.heap.size w w' → Calls Tryz.prog 28 #[.int .i64 md, .agg #[.int .u64 ax, .int .u64 ay, .bool ac], .agg #[.int .u64 bx, .int .u64 by', .bool bc], .slice (some ⟨gc, oc, none⟩) nc cc, .slice (some ⟨gd, od, none⟩) nd cd] w' fun e w'' => e = .returned (.bool true) ∧ Below w'.heap.size w' w'')
    (CO : ∀ w', Below w.heap.size w w' → Calls Tryz.prog 8 #[.int .i64 md, .agg #[.int .u64 bx, .int .u64 by', .bool bc], .slice (some ⟨gc, oc, none⟩) nc cc, .slice (some ⟨gd, od, none⟩) nd cd] w' fun e w'' => e = .returned (.tuple #[.agg #[.int .u64 mx, .int .u64 my, .bool mc], .agg #[.int .u64 zx, .int .u64 zy, .bool zc], .bool true]) ∧ Below w'.heap.size w' w'')
    (T1 : ∀ w, Calls Tryz.prog 22 #[.int .u64 ps, .agg #[.int .u64 ax, .int .u64 ay, .bool ac]] w fun e w' => e = .returned (.agg #[.int .u64 sax, .int .u64 say, .bool sac]) ∧ Below w.heap.size w w')
    (T2 : ∀ w, Calls Tryz.prog 22 #[.int .u64 pc, .agg #[.int .u64 bx, .int .u64 by', .bool bc]] w fun e w' => e = .returned (.agg #[.int .u64 cbx, .int .u64 cby, .bool cbc]) ∧ Below w.heap.size w w')
    (S1 : ∀ w, Calls Tryz.prog 39 #[.agg #[.int .u64 sax, .int .u64 say, .bool sac], .agg #[.int .u64 cbx, .int .u64 cby, .bool cbc]] w fun e w' => e = .returned (.agg #[.int .u64 xx, .int .u64 xy, .bool xc]) ∧ Below w.heap.size w w')
    (T3 : ∀ w, Calls Tryz.prog 22 #[.int .u64 ps, .agg #[.int .u64 mx, .int .u64 my, .bool mc]] w fun e w' => e = .returned (.agg #[.int .u64 smx, .int .u64 smy, .bool smc]) ∧ Below w.heap.size w w')
    (T4 : ∀ w, Calls Tryz.prog 22 #[.int .u64 pc, .agg #[.int .u64 zx, .int .u64 zy, .bool zc]] w fun e w' => e = .returned (.agg #[.int .u64 czx, .int .u64 czy, .bool czc]) ∧ Below w.heap.size w w')
    (S2 : ∀ w, Calls Tryz.prog 39 #[.agg #[.int .u64 smx, .int .u64 smy, .bool smc], .agg #[.int .u64 czx, .int .u64 czy, .bool czc]] w fun e w' => e = .returned (.agg #[.int .u64 yx, .int .u64 yy, .bool yc]) ∧ Below w.heap.size w w')
    (C : ∀ w, Calls Tryz.prog 33 #[.int .i64 md, .agg #[.int .u64 bx, .int .u64 by', .bool bc], .agg #[.int .u64 mx, .int .u64 my, .bool mc], .agg #[.int .u64 zx, .int .u64 zy, .bool zc], .agg #[.int .u64 xx, .int .u64 xy, .bool xc], .agg #[.int .u64 yx, .int .u64 yy, .bool yc]] w fun e w' => e = .returned (.int .u64 c) ∧ Below w.heap.size w w') :
    Calls Tryz.prog 17 #[.int .i64 md, .agg #[.int .u64 ax, .int .u64 ay, .bool ac], .agg #[.int .u64 bx, .int .u64 by', .bool bc], .slice (some ⟨gc, oc, none⟩) nc cc, .slice (some ⟨gd, od, none⟩) nd cd, .agg #[.int .u64 pc, .int .u64 ps]] w fun e w' => e = .returned (.bool (pc == c)) ∧ Below w.heap.size w w' := by
  obtain ⟨X, hX⟩ : ∃ X, X = ((w.alloc (Obj.cells #[.int .u64 ax, .int .u64 ay, .bool ac] 27)).alloc (Obj.cells #[.int .u64 bx, .int .u64 by', .bool bc] 27)).alloc (Obj.cells #[.int .u64 pc, .int .u64 ps] 37) := ⟨_, rfl⟩
  have ra : R3 X w.heap.size ax ay ac := by rw [hX]; exact ((R3.new _ ax ay ac).alloc _).alloc _
  have rb : R3 X (w.heap.size + 1) bx by' bc := by rw [hX]; exact ((R3.new _ bx by' bc).at (by simp)).alloc _
  have rp : P2 X 37 (w.heap.size + 1 + 1) pc ps := by rw [hX]; exact (P2.new _ _ pc ps).at (by simp)
  have hb : Below w.heap.size w X := by rw [hX]; exact ((((Below.refl _ w).alloc (Nat.le_refl _) _).alloc (by simp) _).alloc (by simp; omega) _)
  rw [hX] at ra rb rp hb
  clear hX
  go_enter Tryz.func17, Tryz.ntmps17
  go_wp2_with fail
  refine (B _ hb).mono ?_
  rintro e w1 ⟨rfl, b1⟩
  replace ra := ra.keep' b1
  replace rb := rb.keep' b1
  replace rp := rp.keep b1
  replace hb := hb.trans (b1.mono hb.size)
  clear B b1
  have a0 := rb.c0
  have a1 := rb.c1
  have a2 := rb.c2
  have d0 := rp.c0
  have d1 := rp.c1
  go_wp2_with fail
  refine (CO _ hb).mono ?_
  rintro e w2 ⟨rfl, b2⟩
  replace ra := ra.keep' b2
  replace rb := rb.keep' b2
  replace rp := rp.keep b2
  replace hb := hb.trans (b2.mono hb.size)
  clear CO b2 a0 a1 a2 d0 d1
  obtain ⟨W3, hW3⟩ : ∃ W3, W3 = (w2.alloc (Obj.cells #[.int .u64 mx, .int .u64 my, .bool mc] 27)).alloc (Obj.cells #[.int .u64 zx, .int .u64 zy, .bool zc] 27) := ⟨_, rfl⟩
  have hB3 : Below w2.heap.size w2 W3 := by rw [hW3]; exact ((Below.refl _ w2).alloc (Nat.le_refl _) _).alloc (by simp) _
  replace ra := ra.keep' hB3
  replace rb := rb.keep' hB3
  replace rp := rp.keep hB3
  replace hb := hb.trans (hB3.mono hb.size)
  have rm : R3 W3 w2.heap.size mx my mc := by rw [hW3]; exact (R3.new _ mx my mc).alloc _
  have rz : R3 W3 (w2.heap.size + 1) zx zy zc := by rw [hW3]; exact (R3.new _ zx zy zc).at (by simp)
  clear hB3
  go_wp2
  rw [← hW3]
  clear hW3
  generalize w2.heap.size = H2 at *
  have a0 : W3.drew.cell? ⟨w.heap.size, 0, none⟩ = _ := ra.c0
  have a1 : W3.drew.cell? ⟨w.heap.size, 1, none⟩ = _ := ra.c1
  have a2 : W3.drew.cell? ⟨w.heap.size, 2, none⟩ = _ := ra.c2
  have b0 : W3.drew.cell? ⟨w.heap.size + 1, 0, none⟩ = _ := rb.c0
  have b1 : W3.drew.cell? ⟨w.heap.size + 1, 1, none⟩ = _ := rb.c1
  have b2 : W3.drew.cell? ⟨w.heap.size + 1, 2, none⟩ = _ := rb.c2
  have d0 : W3.drew.cell? ⟨w.heap.size + 1 + 1, 0, none⟩ = _ := rp.c0
  have d1 : W3.drew.cell? ⟨w.heap.size + 1 + 1, 1, none⟩ = _ := rp.c1
  refine pool_list [.val (.pointer (some ⟨w.heap.size + 1 + 1, 1, none⟩)),
      .val (.int .u64 ps),
      .val (.agg #[.int .u64 ax, .int .u64 ay, .bool ac]),
      .val (.agg #[.int .u64 sax, .int .u64 say, .bool sac]),
      .val (.pointer (some ⟨w.heap.size + 1 + 1, 0, none⟩)),
      .val (.int .u64 pc),
      .val (.agg #[.int .u64 bx, .int .u64 by', .bool bc]),
      .val (.agg #[.int .u64 cbx, .int .u64 cby, .bool cbc]),
      .val (.agg #[.int .u64 xx, .int .u64 xy, .bool xc]),
      .new (.cells #[.int .u64 0, .int .u64 0, .bool false] 27) (.cells #[.int .u64 xx, .int .u64 xy, .bool xc] 27) 10,
      .put 9] [[11], [44], [7], [45, 46], [11], [48], [8], [49, 50], [47, 51], [], [16, 52]] (fun f => [(some 44, .pointer (some ⟨w.heap.size + 1 + 1, 1, none⟩)), (some 45, .int .u64 ps), (some 46, .agg #[.int .u64 ax, .int .u64 ay, .bool ac]), (some 47, .agg #[.int .u64 sax, .int .u64 say, .bool sac]), (some 48, .pointer (some ⟨w.heap.size + 1 + 1, 0, none⟩)), (some 49, .int .u64 pc), (some 50, .agg #[.int .u64 bx, .int .u64 by', .bool bc]), (some 51, .agg #[.int .u64 cbx, .int .u64 cby, .bool cbc]), (some 52, .agg #[.int .u64 xx, .int .u64 xy, .bool xc]), (some 16, .pointer (some ⟨f 9, 0, none⟩)), (none, undef)]) (by kernel_rfl) (by kernel_rfl) (by kernel_rfl) (by kernel_rfl) (fun _ => by kernel_rfl) ?_ ?_
  · intro ix hix
    match ix, hix with
    | 0, _ => exact ob_val [(11, .pointer (some ⟨w.heap.size + 1 + 1, 0, none⟩))] rfl rfl (fun _ => by kernel_rfl) (fun A w ⟨e0, _⟩ hB => fa_prf1 e0)
    | 1, _ => exact ob_val [(44, .pointer (some ⟨w.heap.size + 1 + 1, 1, none⟩))] rfl rfl (fun _ => by kernel_rfl) (fun A w ⟨e0, _⟩ hB => ld_u64 e0 (keepC d1 hB))
    | 2, _ => exact ob_val [(7, .pointer (some ⟨w.heap.size, 0, none⟩))] rfl rfl (fun _ => by kernel_rfl) (fun A w ⟨e0, _⟩ hB => ld_pt e0 (keepC a0 hB) (keepC a1 hB) (keepC a2 hB))
    | 3, _ => exact ob_val [(45, .int .u64 ps), (46, .agg #[.int .u64 ax, .int .u64 ay, .bool ac])] rfl rfl (fun _ => by kernel_rfl) (fun A w ⟨e0, e1, _⟩ hB => cl2 cf_spec_Times e0 e1 (T1 w))
    | 4, _ => exact ob_val [(11, .pointer (some ⟨w.heap.size + 1 + 1, 0, none⟩))] rfl rfl (fun _ => by kernel_rfl) (fun A w ⟨e0, _⟩ hB => fa_prf0 e0)
    | 5, _ => exact ob_val [(48, .pointer (some ⟨w.heap.size + 1 + 1, 0, none⟩))] rfl rfl (fun _ => by kernel_rfl) (fun A w ⟨e0, _⟩ hB => ld_u64 e0 (keepC d0 hB))
    | 6, _ => exact ob_val [(8, .pointer (some ⟨w.heap.size + 1, 0, none⟩))] rfl rfl (fun _ => by kernel_rfl) (fun A w ⟨e0, _⟩ hB => ld_pt e0 (keepC b0 hB) (keepC b1 hB) (keepC b2 hB))
    | 7, _ => exact ob_val [(49, .int .u64 pc), (50, .agg #[.int .u64 bx, .int .u64 by', .bool bc])] rfl rfl (fun _ => by kernel_rfl) (fun A w ⟨e0, e1, _⟩ hB => cl2 cf_spec_Times e0 e1 (T2 w))
    | 8, _ => exact ob_val [(47, .agg #[.int .u64 sax, .int .u64 say, .bool sac]), (51, .agg #[.int .u64 cbx, .int .u64 cby, .bool cbc])] rfl rfl (fun _ => by kernel_rfl) (fun A w ⟨e0, e1, _⟩ hB => cl2 cf_spec_l3Sum e0 e1 (S1 w))
    | 9, _ => exact ob_new rfl rfl (fun A w => al_pt)
    | 10, _ => exact ob_put 16 (fun f => [(16, .pointer (some ⟨f 9, 0, none⟩)), (52, .agg #[.int .u64 xx, .int .u64 xy, .bool xc])]) rfl rfl rfl (by decide) (by kernel_rfl) rfl (fun _ => by kernel_rfl) (fun f A w ⟨e0, e1, _⟩ hr => pu_pt e0 e1 hr)
    | ix + 11, h => exact absurd h (by simp)
  intro f W4 hb4 hnew _
  have hb4' : Below W3.heap.size W3 W4 := (Below.refl _ W3).drew.trans hb4
  have rx : R3 W4 (f 9) xx xy xc := (hnew 9 _ _ _ rfl (by decide)).2
  replace ra := ra.keep' hb4'
  replace rb := rb.keep' hb4'
  replace rp := rp.keep hb4'
  replace rm := rm.keep' hb4'
  replace rz := rz.keep' hb4'
  replace hb := hb.trans (hb4'.mono hb.size)
  generalize f 9 = X9 at *
  clear a0 a1 a2 b0 b1 b2 d0 d1 T1 T2 S1 hb4 hb4' hnew
  simp only [puts, List.foldl, Act.put, List.setIfInBounds_toArray, List.set_cons_zero, List.set_cons_succ]
  go_wp2
  have c0 : W4.drew.cell? ⟨H2, 0, none⟩ = _ := rm.c0
  have c1 : W4.drew.cell? ⟨H2, 1, none⟩ = _ := rm.c1
  have c2 : W4.drew.cell? ⟨H2, 2, none⟩ = _ := rm.c2
  have b0 : W4.drew.cell? ⟨H2 + 1, 0, none⟩ = _ := rz.c0
  have b1 : W4.drew.cell? ⟨H2 + 1, 1, none⟩ = _ := rz.c1
  have b2 : W4.drew.cell? ⟨H2 + 1, 2, none⟩ = _ := rz.c2
  have d0 : W4.drew.cell? ⟨w.heap.size + 1 + 1, 0, none⟩ = _ := rp.c0
  have d1 : W4.drew.cell? ⟨w.heap.size + 1 + 1, 1, none⟩ = _ := rp.c1
  refine pool_list [.val (.pointer (some ⟨w.heap.size + 1 + 1, 1, none⟩)),
      .val (.int .u64 ps),
      .val (.agg #[.int .u64 mx, .int .u64 my, .bool mc]),
      .val (.agg #[.int .u64 smx, .int .u64 smy, .bool smc]),
      .val (.pointer (some ⟨w.heap.size + 1 + 1, 0, none⟩)),
      .val (.int .u64 pc),
      .val (.agg #[.int .u64 zx, .int .u64 zy, .bool zc]),
      .val (.agg #[.int .u64 czx, .int .u64 czy, .bool czc]),
      .val (.agg #[.int .u64 yx, .int .u64 yy, .bool yc]),
      .new (.cells #[.int .u64 0, .int .u64 0, .bool false] 27) (.cells #[.int .u64 yx, .int .u64 yy, .bool yc] 27) 10,
      .put 9] [[11], [53], [13], [54, 55], [11], [57], [14], [58, 59], [56, 60], [], [17, 61]] (fun f => [(some 53, .pointer (some ⟨w.heap.size + 1 + 1, 1, none⟩)), (some 54, .int .u64 ps), (some 55, .agg #[.int .u64 mx, .int .u64 my, .bool mc]), (some 56, .agg #[.int .u64 smx, .int .u64 smy, .bool smc]), (some 57, .pointer (some ⟨w.heap.size + 1 + 1, 0, none⟩)), (some 58, .int .u64 pc), (some 59, .agg #[.int .u64 zx, .int .u64 zy, .bool zc]), (some 60, .agg #[.int .u64 czx, .int .u64 czy, .bool czc]), (some 61, .agg #[.int .u64 yx, .int .u64 yy, .bool yc]), (some 17, .pointer (some ⟨f 9, 0, none⟩)), (none, undef)]) (by kernel_rfl) (by kernel_rfl) (by kernel_rfl) (by kernel_rfl) (fun _ => by kernel_rfl) ?_ ?_
  · intro ix hix
    match ix, hix with
    | 0, _ => exact ob_val [(11, .pointer (some ⟨w.heap.size + 1 + 1, 0, none⟩))] rfl rfl (fun _ => by kernel_rfl) (fun A w ⟨e0, _⟩ hB => fa_prf1 e0)
    | 1, _ => exact ob_val [(53, .pointer (some ⟨w.heap.size + 1 + 1, 1, none⟩))] rfl rfl (fun _ => by kernel_rfl) (fun A w ⟨e0, _⟩ hB => ld_u64 e0 (keepC d1 hB))
    | 2, _ => exact ob_val [(13, .pointer (some ⟨H2, 0, none⟩))] rfl rfl (fun _ => by kernel_rfl) (fun A w ⟨e0, _⟩ hB => ld_pt e0 (keepC c0 hB) (keepC c1 hB) (keepC c2 hB))
    | 3, _ => exact ob_val [(54, .int .u64 ps), (55, .agg #[.int .u64 mx, .int .u64 my, .bool mc])] rfl rfl (fun _ => by kernel_rfl) (fun A w ⟨e0, e1, _⟩ hB => cl2 cf_spec_Times e0 e1 (T3 w))
    | 4, _ => exact ob_val [(11, .pointer (some ⟨w.heap.size + 1 + 1, 0, none⟩))] rfl rfl (fun _ => by kernel_rfl) (fun A w ⟨e0, _⟩ hB => fa_prf0 e0)
    | 5, _ => exact ob_val [(57, .pointer (some ⟨w.heap.size + 1 + 1, 0, none⟩))] rfl rfl (fun _ => by kernel_rfl) (fun A w ⟨e0, _⟩ hB => ld_u64 e0 (keepC d0 hB))
    | 6, _ => exact ob_val [(14, .pointer (some ⟨H2 + 1, 0, none⟩))] rfl rfl (fun _ => by kernel_rfl) (fun A w ⟨e0, _⟩ hB => ld_pt e0 (keepC b0 hB) (keepC b1 hB) (keepC b2 hB))
    | 7, _ => exact ob_val [(58, .int .u64 pc), (59, .agg #[.int .u64 zx, .int .u64 zy, .bool zc])] rfl rfl (fun _ => by kernel_rfl) (fun A w ⟨e0, e1, _⟩ hB => cl2 cf_spec_Times e0 e1 (T4 w))
    | 8, _ => exact ob_val [(56, .agg #[.int .u64 smx, .int .u64 smy, .bool smc]), (60, .agg #[.int .u64 czx, .int .u64 czy, .bool czc])] rfl rfl (fun _ => by kernel_rfl) (fun A w ⟨e0, e1, _⟩ hB => cl2 cf_spec_l3Sum e0 e1 (S2 w))
    | 9, _ => exact ob_new rfl rfl (fun A w => al_pt)
    | 10, _ => exact ob_put 17 (fun f => [(17, .pointer (some ⟨f 9, 0, none⟩)), (61, .agg #[.int .u64 yx, .int .u64 yy, .bool yc])]) rfl rfl rfl (by decide) (by kernel_rfl) rfl (fun _ => by kernel_rfl) (fun f A w ⟨e0, e1, _⟩ hr => pu_pt e0 e1 hr)
    | ix + 11, h => exact absurd h (by simp)
  intro f W5 hb5 hnew _
  have hb5' : Below W4.heap.size W4 W5 := (Below.refl _ W4).drew.trans hb5
  have ry : R3 W5 (f 9) yx yy yc := (hnew 9 _ _ _ rfl (by decide)).2
  replace ra := ra.keep' hb5'
  replace rb := rb.keep' hb5'
  replace rp := rp.keep hb5'
  replace rm := rm.keep' hb5'
  replace rz := rz.keep' hb5'
  replace rx := rx.keep' hb5'
  replace hb := hb.trans (hb5'.mono hb.size)
  generalize f 9 = Y9 at *
  clear c0 c1 c2 b0 b1 b2 d0 d1 T3 T4 S2 hb5 hb5' hnew
  simp only [puts, List.foldl, Act.put, List.setIfInBounds_toArray, List.set_cons_zero, List.set_cons_succ]
  go_wp2
  have b0 : W5.drew.cell? ⟨w.heap.size + 1, 0, none⟩ = _ := rb.c0
  have b1 : W5.drew.cell? ⟨w.heap.size + 1, 1, none⟩ = _ := rb.c1
  have b2 : W5.drew.cell? ⟨w.heap.size + 1, 2, none⟩ = _ := rb.c2
  have c0 : W5.drew.cell? ⟨H2, 0, none⟩ = _ := rm.c0
  have c1 : W5.drew.cell? ⟨H2, 1, none⟩ = _ := rm.c1
  have c2 : W5.drew.cell? ⟨H2, 2, none⟩ = _ := rm.c2
  have z0 : W5.drew.cell? ⟨H2 + 1, 0, none⟩ = _ := rz.c0
  have z1 : W5.drew.cell? ⟨H2 + 1, 1, none⟩ = _ := rz.c1
  have z2 : W5.drew.cell? ⟨H2 + 1, 2, none⟩ = _ := rz.c2
  have x0 : W5.drew.cell? ⟨X9, 0, none⟩ = _ := rx.c0
  have x1 : W5.drew.cell? ⟨X9, 1, none⟩ = _ := rx.c1
  have x2 : W5.drew.cell? ⟨X9, 2, none⟩ = _ := rx.c2
  have y0 : W5.drew.cell? ⟨Y9, 0, none⟩ = _ := ry.c0
  have y1 : W5.drew.cell? ⟨Y9, 1, none⟩ = _ := ry.c1
  have y2 : W5.drew.cell? ⟨Y9, 2, none⟩ = _ := ry.c2
  have d0 : W5.drew.cell? ⟨w.heap.size + 1 + 1, 0, none⟩ = _ := rp.c0
  refine pool_list [.val (.pointer (some ⟨w.heap.size + 1 + 1, 0, none⟩)),
      .val (.int .u64 pc),
      .val (.int .i64 (md : Int)),
      .val (.agg #[.int .u64 bx, .int .u64 by', .bool bc]),
      .val (.agg #[.int .u64 mx, .int .u64 my, .bool mc]),
      .val (.agg #[.int .u64 zx, .int .u64 zy, .bool zc]),
      .val (.agg #[.int .u64 xx, .int .u64 xy, .bool xc]),
      .val (.agg #[.int .u64 yx, .int .u64 yy, .bool yc]),
      .val (.int .u64 c),
      .val (.bool (pc == c)),
      .val (.bool (pc == c))] [[11], [62], [0], [8], [13], [14], [16], [17], [64, 65, 66, 67, 68, 69], [63, 70], [71]] (fun f => [(some 62, .pointer (some ⟨w.heap.size + 1 + 1, 0, none⟩)), (some 63, .int .u64 pc), (some 64, .int .i64 (md : Int)), (some 65, .agg #[.int .u64 bx, .int .u64 by', .bool bc]), (some 66, .agg #[.int .u64 mx, .int .u64 my, .bool mc]), (some 67, .agg #[.int .u64 zx, .int .u64 zy, .bool zc]), (some 68, .agg #[.int .u64 xx, .int .u64 xy, .bool xc]), (some 69, .agg #[.int .u64 yx, .int .u64 yy, .bool yc]), (some 70, .int .u64 c), (some 71, .bool (pc == c)), (some 12, .bool (pc == c))]) (by kernel_rfl) (by kernel_rfl) (by kernel_rfl) (by kernel_rfl) (fun _ => by kernel_rfl) ?_ ?_
  · intro ix hix
    match ix, hix with
    | 0, _ => exact ob_val [(11, .pointer (some ⟨w.heap.size + 1 + 1, 0, none⟩))] rfl rfl (fun _ => by kernel_rfl) (fun A w ⟨e0, _⟩ hB => fa_prf0 e0)
    | 1, _ => exact ob_val [(62, .pointer (some ⟨w.heap.size + 1 + 1, 0, none⟩))] rfl rfl (fun _ => by kernel_rfl) (fun A w ⟨e0, _⟩ hB => ld_u64 e0 (keepC d0 hB))
    | 2, _ => exact ob_val [(0, .int .i64 (md : Int))] rfl rfl (fun _ => by kernel_rfl) (fun A w ⟨e0, _⟩ hB => doV_move e0)
    | 3, _ => exact ob_val [(8, .pointer (some ⟨w.heap.size + 1, 0, none⟩))] rfl rfl (fun _ => by kernel_rfl) (fun A w ⟨e0, _⟩ hB => ld_pt e0 (keepC b0 hB) (keepC b1 hB) (keepC b2 hB))
    | 4, _ => exact ob_val [(13, .pointer (some ⟨H2, 0, none⟩))] rfl rfl (fun _ => by kernel_rfl) (fun A w ⟨e0, _⟩ hB => ld_pt e0 (keepC c0 hB) (keepC c1 hB) (keepC c2 hB))
    | 5, _ => exact ob_val [(14, .pointer (some ⟨H2 + 1, 0, none⟩))] rfl rfl (fun _ => by kernel_rfl) (fun A w ⟨e0, _⟩ hB => ld_pt e0 (keepC z0 hB) (keepC z1 hB) (keepC z2 hB))
    | 6, _ => exact ob_val [(16, .pointer (some ⟨X9, 0, none⟩))] rfl rfl (fun _ => by kernel_rfl) (fun A w ⟨e0, _⟩ hB => ld_pt e0 (keepC x0 hB) (keepC x1 hB) (keepC x2 hB))
    | 7, _ => exact ob_val [(17, .pointer (some ⟨Y9, 0, none⟩))] rfl rfl (fun _ => by kernel_rfl) (fun A w ⟨e0, _⟩ hB => ld_pt e0 (keepC y0 hB) (keepC y1 hB) (keepC y2 hB))
    | 8, _ => exact ob_val [(64, .int .i64 (md : Int)), (65, .agg #[.int .u64 bx, .int .u64 by', .bool bc]), (66, .agg #[.int .u64 mx, .int .u64 my, .bool mc]), (67, .agg #[.int .u64 zx, .int .u64 zy, .bool zc]), (68, .agg #[.int .u64 xx, .int .u64 xy, .bool xc]), (69, .agg #[.int .u64 yx, .int .u64 yy, .bool yc])] rfl rfl (fun _ => by kernel_rfl) (fun A w ⟨e0, e1, e2, e3, e4, e5, _⟩ hB => cl6 cf_spec_l5Challenge e0 e1 e2 e3 e4 e5 (C w))
    | 9, _ => exact ob_val [(63, .int .u64 pc), (70, .int .u64 c)] rfl rfl (fun _ => by kernel_rfl) (fun A w ⟨e0, e1, _⟩ hB => eq_u64 e0 e1)
    | 10, _ => exact ob_val [(71, .bool (pc == c))] rfl rfl (fun _ => by kernel_rfl) (fun A w ⟨e0, _⟩ hB => doV_assign e0)
    | ix + 11, h => exact absurd h (by simp)
  intro f W6 hb6 _ _
  have hb6' := hb.drew.trans (hb6.mono hb.size)
  simp only [puts, List.foldl, Act.put, List.setIfInBounds_toArray, List.set_cons_zero, List.set_cons_succ]
  go_wp2
  go_ret
  exact ⟨rfl, hb6'⟩
end
/-- what a proof's check says -/
noncomputable def chkC (md c s : Nat) (a b : Tri) (cs ds : List Tri) : Nat := chal md (asT b) (comM md b cs ds cs) (comM md b cs ds ds) (ad (nt s (asT a)) (nt c (asT b))) (ad (nt s (comM md b cs ds cs)) (nt c (comM md b cs ds ds)))
noncomputable def chkB (mode : Int) (a b : Tri) (cs ds : List Tri) (c s : Nat) : Bool := batB mode a b cs ds && decide (c < 2305843010818082053) && decide (s < 2305843010818082053) && decide (c = chkC mode.toNat c s a b cs ds)
theorem batB_b {mode : Int} {a b : Tri} {cs ds : List Tri} (h : batB mode a b cs ds = true) : batB mode b b cs ds = true := by
  rw [batB_iff] at h ⊢
  obtain ⟨h1, -, h3, h4⟩ := h
  exact ⟨h1, h3, h3, h4⟩
/-- the model's check -/
theorem chkS_any (mode : Int) (a b : Tri) (cs ds : List Tri) (c s gc oc cc gd od cd : Nat) (w : World) (hc : Pts w gc oc cs) (hd : Pts w gd od ds) :
    Calls Tryz.prog 17 #[.int .i64 mode, triW a, triW b, .slice (some ⟨gc, oc, none⟩) cs.length cc, .slice (some ⟨gd, od, none⟩) ds.length cd, .agg #[.int .u64 c, .int .u64 s]] w fun e w' => e = .returned (.bool (chkB mode a b cs ds c s)) ∧ Below w.heap.size w w' := by
  by_cases h : batB mode a b cs ds = true ∧ c < 2305843010818082053 ∧ s < 2305843010818082053
  · obtain ⟨hB, hlc, hls⟩ := h
    have hbb := batB_b hB
    have h' := hB
    rw [batB_iff] at h'
    obtain ⟨h1, h2, h3, h4, h5, -, -⟩ := h'
    obtain ⟨md, rfl⟩ : ∃ k : Nat, mode = (k : Int) := ⟨mode.toNat, by omega⟩
    have e : chkB md a b cs ds c s = ((c : Int) == ((chkC md c s a b cs ds : Nat) : Int)) := by
      unfold chkB
      rw [hB, decide_eq_true hlc, decide_eq_true hls, Int.toNat_natCast]
      rw [Bool.eq_iff_iff]
      simp
      omega
    rw [e]
    have hBt : ∀ w', Below w.heap.size w w' → Calls Tryz.prog 28 #[.int .i64 md, triW a, triW b, .slice (some ⟨gc, oc, none⟩) cs.length cc, .slice (some ⟨gd, od, none⟩) ds.length cd] w' fun e w'' => e = .returned (.bool true) ∧ Below w'.heap.size w' w'' := fun w' hb => by
      have := batS_any md a b cs ds gc oc cc gd od cd w' (hc.below hb hc.lt) (hd.below hb hd.lt)
      rw [hB] at this
      exact this
    have hCo : ∀ w', Below w.heap.size w w' → Calls Tryz.prog 8 #[.int .i64 md, triW b, .slice (some ⟨gc, oc, none⟩) cs.length cc, .slice (some ⟨gd, od, none⟩) ds.length cd] w' fun e w'' => e = .returned (.tuple #[ptW (comM md b cs ds cs), ptW (comM md b cs ds ds), .bool true]) ∧ Below w'.heap.size w' w'' := fun w' hb =>
      comS_yes md b cs ds gc oc cc gd od cd w' (hc.below hb hc.lt) (hd.below hb hd.lt) hbb
    have hom := comM_on md b cs ds cs
    have hoz := comM_on md b cs ds ds
    have hoa := asT_on a
    have hob := asT_on b
    have hC := fun w => chlS_any md hob hom hoz (ad_on (nt_on hoa s) (nt_on hob c)) (ad_on (nt_on hom s) (nt_on hoz c)) w (by omega)
    rw [triW_of h2, triW_of h3, ptW_eq, ptW_eq] at hBt
    rw [triW_of h3, ptW_eq, ptW_eq, ptW_eq] at hCo
    rw [ptW_eq, ptW_eq, ptW_eq, ptW_eq, ptW_eq] at hC
    rw [triW_of h2, triW_of h3, ptW_eq, ptW_eq]
    exact chkS_of _ _ _ _ c s _ _ gc oc cs.length cc gd od ds.length cd w md _ _ _ _ _ _ _ _ _ _ _ _ _ _ _ _ _ _ _ _ _ _ _ _ _ (by omega) (by omega) hBt hCo
      (tiS_pt hoa s (by omega)) (tiS_pt hob c (by omega)) (sumS_xyz _ _) (tiS_pt hom s (by omega)) (tiS_pt hoz c (by omega)) (sumS_xyz _ _) hC
  · have e : chkB mode a b cs ds c s = false := by
      cases hh : chkB mode a b cs ds c s with
      | false => rfl
      | true =>
        unfold chkB at hh
        simp only [Bool.and_eq_true, decide_eq_true_eq] at hh
        exact absurd ⟨hh.1.1.1, hh.1.1.2, hh.1.2⟩ h
    rw [e]
    refine chkS_no _ _ _ _ c s _ _ gc oc cs.length cc gd od ds.length cd w mode (batB mode a b cs ds) ?_ (fun w' hb => batS_any mode a b cs ds gc oc cc gd od cd w' (hc.below hb hc.lt) (hd.below hb hd.lt))
    cases hh : batB mode a b cs ds with
    | false => exact .inl rfl
    | true =>
      right
      by_cases hk : c < 2305843010818082053
      · right
        have : ¬ s < 2305843010818082053 := fun h' => h ⟨hh, hk, h'⟩
        omega
      · left; omega
end Go.Proofs.YtagnikeaellbiaaGreatDoor
