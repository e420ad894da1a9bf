import Derived.Test.YtjmhmajfkdglnaaGreatDoorMrg40
import Derived.Test.YtjmhmajfkdglnaaGreatDoorMrg39
import Derived.Test.YtjmhmajfkdglnaaGreatDoorMrg34
import Derived.Test.YtjmhmajfkdglnaaGreatDoorMrg30
set_option linter.unusedVariables false
set_option maxRecDepth 100000
set_option maxHeartbeats 16000000
namespace Go.Proofs.YtjmhmajfkdglnaaGreatDoor
open Go.RowKit M
theorem accI_any (md n g1 k1 g2 k2 c s : Nat) (a b : Pt) (cs ds : List Pt) (w : World) (hT : TabK w) (hmd : md < 3) (h1 : 1 ≤ n) (hn : n ≤ 200) (hlc : cs.length = n) (hld : ds.length = n) (ha : on a) (hob : on b) (hoc : ∀ p ∈ cs, on p) (hod : ∀ p ∈ ds, on p) (hc : Cps w g1 cs) (hd : Cps w g2 ds)
    (hcl : c < 2305843010818082053) (hsl : s < 2305843010818082053) (m z : Pt) (hm : m = mixTo (wgts md b cs ds n) cs n) (hz : z = mixTo (wgts md b cs ds n) ds n) (h : Nat) (hh : h = chal md b m z (ad (nt s a) (nt c b)) (ad (nt s m) (nt c z))) :
    Calls Tryz.prog 66 #[.agg #[.string (ctxB md), .int .u64 (px b), .int .u64 (py b), .bool (pb b), .slice (some ⟨g1, 0, none⟩) n k1, .slice (some ⟨g2, 0, none⟩) n k2], .agg #[.int .u64 (px a), .int .u64 (py a), .bool (pb a)], .agg #[.int .u64 c], .agg #[.int .u64 s]] w fun e w' => e = .returned (.bool ((h : Int) == (c : Int))) ∧ Below w.heap.size w w' := by
  have hgw : 6 < w.heap.size := World.block_lt_of_cell? w _ (hT 0 (by omega))
  have hom : on m := by rw [hm]; exact mixTo_on hoc n
  have hoz : on z := by rw [hz]; exact mixTo_on hod n
  have CM := fun w' hb => cmpI_any md n g1 k1 g2 k2 b cs ds w' (keepT hT hgw hb) hmd h1 hn hlc hld hoc hod (hc.below (B := w.heap.size) hb hc.lt) (hd.below (B := w.heap.size) hb hd.lt)
  rw [← hm, ← hz, ptW_eq, ptW_eq] at CM
  have T1 := fun w => ctmV ha s (by omega) w
  have T2 := fun w => ctmV hob c (by omega) w
  have T3' := fun w => ctmV hom s (by omega) w
  have T4 := fun w => ctmV hoz c (by omega) w
  have A1 := fun w => cplV (nt_on ha s) (nt_on hob c) w
  have A2 := fun w => cplV (nt_on hom s) (nt_on hoz c) w
  rw [ptW_eq, ptW_eq] at T1 T2 T3' T4
  rw [ptW_eq, ptW_eq, ptW_eq] at A1 A2
  have CH := fun w hT => chlI_of md b m z (ad (nt s a) (nt c b)) (ad (nt s m) (nt c z)) (some ⟨g1, 0, none⟩) n k1 (some ⟨g2, 0, none⟩) n k2 w hT hmd
  rw [← hh] at CH
  generalize ad (nt s a) (nt c b) = x at *
  generalize ad (nt s m) (nt c z) = y at *
  generalize nt s a = sa at *
  generalize nt c b = cb at *
  generalize nt s m = sm at *
  generalize nt c z = cz at *
  clear hm hz hh hoc hod hom hoz ha hob
  obtain ⟨X, hX⟩ : ∃ X, X = (((w.alloc (Obj.cells #[.string (ctxB md), .int .u64 (px b), .int .u64 (py b), .bool (pb b), .slice (some ⟨g1, 0, none⟩) n k1, .slice (some ⟨g2, 0, none⟩) n k2] 109)).alloc (Obj.cells #[.int .u64 (px a), .int .u64 (py a), .bool (pb a)] 106)).alloc (Obj.cells #[.int .u64 (c : Int)] 117)).alloc (Obj.cells #[.int .u64 (s : Int)] 117) := ⟨_, rfl⟩
  have r0 : B6 X w.heap.size (ctxB md) (px b) (py b) (pb b) (some ⟨g1, 0, none⟩) n k1 (some ⟨g2, 0, none⟩) n k2 := by rw [hX]; exact (((B6.new _ _ _ _ _ _ _ _ _ _ _).alloc _).alloc _).alloc _
  have ra : K3 X 106 (w.heap.size + 1) (px a) (py a) (pb a) := by rw [hX]; exact (((K3.new _ _ _ _ _).at (by simp)).alloc _).alloc _
  have rc : RN X (w.heap.size + 1 + 1) (c : Int) := by rw [hX]; exact ((RN.new _ _).at' (by simp)).alloc' _
  have rs : RN X (w.heap.size + 1 + 1 + 1) (s : Int) := by rw [hX]; exact (RN.new _ _).at' (by simp)
  have hb : Below w.heap.size w X := by
    rw [hX]
    exact ((((Below.refl _ w).alloc (Nat.le_refl _) _).alloc (by simp) _).alloc (by simp; omega) _).alloc (by simp; omega) _
  rw [hX] at r0 ra rc rs hb
  clear hX
  go_enter Tryz.func66, Tryz.ntmps66
  go_wp2_with fail
  refine (CM _ hb).mono ?_
  rintro e w1 ⟨rfl, b1⟩
  obtain ⟨W1, hW1⟩ : ∃ W1, W1 = (w1.alloc (Obj.cells #[.int .u64 (px m), .int .u64 (py m), .bool (pb m)] 106)).alloc (Obj.cells #[.int .u64 (px z), .int .u64 (py z), .bool (pb z)] 106) := ⟨_, rfl⟩
  have hB1 : Below w1.heap.size w1 W1 := by rw [hW1]; exact ((Below.refl _ w1).alloc (Nat.le_refl _) _).alloc (by simp) _
  replace r0 := (r0.keep b1).keep hB1
  replace ra := (ra.keep b1).keep hB1
  replace rc := (rc.keep b1).keep hB1
  replace rs := (rs.keep b1).keep hB1
  replace hb := hb.trans (b1.mono hb.size)
  replace hb := hb.trans (hB1.mono hb.size)
  have rm : K3 W1 106 w1.heap.size (px m) (py m) (pb m) := by rw [hW1]; exact (K3.new _ _ _ _ _).alloc _
  have rz : K3 W1 106 (w1.heap.size + 1) (px z) (py z) (pb z) := by rw [hW1]; exact (K3.new _ _ _ _ _).at (by simp)
  clear CM b1 hB1
  go_wp2
  rw [← hW1]
  clear hW1
  generalize w1.heap.size = H1 at *
  have s1 : W1.drew.cell? ⟨w.heap.size, 1, none⟩ = _ := r0.c1
  have s2 : W1.drew.cell? ⟨w.heap.size, 2, none⟩ = _ := r0.c2
  have s3 : W1.drew.cell? ⟨w.heap.size, 3, none⟩ = _ := r0.c3
  have a0 : W1.drew.cell? ⟨w.heap.size + 1, 0, none⟩ = _ := ra.c0
  have a1 : W1.drew.cell? ⟨w.heap.size + 1, 1, none⟩ = _ := ra.c1
  have a2 : W1.drew.cell? ⟨w.heap.size + 1, 2, none⟩ = _ := ra.c2
  have cc : W1.drew.cell? ⟨w.heap.size + 1 + 1, 0, none⟩ = some (.int .u64 (c : Int)) := rc.cell
  have ss : W1.drew.cell? ⟨w.heap.size + 1 + 1 + 1, 0, none⟩ = some (.int .u64 (s : Int)) := rs.cell
  refine pool_list [.val (.agg #[.int .u64 (px a), .int .u64 (py a), .bool (pb a)]),
      .val (.pointer (some ⟨w.heap.size + 1 + 1 + 1, 0, none⟩)),
      .val (.int .u64 (s : Int)),
      .val (.agg #[.int .u64 (px sa), .int .u64 (py sa), .bool (pb sa)]),
      .val (.pointer (some ⟨w.heap.size, 1, none⟩)),
      .val (.agg #[.int .u64 (px b), .int .u64 (py b), .bool (pb b)]),
      .val (.pointer (some ⟨w.heap.size + 1 + 1, 0, none⟩)),
      .val (.int .u64 (c : Int)),
      .val (.agg #[.int .u64 (px cb), .int .u64 (py cb), .bool (pb cb)]),
      .val (.agg #[.int .u64 (px x), .int .u64 (py x), .bool (pb x)]),
      .new (.cells #[.int .u64 0, .int .u64 0, .bool false] 106) (.cells #[.int .u64 (px x), .int .u64 (py x), .bool (pb x)] 106) 11,
      .put 10] [[5], [7], [19], [18, 20], [4], [22], [6], [24], [23, 25], [21, 26], [], [11, 27]] (fun f => [(some 18, .agg #[.int .u64 (px a), .int .u64 (py a), .bool (pb a)]), (some 19, .pointer (some ⟨w.heap.size + 1 + 1 + 1, 0, none⟩)), (some 20, .int .u64 (s : Int)), (some 21, .agg #[.int .u64 (px sa), .int .u64 (py sa), .bool (pb sa)]), (some 22, .pointer (some ⟨w.heap.size, 1, none⟩)), (some 23, .agg #[.int .u64 (px b), .int .u64 (py b), .bool (pb b)]), (some 24, .pointer (some ⟨w.heap.size + 1 + 1, 0, none⟩)), (some 25, .int .u64 (c : Int)), (some 26, .agg #[.int .u64 (px cb), .int .u64 (py cb), .bool (pb cb)]), (some 27, .agg #[.int .u64 (px x), .int .u64 (py x), .bool (pb x)]), (some 11, .pointer (some ⟨f 10, 0, none⟩)), (none, undef)]) (by kernel_rfl) (by kernel_rfl) (by kernel_rfl) (by kernel_rfl) (fun _ => by kernel_rfl) ?_ ?_
  · intro ix hix
    match ix, hix with
    | 0, _ => exact ob_val [(5, .pointer (some ⟨w.heap.size + 1, 0, none⟩))] rfl rfl (fun _ => by kernel_rfl) (fun A w ⟨e0, _⟩ hB => ld_cp e0 (keepC a0 hB) (keepC a1 hB) (keepC a2 hB))
    | 1, _ => exact ob_val [(7, .pointer (some ⟨w.heap.size + 1 + 1 + 1, 0, none⟩))] rfl rfl (fun _ => by kernel_rfl) (fun A w ⟨e0, _⟩ hB => fa_nN1 e0)
    | 2, _ => exact ob_val [(19, .pointer (some ⟨w.heap.size + 1 + 1 + 1, 0, none⟩))] rfl rfl (fun _ => by kernel_rfl) (fun A w ⟨e0, _⟩ hB => ld_u64 e0 (keepC ss hB))
    | 3, _ => exact ob_val [(18, .agg #[.int .u64 (px a), .int .u64 (py a), .bool (pb a)]), (20, .int .u64 (s : Int))] rfl rfl (fun _ => by kernel_rfl) (fun A w ⟨e0, e1, _⟩ hB => cl2 cf_impl_curvePoint_times e0 e1 (T1 w))
    | 4, _ => exact ob_val [(4, .pointer (some ⟨w.heap.size, 0, none⟩))] rfl rfl (fun _ => by kernel_rfl) (fun A w ⟨e0, _⟩ hB => fa_bat1 e0)
    | 5, _ => exact ob_val [(22, .pointer (some ⟨w.heap.size, 1, none⟩))] rfl rfl (fun _ => by kernel_rfl) (fun A w ⟨e0, _⟩ hB => ld_cp e0 (keepC s1 hB) (keepC s2 hB) (keepC s3 hB))
    | 6, _ => exact ob_val [(6, .pointer (some ⟨w.heap.size + 1 + 1, 0, none⟩))] rfl rfl (fun _ => by kernel_rfl) (fun A w ⟨e0, _⟩ hB => fa_nN1 e0)
    | 7, _ => exact ob_val [(24, .pointer (some ⟨w.heap.size + 1 + 1, 0, none⟩))] rfl rfl (fun _ => by kernel_rfl) (fun A w ⟨e0, _⟩ hB => ld_u64 e0 (keepC cc hB))
    | 8, _ => exact ob_val [(23, .agg #[.int .u64 (px b), .int .u64 (py b), .bool (pb b)]), (25, .int .u64 (c : Int))] rfl rfl (fun _ => by kernel_rfl) (fun A w ⟨e0, e1, _⟩ hB => cl2 cf_impl_curvePoint_times e0 e1 (T2 w))
    | 9, _ => exact ob_val [(21, .agg #[.int .u64 (px sa), .int .u64 (py sa), .bool (pb sa)]), (26, .agg #[.int .u64 (px cb), .int .u64 (py cb), .bool (pb cb)])] rfl rfl (fun _ => by kernel_rfl) (fun A w ⟨e0, e1, _⟩ hB => cl2 cf_impl_curvePoint_plus e0 e1 (A1 w))
    | 10, _ => exact ob_new rfl rfl (fun A w => al_cp)
    | 11, _ => exact ob_put 11 (fun f => [(11, .pointer (some ⟨f 10, 0, none⟩)), (27, .agg #[.int .u64 (px x), .int .u64 (py x), .bool (pb x)])]) rfl rfl rfl (by decide) (by kernel_rfl) rfl (fun _ => by kernel_rfl) (fun f A w ⟨e0, e1, _⟩ hr => pu_cp e0 e1 hr)
    | ix + 12, h => exact absurd h (by simp)
  intro f W2 hb2 hnew _
  have hb2' : Below W1.heap.size W1 W2 := (Below.refl _ W1).drew.trans hb2
  have rx : K3 W2 106 (f 10) (px x) (py x) (pb x) := (hnew 10 _ _ _ rfl (by decide)).2
  generalize f 10 = BX at *
  replace r0 := r0.keep hb2'
  replace rm := rm.keep hb2'
  replace rz := rz.keep hb2'
  replace rc := rc.keep hb2'
  replace rs := rs.keep hb2'
  replace hb := hb.trans (hb2'.mono hb.size)
  clear s1 s2 s3 a0 a1 a2 cc ss hb2 hb2' hnew T1 T2 A1 ra
  simp only [puts, List.foldl, Act.put, List.setIfInBounds_toArray, List.set_cons_zero, List.set_cons_succ]
  go_wp2
  have m0 : W2.drew.cell? ⟨H1, 0, none⟩ = _ := rm.c0
  have m1 : W2.drew.cell? ⟨H1, 1, none⟩ = _ := rm.c1
  have m2 : W2.drew.cell? ⟨H1, 2, none⟩ = _ := rm.c2
  have z0 : W2.drew.cell? ⟨H1 + 1, 0, none⟩ = _ := rz.c0
  have z1 : W2.drew.cell? ⟨H1 + 1, 1, none⟩ = _ := rz.c1
  have z2 : W2.drew.cell? ⟨H1 + 1, 2, none⟩ = _ := rz.c2
  have cc : W2.drew.cell? ⟨w.heap.size + 1 + 1, 0, none⟩ = some (.int .u64 (c : Int)) := rc.cell
  have ss : W2.drew.cell? ⟨w.heap.size + 1 + 1 + 1, 0, none⟩ = some (.int .u64 (s : Int)) := rs.cell
  refine pool_list [.val (.agg #[.int .u64 (px m), .int .u64 (py m), .bool (pb m)]),
      .val (.pointer (some ⟨w.heap.size + 1 + 1 + 1, 0, none⟩)),
      .val (.int .u64 (s : Int)),
      .val (.agg #[.int .u64 (px sm), .int .u64 (py sm), .bool (pb sm)]),
      .val (.agg #[.int .u64 (px z), .int .u64 (py z), .bool (pb z)]),
      .val (.pointer (some ⟨w.heap.size + 1 + 1, 0, none⟩)),
      .val (.int .u64 (c : Int)),
      .val (.agg #[.int .u64 (px cz), .int .u64 (py cz), .bool (pb cz)]),
      .val (.agg #[.int .u64 (px y), .int .u64 (py y), .bool (pb y)]),
      .new (.cells #[.int .u64 0, .int .u64 0, .bool false] 106) (.cells #[.int .u64 (px y), .int .u64 (py y), .bool (pb y)] 106) 10,
      .put 9] [[9], [7], [29], [28, 30], [10], [6], [33], [32, 34], [31, 35], [], [12, 36]] (fun f => [(some 28, .agg #[.int .u64 (px m), .int .u64 (py m), .bool (pb m)]), (some 29, .pointer (some ⟨w.heap.size + 1 + 1 + 1, 0, none⟩)), (some 30, .int .u64 (s : Int)), (some 31, .agg #[.int .u64 (px sm), .int .u64 (py sm), .bool (pb sm)]), (some 32, .agg #[.int .u64 (px z), .int .u64 (py z), .bool (pb z)]), (some 33, .pointer (some ⟨w.heap.size + 1 + 1, 0, none⟩)), (some 34, .int .u64 (c : Int)), (some 35, .agg #[.int .u64 (px cz), .int .u64 (py cz), .bool (pb cz)]), (some 36, .agg #[.int .u64 (px y), .int .u64 (py y), .bool (pb y)]), (some 12, .pointer (some ⟨f 9, 0, none⟩)), (none, undef)]) (by kernel_rfl) (by kernel_rfl) (by kernel_rfl) (by kernel_rfl) (fun _ => by kernel_rfl) ?_ ?_
  · intro ix hix
    match ix, hix with
    | 0, _ => exact ob_val [(9, .pointer (some ⟨H1, 0, none⟩))] rfl rfl (fun _ => by kernel_rfl) (fun A w ⟨e0, _⟩ hB => ld_cp e0 (keepC m0 hB) (keepC m1 hB) (keepC m2 hB))
    | 1, _ => exact ob_val [(7, .pointer (some ⟨w.heap.size + 1 + 1 + 1, 0, none⟩))] rfl rfl (fun _ => by kernel_rfl) (fun A w ⟨e0, _⟩ hB => fa_nN1 e0)
    | 2, _ => exact ob_val [(29, .pointer (some ⟨w.heap.size + 1 + 1 + 1, 0, none⟩))] rfl rfl (fun _ => by kernel_rfl) (fun A w ⟨e0, _⟩ hB => ld_u64 e0 (keepC ss hB))
    | 3, _ => exact ob_val [(28, .agg #[.int .u64 (px m), .int .u64 (py m), .bool (pb m)]), (30, .int .u64 (s : Int))] rfl rfl (fun _ => by kernel_rfl) (fun A w ⟨e0, e1, _⟩ hB => cl2 cf_impl_curvePoint_times e0 e1 (T3' w))
    | 4, _ => exact ob_val [(10, .pointer (some ⟨H1 + 1, 0, none⟩))] rfl rfl (fun _ => by kernel_rfl) (fun A w ⟨e0, _⟩ hB => ld_cp e0 (keepC z0 hB) (keepC z1 hB) (keepC z2 hB))
    | 5, _ => exact ob_val [(6, .pointer (some ⟨w.heap.size + 1 + 1, 0, none⟩))] rfl rfl (fun _ => by kernel_rfl) (fun A w ⟨e0, _⟩ hB => fa_nN1 e0)
    | 6, _ => exact ob_val [(33, .pointer (some ⟨w.heap.size + 1 + 1, 0, none⟩))] rfl rfl (fun _ => by kernel_rfl) (fun A w ⟨e0, _⟩ hB => ld_u64 e0 (keepC cc hB))
    | 7, _ => exact ob_val [(32, .agg #[.int .u64 (px z), .int .u64 (py z), .bool (pb z)]), (34, .int .u64 (c : Int))] rfl rfl (fun _ => by kernel_rfl) (fun A w ⟨e0, e1, _⟩ hB => cl2 cf_impl_curvePoint_times e0 e1 (T4 w))
    | 8, _ => exact ob_val [(31, .agg #[.int .u64 (px sm), .int .u64 (py sm), .bool (pb sm)]), (35, .agg #[.int .u64 (px cz), .int .u64 (py cz), .bool (pb cz)])] rfl rfl (fun _ => by kernel_rfl) (fun A w ⟨e0, e1, _⟩ hB => cl2 cf_impl_curvePoint_plus e0 e1 (A2 w))
    | 9, _ => exact ob_new rfl rfl (fun A w => al_cp)
    | 10, _ => exact ob_put 12 (fun f => [(12, .pointer (some ⟨f 9, 0, none⟩)), (36, .agg #[.int .u64 (px y), .int .u64 (py y), .bool (pb y)])]) rfl rfl rfl (by decide) (by kernel_rfl) rfl (fun _ => by kernel_rfl) (fun f A w ⟨e0, e1, _⟩ hr => pu_cp e0 e1 hr)
    | ix + 11, h => exact absurd h (by simp)
  intro f W3 hb3 hnew _
  have hb3' : Below W2.heap.size W2 W3 := (Below.refl _ W2).drew.trans hb3
  have ry : K3 W3 106 (f 9) (px y) (py y) (pb y) := (hnew 9 _ _ _ rfl (by decide)).2
  generalize f 9 = BY at *
  replace r0 := r0.keep hb3'
  replace rm := rm.keep hb3'
  replace rz := rz.keep hb3'
  replace rx := rx.keep hb3'
  replace rc := rc.keep hb3'
  replace hb := hb.trans (hb3'.mono hb.size)
  clear m0 m1 m2 z0 z1 z2 cc ss hb3 hb3' hnew T3' T4 A2 rs
  simp only [puts, List.foldl, Act.put, List.setIfInBounds_toArray, List.set_cons_zero, List.set_cons_succ]
  go_wp2
  have hT3 : TabK W3.drew := fun i hi => (hb.cell (p := ⟨6, i, none⟩) hgw).trans (hT i hi)
  have hg3 : 6 < W3.drew.heap.size := Nat.lt_of_lt_of_le hgw hb.size
  have s0 : W3.drew.cell? ⟨w.heap.size, 0, none⟩ = _ := r0.c0
  have s1 : W3.drew.cell? ⟨w.heap.size, 1, none⟩ = _ := r0.c1
  have s2 : W3.drew.cell? ⟨w.heap.size, 2, none⟩ = _ := r0.c2
  have s3 : W3.drew.cell? ⟨w.heap.size, 3, none⟩ = _ := r0.c3
  have s4 : W3.drew.cell? ⟨w.heap.size, 4, none⟩ = _ := r0.c4
  have s5 : W3.drew.cell? ⟨w.heap.size, 5, none⟩ = _ := r0.c5
  have m0 : W3.drew.cell? ⟨H1, 0, none⟩ = _ := rm.c0
  have m1 : W3.drew.cell? ⟨H1, 1, none⟩ = _ := rm.c1
  have m2 : W3.drew.cell? ⟨H1, 2, none⟩ = _ := rm.c2
  have z0 : W3.drew.cell? ⟨H1 + 1, 0, none⟩ = _ := rz.c0
  have z1 : W3.drew.cell? ⟨H1 + 1, 1, none⟩ = _ := rz.c1
  have z2 : W3.drew.cell? ⟨H1 + 1, 2, none⟩ = _ := rz.c2
  have x0 : W3.drew.cell? ⟨BX, 0, none⟩ = _ := rx.c0
  have x1 : W3.drew.cell? ⟨BX, 1, none⟩ = _ := rx.c1
  have x2 : W3.drew.cell? ⟨BX, 2, none⟩ = _ := rx.c2
  have y0 : W3.drew.cell? ⟨BY, 0, none⟩ = _ := ry.c0
  have y1 : W3.drew.cell? ⟨BY, 1, none⟩ = _ := ry.c1
  have y2 : W3.drew.cell? ⟨BY, 2, none⟩ = _ := ry.c2
  have cc : W3.drew.cell? ⟨w.heap.size + 1 + 1, 0, none⟩ = some (.int .u64 (c : Int)) := rc.cell
  refine pool_list [.val (.agg #[.string (ctxB md), .int .u64 (px b), .int .u64 (py b), .bool (pb b), .slice (some ⟨g1, 0, none⟩) n k1, .slice (some ⟨g2, 0, none⟩) n k2]),
      .val (.agg #[.int .u64 (px m), .int .u64 (py m), .bool (pb m)]),
      .val (.agg #[.int .u64 (px z), .int .u64 (py z), .bool (pb z)]),
      .val (.agg #[.int .u64 (px x), .int .u64 (py x), .bool (pb x)]),
      .val (.agg #[.int .u64 (px y), .int .u64 (py y), .bool (pb y)]),
      .val (.agg #[.int .u64 (h : Int)]),
      .val (.agg #[.int .u64 (c : Int)]),
      .val (.bool ((h : Int) == (c : Int))),
      .val (.bool ((h : Int) == (c : Int)))] [[4], [9], [10], [11], [12], [37, 38, 39, 40, 41], [6], [42, 43], [44]] (fun f => [(some 37, .agg #[.string (ctxB md), .int .u64 (px b), .int .u64 (py b), .bool (pb b), .slice (some ⟨g1, 0, none⟩) n k1, .slice (some ⟨g2, 0, none⟩) n k2]), (some 38, .agg #[.int .u64 (px m), .int .u64 (py m), .bool (pb m)]), (some 39, .agg #[.int .u64 (px z), .int .u64 (py z), .bool (pb z)]), (some 40, .agg #[.int .u64 (px x), .int .u64 (py x), .bool (pb x)]), (some 41, .agg #[.int .u64 (px y), .int .u64 (py y), .bool (pb y)]), (some 42, .agg #[.int .u64 (h : Int)]), (some 43, .agg #[.int .u64 (c : Int)]), (some 44, .bool ((h : Int) == (c : Int))), (some 8, .bool ((h : Int) == (c : Int)))]) (by kernel_rfl) (by kernel_rfl) (by kernel_rfl) (by kernel_rfl) (fun _ => by kernel_rfl) ?_ ?_
  · intro ix hix
    match ix, hix with
    | 0, _ => exact ob_val [(4, .pointer (some ⟨w.heap.size, 0, none⟩))] rfl rfl (fun _ => by kernel_rfl) (fun A w ⟨e0, _⟩ hB => ld_bat e0 (keepC s0 hB) (keepC s1 hB) (keepC s2 hB) (keepC s3 hB) (keepC s4 hB) (keepC s5 hB))
    | 1, _ => exact ob_val [(9, .pointer (some ⟨H1, 0, none⟩))] rfl rfl (fun _ => by kernel_rfl) (fun A w ⟨e0, _⟩ hB => ld_cp e0 (keepC m0 hB) (keepC m1 hB) (keepC m2 hB))
    | 2, _ => exact ob_val [(10, .pointer (some ⟨H1 + 1, 0, none⟩))] rfl rfl (fun _ => by kernel_rfl) (fun A w ⟨e0, _⟩ hB => ld_cp e0 (keepC z0 hB) (keepC z1 hB) (keepC z2 hB))
    | 3, _ => exact ob_val [(11, .pointer (some ⟨BX, 0, none⟩))] rfl rfl (fun _ => by kernel_rfl) (fun A w ⟨e0, _⟩ hB => ld_cp e0 (keepC x0 hB) (keepC x1 hB) (keepC x2 hB))
    | 4, _ => exact ob_val [(12, .pointer (some ⟨BY, 0, none⟩))] rfl rfl (fun _ => by kernel_rfl) (fun A w ⟨e0, _⟩ hB => ld_cp e0 (keepC y0 hB) (keepC y1 hB) (keepC y2 hB))
    | 5, _ => exact ob_val [(37, .agg #[.string (ctxB md), .int .u64 (px b), .int .u64 (py b), .bool (pb b), .slice (some ⟨g1, 0, none⟩) n k1, .slice (some ⟨g2, 0, none⟩) n k2]), (38, .agg #[.int .u64 (px m), .int .u64 (py m), .bool (pb m)]), (39, .agg #[.int .u64 (px z), .int .u64 (py z), .bool (pb z)]), (40, .agg #[.int .u64 (px x), .int .u64 (py x), .bool (pb x)]), (41, .agg #[.int .u64 (px y), .int .u64 (py y), .bool (pb y)])] rfl rfl (fun _ => by kernel_rfl) (fun A w ⟨e0, e1, e2, e3, e4, _⟩ hB => cl5 cf_impl_batch_challenge e0 e1 e2 e3 e4 (CH w (keepT hT3 hg3 hB)))
    | 6, _ => exact ob_val [(6, .pointer (some ⟨w.heap.size + 1 + 1, 0, none⟩))] rfl rfl (fun _ => by kernel_rfl) (fun A w ⟨e0, _⟩ hB => ld_nN e0 (keepC cc hB))
    | 7, _ => exact ob_val [(42, .agg #[.int .u64 (h : Int)]), (43, .agg #[.int .u64 (c : Int)])] rfl rfl (fun _ => by kernel_rfl) (fun A w ⟨e0, e1, _⟩ hB => eq_nN e0 e1)
    | 8, _ => exact ob_val [(44, .bool ((h : Int) == (c : Int)))] rfl rfl (fun _ => by kernel_rfl) (fun A w ⟨e0, _⟩ hB => doV_assign e0)
    | ix + 9, h => exact absurd h (by simp)
  intro f W4 hb4 _ _
  have hb5 := hb.drew.trans (hb4.mono hb.size)
  simp only [puts, List.foldl, Act.put, List.setIfInBounds_toArray, List.set_cons_zero, List.set_cons_succ]
  go_wp2
  go_ret
  exact ⟨rfl, hb5⟩
theorem Cps.one {W : World} {t : TypeId} {g : Nat} {p : Pt} (h : Bk W t g #[.int .u64 (px p), .int .u64 (py p), .bool (pb p)]) : Cps W g [p] := by
  have e : ∀ i q, ([p] : List Pt)[i]? = some q → i = 0 ∧ q = p := fun i q h => by
    cases i with
    | zero => simp at h; exact ⟨rfl, h.symm⟩
    | succ i => simp at h
  refine ⟨h.lt, fun i q hq => ?_, fun i q hq => ?_, fun i q hq => ?_⟩ <;> obtain ⟨rfl, rfl⟩ := e i q hq
  · exact h.cell (k := 0) rfl
  · exact h.cell (k := 1) rfl
  · exact h.cell (k := 2) rfl
section
variable (cx info : ByteArray) (b el ev : Pt) (c s : Int) (F0 F1 F2 F3 F4 F5 F6 : FuncId) (a0 a1 a2 a3 : Addr) (w : World) (hcf : ∀ (args : Array Value) (w : World), (callFunc F5 args).run Tryz.prog w = .ok (.enter F5 args) w)
include hcf
theorem verI_no
    (CL : ∀ w' g1 g2, Below w.heap.size w w' → Calls Tryz.prog F5 #[.agg #[.string cx, .string info], .agg #[.int .u64 (px b), .int .u64 (py b), .bool (pb b)], .slice (some ⟨g1, 0, none⟩) 1 1, .slice (some ⟨g2, 0, none⟩) 1 1] w' fun e w'' => e = .returned (.tuple #[.agg zBat, .bool false]) ∧ Below w'.heap.size w' w'') :
    Calls Tryz.prog 96 #[.agg #[.string cx, .string info, .func (.func F0) #[] #[], .func (.func F1) #[] #[], .func (.func F2) #[] #[], .func (.func F3) #[] #[], .func (.func F4) #[] #[], .func (.func F5) #[] #[], .func (.func F6) #[] #[]], .agg #[.int .u64 (px b), .int .u64 (py b), .bool (pb b)], .agg #[.int .u64 (px el), .int .u64 (py el), .bool (pb el)], .agg #[.int .u64 (px ev), .int .u64 (py ev), .bool (pb ev), .int .u64 c, .int .u64 s]] w fun e w' => e = .returned .nilIface ∧ Below w.heap.size w w' := by
  unfold zBat at CL
  obtain ⟨X, hX⟩ : ∃ X, X = ((((((w.alloc (Obj.cells #[.string cx, .string info, .func (.func F0) #[] #[], .func (.func F1) #[] #[], .func (.func F2) #[] #[], .func (.func F3) #[] #[], .func (.func F4) #[] #[], .func (.func F5) #[] #[], .func (.func F6) #[] #[]] 144)).alloc (Obj.cells #[.int .u64 (px b), .int .u64 (py b), .bool (pb b)] 106)).alloc (Obj.cells #[.int .u64 (px el), .int .u64 (py el), .bool (pb el)] 106)).alloc (Obj.cells #[.int .u64 (px ev), .int .u64 (py ev), .bool (pb ev), .int .u64 c, .int .u64 s] 167)).alloc (Obj.cells #[.int .u64 (px el), .int .u64 (py el), .bool (pb el)] 106)).alloc (Obj.cells #[.int .u64 (px ev), .int .u64 (py ev), .bool (pb ev)] 106)) := ⟨_, rfl⟩
  have r0 : Bk X 144 (w.heap.size) #[.string cx, .string info, .func (.func F0) #[] #[], .func (.func F1) #[] #[], .func (.func F2) #[] #[], .func (.func F3) #[] #[], .func (.func F4) #[] #[], .func (.func F5) #[] #[], .func (.func F6) #[] #[]] := by rw [hX]; exact ((((((Bk.new _ _ _).alloc _).alloc _).alloc _).alloc _).alloc _)
  have r1 : Bk X 106 (w.heap.size + 1) #[.int .u64 (px b), .int .u64 (py b), .bool (pb b)] := by rw [hX]; exact ((((((Bk.new _ _ _).at (by simp)).alloc _).alloc _).alloc _).alloc _)
  have r2 : Bk X 106 (w.heap.size + 1 + 1) #[.int .u64 (px el), .int .u64 (py el), .bool (pb el)] := by rw [hX]; exact (((((Bk.new _ _ _).at (by simp)).alloc _).alloc _).alloc _)
  have r3 : Bk X 167 (w.heap.size + 1 + 1 + 1) #[.int .u64 (px ev), .int .u64 (py ev), .bool (pb ev), .int .u64 c, .int .u64 s] := by rw [hX]; exact ((((Bk.new _ _ _).at (by simp)).alloc _).alloc _)
  have r5 : Bk X 106 (w.heap.size + 1 + 1 + 1 + 1) #[.int .u64 (px el), .int .u64 (py el), .bool (pb el)] := by rw [hX]; exact (((Bk.new _ _ _).at (by simp)).alloc _)
  have r6 : Bk X 106 (w.heap.size + 1 + 1 + 1 + 1 + 1) #[.int .u64 (px ev), .int .u64 (py ev), .bool (pb ev)] := by rw [hX]; exact ((Bk.new _ _ _).at (by simp))
  have hb : Below w.heap.size w X := by rw [hX]; exact (((((((Below.refl _ w).alloc (Nat.le_refl _) _).alloc (by simp) _).alloc (by simp; omega) _).alloc (by simp; omega) _).alloc (by simp; omega) _).alloc (by simp; omega) _)
  rw [hX] at r0 r1 r2 r3 r5 r6 hb
  clear hX
  obtain ⟨Y, hY⟩ : ∃ Y, Y = ((((w.alloc (Obj.cells #[.string cx, .string info, .func (.func F0) #[] #[], .func (.func F1) #[] #[], .func (.func F2) #[] #[], .func (.func F3) #[] #[], .func (.func F4) #[] #[], .func (.func F5) #[] #[], .func (.func F6) #[] #[]] 144)).alloc (Obj.cells #[.int .u64 (px b), .int .u64 (py b), .bool (pb b)] 106)).alloc (Obj.cells #[.int .u64 (px el), .int .u64 (py el), .bool (pb el)] 106)).alloc (Obj.cells #[.int .u64 (px ev), .int .u64 (py ev), .bool (pb ev), .int .u64 c, .int .u64 s] 167)) := ⟨_, rfl⟩
  have y0 : Bk Y 144 (w.heap.size) #[.string cx, .string info, .func (.func F0) #[] #[], .func (.func F1) #[] #[], .func (.func F2) #[] #[], .func (.func F3) #[] #[], .func (.func F4) #[] #[], .func (.func F5) #[] #[], .func (.func F6) #[] #[]] := by rw [hY]; exact ((((Bk.new _ _ _).alloc _).alloc _).alloc _)
  have y1 : Bk Y 106 (w.heap.size + 1) #[.int .u64 (px b), .int .u64 (py b), .bool (pb b)] := by rw [hY]; exact ((((Bk.new _ _ _).at (by simp)).alloc _).alloc _)
  have y2 : Bk Y 106 (w.heap.size + 1 + 1) #[.int .u64 (px el), .int .u64 (py el), .bool (pb el)] := by rw [hY]; exact (((Bk.new _ _ _).at (by simp)).alloc _)
  have y3 : Bk Y 167 (w.heap.size + 1 + 1 + 1) #[.int .u64 (px ev), .int .u64 (py ev), .bool (pb ev), .int .u64 c, .int .u64 s] := by rw [hY]; exact ((Bk.new _ _ _).at (by simp))
  rw [hY] at y0 y1 y2 y3
  clear hY
  have y0c0 := y0.cell (k := 0) rfl
  have y0c1 := y0.cell (k := 1) rfl
  have y0c7 := y0.cell (k := 7) rfl
  have y1c0 := y1.cell (k := 0) rfl
  have y1c1 := y1.cell (k := 1) rfl
  have y1c2 := y1.cell (k := 2) rfl
  have y2c0 := y2.cell (k := 0) rfl
  have y2c1 := y2.cell (k := 1) rfl
  have y2c2 := y2.cell (k := 2) rfl
  have z3 := y3.alloc (Obj.cells #[.int .u64 (px el), .int .u64 (py el), .bool (pb el)] 106)
  have z3c0 := z3.cell (k := 0) rfl
  have z3c1 := z3.cell (k := 1) rfl
  have z3c2 := z3.cell (k := 2) rfl
  go_enter Tryz.func96, Tryz.ntmps96
  go_wp2_with fail
  refine (CL _ _ _ hb).mono ?_
  rintro e w1 ⟨rfl, b1⟩
  have hal := (Below.refl _ w1).alloc (Nat.le_refl _) (Obj.cells #[.string ⟨#[]⟩, .int .u64 0, .int .u64 0, .bool false, .slice none 0 0, .slice none 0 0] 109)
  replace hb := hb.trans (b1.mono hb.size)
  replace hb := hb.trans (hal.mono hb.size)
  clear CL b1 hal y0c0 y0c1 y0c7 y1c0 y1c1 y1c2 y2c0 y2c1 y2c2 z3c0 z3c1 z3c2 y0 y1 y2 y3 z3 r0 r1 r2 r3 r5 r6
  go_wp2
  generalize w1.heap.size = H1 at *
  generalize w1.alloc _ = W1 at *
  go_quiet (fail)
  have hb3 : Below w.heap.size w (W1.drewN nq) := ⟨hb.os, hb.tape, hb.output, hb.size, hb.block⟩
  clear hb
  generalize W1.drewN nq = W3 at *
  go_wp2
  go_ret
  exact ⟨rfl, hb3⟩
theorem verI_yes (ok : Bool) (h1 h2 : Nat) (hs : Sn w a0 a1 a2 a3)
    (CL : ∀ w', Below w.heap.size w w' → Calls Tryz.prog F5 #[.agg #[.string cx, .string info], .agg #[.int .u64 (px b), .int .u64 (py b), .bool (pb b)], .slice (some ⟨w.heap.size + 1 + 1 + 1 + 1, 0, none⟩) 1 1, .slice (some ⟨w.heap.size + 1 + 1 + 1 + 1 + 1, 0, none⟩) 1 1] w' fun e w'' => e = .returned (.tuple #[.agg #[.string cx, .int .u64 (px b), .int .u64 (py b), .bool (pb b), .slice (some ⟨h1, 0, none⟩) 1 1, .slice (some ⟨h2, 0, none⟩) 1 1], .bool true]) ∧ Below w'.heap.size w' w'')
    (AC : ∀ w', Below w.heap.size w w' → Cps w' (w.heap.size + 1 + 1 + 1 + 1) [el] → Cps w' (w.heap.size + 1 + 1 + 1 + 1 + 1) [ev] → Calls Tryz.prog 66 #[.agg #[.string cx, .int .u64 (px b), .int .u64 (py b), .bool (pb b), .slice (some ⟨h1, 0, none⟩) 1 1, .slice (some ⟨h2, 0, none⟩) 1 1], .agg #[.int .u64 (px gG), .int .u64 (py gG), .bool (pb gG)], .agg #[.int .u64 c], .agg #[.int .u64 s]] w' fun e w'' => e = .returned (.bool ok) ∧ Below w'.heap.size w' w'') :
    Calls Tryz.prog 96 #[.agg #[.string cx, .string info, .func (.func F0) #[] #[], .func (.func F1) #[] #[], .func (.func F2) #[] #[], .func (.func F3) #[] #[], .func (.func F4) #[] #[], .func (.func F5) #[] #[], .func (.func F6) #[] #[]], .agg #[.int .u64 (px b), .int .u64 (py b), .bool (pb b)], .agg #[.int .u64 (px el), .int .u64 (py el), .bool (pb el)], .agg #[.int .u64 (px ev), .int .u64 (py ev), .bool (pb ev), .int .u64 c, .int .u64 s]] w fun e w' => e = .returned (if ok = true then .nilIface else sen a3) ∧ Below w.heap.size w w' := by
  obtain ⟨X, hX⟩ : ∃ X, X = ((((((w.alloc (Obj.cells #[.string cx, .string info, .func (.func F0) #[] #[], .func (.func F1) #[] #[], .func (.func F2) #[] #[], .func (.func F3) #[] #[], .func (.func F4) #[] #[], .func (.func F5) #[] #[], .func (.func F6) #[] #[]] 144)).alloc (Obj.cells #[.int .u64 (px b), .int .u64 (py b), .bool (pb b)] 106)).alloc (Obj.cells #[.int .u64 (px el), .int .u64 (py el), .bool (pb el)] 106)).alloc (Obj.cells #[.int .u64 (px ev), .int .u64 (py ev), .bool (pb ev), .int .u64 c, .int .u64 s] 167)).alloc (Obj.cells #[.int .u64 (px el), .int .u64 (py el), .bool (pb el)] 106)).alloc (Obj.cells #[.int .u64 (px ev), .int .u64 (py ev), .bool (pb ev)] 106)) := ⟨_, rfl⟩
  have r0 : Bk X 144 (w.heap.size) #[.string cx, .string info, .func (.func F0) #[] #[], .func (.func F1) #[] #[], .func (.func F2) #[] #[], .func (.func F3) #[] #[], .func (.func F4) #[] #[], .func (.func F5) #[] #[], .func (.func F6) #[] #[]] := by rw [hX]; exact ((((((Bk.new _ _ _).alloc _).alloc _).alloc _).alloc _).alloc _)
  have r1 : Bk X 106 (w.heap.size + 1) #[.int .u64 (px b), .int .u64 (py b), .bool (pb b)] := by rw [hX]; exact ((((((Bk.new _ _ _).at (by simp)).alloc _).alloc _).alloc _).alloc _)
  have r2 : Bk X 106 (w.heap.size + 1 + 1) #[.int .u64 (px el), .int .u64 (py el), .bool (pb el)] := by rw [hX]; exact (((((Bk.new _ _ _).at (by simp)).alloc _).alloc _).alloc _)
  have r3 : Bk X 167 (w.heap.size + 1 + 1 + 1) #[.int .u64 (px ev), .int .u64 (py ev), .bool (pb ev), .int .u64 c, .int .u64 s] := by rw [hX]; exact ((((Bk.new _ _ _).at (by simp)).alloc _).alloc _)
  have r5 : Bk X 106 (w.heap.size + 1 + 1 + 1 + 1) #[.int .u64 (px el), .int .u64 (py el), .bool (pb el)] := by rw [hX]; exact (((Bk.new _ _ _).at (by simp)).alloc _)
  have r6 : Bk X 106 (w.heap.size + 1 + 1 + 1 + 1 + 1) #[.int .u64 (px ev), .int .u64 (py ev), .bool (pb ev)] := by rw [hX]; exact ((Bk.new _ _ _).at (by simp))
  have hb : Below w.heap.size w X := by rw [hX]; exact (((((((Below.refl _ w).alloc (Nat.le_refl _) _).alloc (by simp) _).alloc (by simp; omega) _).alloc (by simp; omega) _).alloc (by simp; omega) _).alloc (by simp; omega) _)
  rw [hX] at r0 r1 r2 r3 r5 r6 hb
  clear hX
  obtain ⟨Y, hY⟩ : ∃ Y, Y = ((((w.alloc (Obj.cells #[.string cx, .string info, .func (.func F0) #[] #[], .func (.func F1) #[] #[], .func (.func F2) #[] #[], .func (.func F3) #[] #[], .func (.func F4) #[] #[], .func (.func F5) #[] #[], .func (.func F6) #[] #[]] 144)).alloc (Obj.cells #[.int .u64 (px b), .int .u64 (py b), .bool (pb b)] 106)).alloc (Obj.cells #[.int .u64 (px el), .int .u64 (py el), .bool (pb el)] 106)).alloc (Obj.cells #[.int .u64 (px ev), .int .u64 (py ev), .bool (pb ev), .int .u64 c, .int .u64 s] 167)) := ⟨_, rfl⟩
  have y0 : Bk Y 144 (w.heap.size) #[.string cx, .string info, .func (.func F0) #[] #[], .func (.func F1) #[] #[], .func (.func F2) #[] #[], .func (.func F3) #[] #[], .func (.func F4) #[] #[], .func (.func F5) #[] #[], .func (.func F6) #[] #[]] := by rw [hY]; exact ((((Bk.new _ _ _).alloc _).alloc _).alloc _)
  have y1 : Bk Y 106 (w.heap.size + 1) #[.int .u64 (px b), .int .u64 (py b), .bool (pb b)] := by rw [hY]; exact ((((Bk.new _ _ _).at (by simp)).alloc _).alloc _)
  have y2 : Bk Y 106 (w.heap.size + 1 + 1) #[.int .u64 (px el), .int .u64 (py el), .bool (pb el)] := by rw [hY]; exact (((Bk.new _ _ _).at (by simp)).alloc _)
  have y3 : Bk Y 167 (w.heap.size + 1 + 1 + 1) #[.int .u64 (px ev), .int .u64 (py ev), .bool (pb ev), .int .u64 c, .int .u64 s] := by rw [hY]; exact ((Bk.new _ _ _).at (by simp))
  rw [hY] at y0 y1 y2 y3
  clear hY
  have y0c0 := y0.cell (k := 0) rfl
  have y0c1 := y0.cell (k := 1) rfl
  have y0c7 := y0.cell (k := 7) rfl
  have y1c0 := y1.cell (k := 0) rfl
  have y1c1 := y1.cell (k := 1) rfl
  have y1c2 := y1.cell (k := 2) rfl
  have y2c0 := y2.cell (k := 0) rfl
  have y2c1 := y2.cell (k := 1) rfl
  have y2c2 := y2.cell (k := 2) rfl
  have z3 := y3.alloc (Obj.cells #[.int .u64 (px el), .int .u64 (py el), .bool (pb el)] 106)
  have z3c0 := z3.cell (k := 0) rfl
  have z3c1 := z3.cell (k := 1) rfl
  have z3c2 := z3.cell (k := 2) rfl
  go_enter Tryz.func96, Tryz.ntmps96
  go_wp2_with fail
  refine (CL _ hb).mono ?_
  rintro e w1 ⟨rfl, b1⟩
  have hal := (Below.refl _ w1).alloc (Nat.le_refl _) (Obj.cells #[.string cx, .int .u64 (px b), .int .u64 (py b), .bool (pb b), .slice (some ⟨h1, 0, none⟩) 1 1, .slice (some ⟨h2, 0, none⟩) 1 1] 109)
  have r9 := Bk.new w1 109 #[.string cx, .int .u64 (px b), .int .u64 (py b), .bool (pb b), .slice (some ⟨h1, 0, none⟩) 1 1, .slice (some ⟨h2, 0, none⟩) 1 1]
  replace r3 := (r3.keep b1).keep hal
  replace r5 := (r5.keep b1).keep hal
  replace r6 := (r6.keep b1).keep hal
  replace hb := hb.trans (b1.mono hb.size)
  replace hb := hb.trans (hal.mono hb.size)
  clear CL b1 hal y0c0 y0c1 y0c7 y1c0 y1c1 y1c2 y2c0 y2c1 y2c2 z3c0 z3c1 z3c2 y0 y1 y2 y3 z3 r0 r1 r2
  go_wp2
  generalize w1.heap.size = H1 at *
  generalize w1.alloc _ = W1 at *
  have u0 : W1.drew.cell? ⟨H1, 0, none⟩ = _ := r9.cell (k := 0) rfl
  have u1 : W1.drew.cell? ⟨H1, 1, none⟩ = _ := r9.cell (k := 1) rfl
  have u2 : W1.drew.cell? ⟨H1, 2, none⟩ = _ := r9.cell (k := 2) rfl
  have u3 : W1.drew.cell? ⟨H1, 3, none⟩ = _ := r9.cell (k := 3) rfl
  have u4 : W1.drew.cell? ⟨H1, 4, none⟩ = _ := r9.cell (k := 4) rfl
  have u5 : W1.drew.cell? ⟨H1, 5, none⟩ = _ := r9.cell (k := 5) rfl
  have v3 : W1.drew.cell? ⟨w.heap.size + 1 + 1 + 1, 3, none⟩ = _ := r3.cell (k := 3) rfl
  have v4 : W1.drew.cell? ⟨w.heap.size + 1 + 1 + 1, 4, none⟩ = _ := r3.cell (k := 4) rfl
  have AC' : ∀ w', G.Sides [] W1.drew w' → _ := fun w' h => AC w' (hb.drew.trans (h.below.mono hb.size)) ((Cps.one r5.drew).keep h.below) ((Cps.one r6.drew).keep h.below)
  refine G.pool_list (W := W1) [] [.val (.bool true),
      .val (.bool true),
      .val (.agg #[.string cx, .int .u64 (px b), .int .u64 (py b), .bool (pb b), .slice (some ⟨h1, 0, none⟩) 1 1, .slice (some ⟨h2, 0, none⟩) 1 1]),
      .val (.agg #[.int .u64 (px gG), .int .u64 (py gG), .bool (pb gG)]),
      .val (.pointer (some ⟨w.heap.size + 1 + 1 + 1, 3, none⟩)),
      .val (.agg #[.int .u64 c]),
      .val (.pointer (some ⟨w.heap.size + 1 + 1 + 1, 4, none⟩)),
      .val (.agg #[.int .u64 s]),
      .val (.bool ok),
      .val (.bool (!ok)),
      .val (.bool (!ok))] [[10], [26], [9], [], [7], [30], [7], [32], [28, 29, 31, 33], [34], [27, 35]] (fun f => [(some 26, .bool true), (some 27, .bool true), (some 28, .agg #[.string cx, .int .u64 (px b), .int .u64 (py b), .bool (pb b), .slice (some ⟨h1, 0, none⟩) 1 1, .slice (some ⟨h2, 0, none⟩) 1 1]), (some 29, .agg #[.int .u64 (px gG), .int .u64 (py gG), .bool (pb gG)]), (some 30, .pointer (some ⟨w.heap.size + 1 + 1 + 1, 3, none⟩)), (some 31, .agg #[.int .u64 c]), (some 32, .pointer (some ⟨w.heap.size + 1 + 1 + 1, 4, none⟩)), (some 33, .agg #[.int .u64 s]), (some 34, .bool ok), (some 35, .bool (!ok)), (some 36, .bool (!ok))]) (by kernel_rfl) (by kernel_rfl) (by kernel_rfl) (by kernel_rfl) (fun _ => by kernel_rfl) (G.last_of [] (fun F R hm => by simp at hm) (fun ob ob' k hm => by simp at hm) (fun b ob ob' hm => by simp at hm)) (fun b ob ob' hm => by simp at hm) ?_ ?_
  · intro ix hix
    match ix, hix with
    | 0, _ => exact G.ob_val [(10, .bool true)] rfl rfl (fun _ => by kernel_rfl) (fun A w ⟨e0, _⟩ hB => doV_move e0)
    | 1, _ => exact G.ob_val [(26, .bool true)] rfl rfl (fun _ => by kernel_rfl) (fun A w ⟨e0, _⟩ hB => doV_move e0)
    | 2, _ => exact G.ob_val [(9, .pointer (some ⟨H1, 0, none⟩))] rfl rfl (fun _ => by kernel_rfl) (fun A w ⟨e0, _⟩ hB => ld_bat e0 (hB.cell u0 (by simp)) (hB.cell u1 (by simp)) (hB.cell u2 (by simp)) (hB.cell u3 (by simp)) (hB.cell u4 (by simp)) (hB.cell u5 (by simp)))
    | 3, _ => exact G.ob_val [] rfl rfl (fun _ => by kernel_rfl) (fun A w _ hB => cl0 cf_impl_basePoint  (bspI w))
    | 4, _ => exact G.ob_val [(7, .pointer (some ⟨w.heap.size + 1 + 1 + 1, 0, none⟩))] rfl rfl (fun _ => by kernel_rfl) (fun A w ⟨e0, _⟩ hB => fa_evn1 e0)
    | 5, _ => exact G.ob_val [(30, .pointer (some ⟨w.heap.size + 1 + 1 + 1, 3, none⟩))] rfl rfl (fun _ => by kernel_rfl) (fun A w ⟨e0, _⟩ hB => ld_nN e0 (hB.cell v3 (by simp)))
    | 6, _ => exact G.ob_val [(7, .pointer (some ⟨w.heap.size + 1 + 1 + 1, 0, none⟩))] rfl rfl (fun _ => by kernel_rfl) (fun A w ⟨e0, _⟩ hB => fa_evn2 e0)
    | 7, _ => exact G.ob_val [(32, .pointer (some ⟨w.heap.size + 1 + 1 + 1, 4, none⟩))] rfl rfl (fun _ => by kernel_rfl) (fun A w ⟨e0, _⟩ hB => ld_nN e0 (hB.cell v4 (by simp)))
    | 8, _ => exact G.ob_val [(28, .agg #[.string cx, .int .u64 (px b), .int .u64 (py b), .bool (pb b), .slice (some ⟨h1, 0, none⟩) 1 1, .slice (some ⟨h2, 0, none⟩) 1 1]), (29, .agg #[.int .u64 (px gG), .int .u64 (py gG), .bool (pb gG)]), (31, .agg #[.int .u64 c]), (33, .agg #[.int .u64 s])] rfl rfl (fun _ => by kernel_rfl) (fun A w ⟨e0, e1, e2, e3, _⟩ hB => cl4 cf_impl_batch_accepts e0 e1 e2 e3 (AC' w hB))
    | 9, _ => exact G.ob_val [(34, .bool ok)] rfl rfl (fun _ => by kernel_rfl) (fun A w ⟨e0, _⟩ hB => not_b e0)
    | 10, _ => exact G.ob_val [(27, .bool true), (35, .bool (!ok))] rfl rfl (fun _ => by kernel_rfl) (fun A w ⟨e0, e1, _⟩ hB => Z.pkT e0 e1)
    | ix + 11, h => exact absurd h (by simp)
  intro f W3 hS _ _ _ _
  have hb3 : Below W1.heap.size W1 W3 := (Below.refl _ W1).drew.trans hS.below
  replace hb := hb.trans (hb3.mono hb.size)
  clear hS hb3 AC AC' u0 u1 u2 u3 u4 u5 v3 v4 r3 r5 r6 r9
  simp only [puts, List.foldl, Act.put, List.setIfInBounds_toArray, List.set_cons_zero, List.set_cons_succ]
  have g3 := (hs.keep hb).c3
  cases ok with
  | true =>
    go_wp2
    go_ret
    exact ⟨rfl, hb⟩
  | false =>
    go_wp2
    go_ret
    exact ⟨rfl, hb⟩
end
end Go.Proofs.YtjmhmajfkdglnaaGreatDoor
