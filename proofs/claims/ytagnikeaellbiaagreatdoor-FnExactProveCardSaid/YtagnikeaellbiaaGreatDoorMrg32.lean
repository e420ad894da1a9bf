import Derived.Test.YtagnikeaellbiaaGreatDoorMrg31
import Derived.Test.YtagnikeaellbiaaGreatDoorMrg23
import Derived.Test.YtagnikeaellbiaaGreatDoorMrg22
/-
  The program's weighted sum.
-/
namespace Go.Proofs.YtagnikeaellbiaaGreatDoor
open Go.RowKit M
set_option linter.unusedVariables false

theorem T3.own' {W : World} {b : Nat} {x y z : Int} (h : T3 W b x y z) (o : Obj) : T3 (W.alloc o) b x y z := h.alloc o
set_option maxRecDepth 100000 in
set_option maxHeartbeats 4000000 in
theorem sumW_any (ws : List Int) (gw nw cw : Nat) (ps : List Pt) (n gp cp : Nat) (w : World) (hn : n ≤ 200) (hwl : n ≤ nw) (hws : ∀ i, i < n → 0 ≤ lk ws i ∧ lk ws i < 18446744073709551616)
    (hgw : gw < w.heap.size) (hwc : ∀ i, i < n → w.cell? ⟨gw, i, none⟩ = some (.int .u64 (lk ws i))) (hl : ps.length = n) (hon : ∀ p ∈ ps, on p) (hp : Cps w gp ps) :
    Calls Tryz.prog 56 #[.slice (some ⟨gw, 0, none⟩) nw cw, .slice (some ⟨gp, 0, none⟩) n cp] w fun e w' => e = .returned (.agg #[.int .u64 (px (mixTo ws ps n)), .int .u64 (py (mixTo ws ps n)), .bool (pb (mixTo ws ps n))]) ∧ Below w.heap.size w w' := by
  obtain ⟨MX, hMX⟩ : ∃ MX, Hid (MX = mixTo ws ps) := ⟨_, rfl⟩
  rw [← hMX.out]
  have hst : Hid (∀ j, j < n → ∃ (p : Pt) (k : Nat), ps[j]? = some p ∧ on p ∧ k < 18446744073709551616 ∧ lk ws j = (k : Int) ∧ MX (j + 1) = ad (MX j) (nt k p) ∧ on (MX j)) := fun j hj => by
    obtain ⟨p, hp⟩ : ∃ p, ps[j]? = some p := ⟨_, List.getElem?_eq_getElem (by omega)⟩
    have h1 := hws j hj
    refine ⟨p, (lk ws j).toNat, hp, hon p (List.mem_of_getElem? hp), by omega, by omega, ?_, ?_⟩
    · rw [hMX.out, mixTo]
      have e1 : ps.getD j none = p := by rw [List.getD_eq_getElem?_getD, hp]; rfl
      rw [e1]
    · rw [hMX.out]; exact mixTo_on hon j
  have hM0 : MX 0 = none := by rw [hMX.out]; rfl
  have hwc' : Hid (∀ i, i < n → w.cell? ⟨gw, i, none⟩ = some (.int .u64 (lk ws i))) := hwc
  clear hMX hws hwc hon
  have r4 := K3.new w 62 0 0 false
  have b4 := (Below.refl _ w).alloc (Nat.le_refl _) (Obj.cells #[.int .u64 0, .int .u64 0, .bool false] 62)
  have TN := triV none
  rw [ptW_eq] at TN
  change ∀ w, Calls _ _ #[.agg #[.int .u64 0, .int .u64 0, .bool true]] _ _ at TN
  go_enter Tryz.func56, Tryz.ntmps56
  go_wp2_with fail
  refine (zpP _).mono ?_
  rintro e w1 ⟨rfl, b1⟩
  replace r4 := r4.keep b1
  replace b4 := b4.trans (b1.mono b4.size)
  clear b1
  go_wp2_with fail
  refine (TN _).mono ?_
  rintro e w2 ⟨rfl, b2⟩
  replace r4 := (r4.keep b2).alloc (Obj.cells #[.int .u64 (fv (pX none)), .int .u64 (fv (pY none)), .int .u64 (fv (pZ none))] 117)
  replace b4 := b4.trans (b2.mono b4.size)
  have hs2 := b4.size
  replace b4 := b4.alloc b4.size (Obj.cells #[.int .u64 (fv (pX none)), .int .u64 (fv (pY none)), .int .u64 (fv (pZ none))] 117)
  have t5 := T3.new w2 (fv (pX none)) (fv (pY none)) (fv (pZ none))
  have hne : w.heap.size ≠ w2.heap.size := by have h1 := r4.lt; have h2 := b2.size; simp at h1; intro h; have := r4; unfold K3 at this; rw [h, heap_alloc_new] at this; cases this
  clear TN b2
  go_wp2
  generalize w2.heap.size = B5 at *
  go_loopw [12] (fun iv wr => ∃ (j : Nat) (q : Pt) (X Y Z : Fp), j ≤ n ∧ iv = .int .i64 (j : Int) ∧ Hid (q = MX j) ∧ Hid (rep X Y Z q) ∧ T3 wr B5 (fv X) (fv Y) (fv Z) ∧ K3 wr 62 w.heap.size 0 0 false ∧ Below w.heap.size w wr) (fun i _ => n - (intOf i).toNat)
  case atStart => exact ⟨0, none, pX none, pY none, pZ none, by omega, rfl, hM0.symm, rep_self none, t5, r4, b4⟩
  case round =>
    clear t5 r4 b4 hM0
    obtain ⟨j, q, X, Y, Z, hj, rfl, hq, hrep, t5, r4, hbl⟩ := hrel
    by_cases hlt : j < n
    · have hli : (j : Int) < (n : Int) := by omega
      obtain ⟨p, k, hpj, hop, hk, hlk, hnx, hoq⟩ := hst.out j hlt
      rw [← hq.out] at hnx hoq
      have pp := hp.below hbl hp.lt
      have c0 := pp.c0 j p hpj
      have c1 := pp.c1 j p hpj
      have c2 := pp.c2 j p hpj
      rw [Nat.zero_add] at c0 c1 c2
      have hr := trB_rep (t := (pX p, pY p, pZ p)) hop (rep_self p) (bitsF k (Lib.bitLen k) (Lib.bitLen k))
      rw [valB_all k (by omega)] at hr
      have K1 := triV p
      rw [ptW_eq] at K1
      have K2 := fun w => mulP (pX p) (pY p) (pZ p) k w hk _ rfl
      obtain ⟨T, hT⟩ : ∃ T, T = trB (pX p, pY p, pZ p) (bitsF k (Lib.bitLen k) (Lib.bitLen k)) := ⟨_, rfl⟩
      rw [← hT] at hr K2
      obtain ⟨tX, tY, tZ⟩ := T
      have K3' := trV X Y Z tX tY tZ
      have hrn : Hid (rep (cX X Y Z tX tY tZ) (cY X Y Z tX tY tZ) (cZ X Y Z tX tY tZ) (MX (j + 1))) := by
        simp only [Hid]
        rw [hnx]
        exact rep_c hoq (nt_on hop k) hrep.out hr
      dsimp only at K2
      generalize cX X Y Z tX tY tZ = NX at *
      generalize cY X Y Z tX tY tZ = NY at *
      generalize cZ X Y Z tX tY tZ = NZ at *
      have a0 := hwc'.out j hlt
      rw [hlk] at a0
      replace a0 := (hbl.cell (p := ⟨gw, j, none⟩) hgw).trans a0
      have hgw' : gw < wr.heap.size := Nat.lt_of_lt_of_le hgw hbl.size
      clear hT hr hrep hq hnx hoq hpj pp hlk hop
      go_wp2
      have hal := (Below.refl _ wr).alloc (Nat.le_refl _) (Obj.cells #[.int .u64 (px p), .int .u64 (py p), .bool (pb p)] 62)
      have rp := K3.new wr 62 (px p) (py p) (pb p)
      replace a0 := (hal.cell (p := ⟨gw, j, none⟩) hgw').trans a0
      replace t5 := t5.alloc (Obj.cells #[.int .u64 (px p), .int .u64 (py p), .bool (pb p)] 62)
      replace r4 := r4.alloc (Obj.cells #[.int .u64 (px p), .int .u64 (py p), .bool (pb p)] 62)
      replace hbl := hbl.trans (hal.mono hbl.size)
      clear c0 c1 c2 hal
      generalize wr.alloc (Obj.cells #[.int .u64 (px p), .int .u64 (py p), .bool (pb p)] 62) = W3 at *
      generalize wr.heap.size = B7 at *
      have w0 : W3.drew.cell? ⟨gw, 0 + j, none⟩ = some (.int .u64 (k : Int)) := by rw [Nat.zero_add]; exact a0
      have c0 : W3.drew.cell? ⟨B7, 0, none⟩ = _ := rp.c0
      have c1 : W3.drew.cell? ⟨B7, 1, none⟩ = _ := rp.c1
      have c2 : W3.drew.cell? ⟨B7, 2, none⟩ = _ := rp.c2
      have d0 : W3.drew.cell? ⟨B5, 0, none⟩ = _ := t5.c0
      have d1 : W3.drew.cell? ⟨B5, 1, none⟩ = _ := t5.c1
      have d2 : W3.drew.cell? ⟨B5, 2, none⟩ = _ := t5.c2
      refine pool_prT 10 [.val (.agg #[.int .u64 (fv X), .int .u64 (fv Y), .int .u64 (fv Z)]),
          .val (.agg #[.int .u64 (px p), .int .u64 (py p), .bool (pb p)]),
          .val (.agg #[.int .u64 (fv (pX p)), .int .u64 (fv (pY p)), .int .u64 (fv (pZ p))]),
          .val (.slice (some ⟨gw, 0, none⟩) nw cw),
          .val (.int .i64 (j : Int)),
          .val (.pointer (some ⟨gw, 0 + j, none⟩)),
          .val (.pointer (some ⟨gw, 0 + j, none⟩)),
          .val (.int .u64 (k : Int)),
          .val (.agg #[.int .u64 (fv tX), .int .u64 (fv tY), .int .u64 (fv tZ)]),
          .val (.agg #[.int .u64 (fv NX), .int .u64 (fv NY), .int .u64 (fv NZ)])] [[5], [7], [18], [0], [6], [20, 21], [22], [23], [19, 24], [17, 25]] (fun f => [(some 17, .agg #[.int .u64 (fv X), .int .u64 (fv Y), .int .u64 (fv Z)]), (some 18, .agg #[.int .u64 (px p), .int .u64 (py p), .bool (pb p)]), (some 19, .agg #[.int .u64 (fv (pX p)), .int .u64 (fv (pY p)), .int .u64 (fv (pZ p))]), (some 20, .slice (some ⟨gw, 0, none⟩) nw cw), (some 21, .int .i64 (j : Int)), (some 22, .pointer (some ⟨gw, 0 + j, none⟩)), (some 23, .pointer (some ⟨gw, 0 + j, none⟩)), (some 24, .int .u64 (k : Int)), (some 25, .agg #[.int .u64 (fv tX), .int .u64 (fv tY), .int .u64 (fv tZ)]), (some 26, .agg #[.int .u64 (fv NX), .int .u64 (fv NY), .int .u64 (fv NZ)])]) (by kernel_rfl) (by kernel_rfl) (by kernel_rfl) (by kernel_rfl) (by decide) (by kernel_rfl) (fun _ => by kernel_rfl) ?_ ?_
      · intro ix hix
        match ix, hix with
        | 0, _ => exact ob_val [(5, .pointer (some ⟨B5, 0, none⟩))] rfl rfl (fun _ => by kernel_rfl) (fun A w ⟨e0, _⟩ hB => ld_tr e0 (keepC d0 hB) (keepC d1 hB) (keepC d2 hB))
        | 1, _ => exact ob_val [(7, .pointer (some ⟨B7, 0, none⟩))] rfl rfl (fun _ => by kernel_rfl) (fun A w ⟨e0, _⟩ hB => ld_cp e0 (keepC c0 hB) (keepC c1 hB) (keepC c2 hB))
        | 2, _ => exact ob_val [(18, .agg #[.int .u64 (px p), .int .u64 (py p), .bool (pb p)])] rfl rfl (fun _ => by kernel_rfl) (fun A w ⟨e0, _⟩ hB => cl1 cf_impl_curvePoint_triple e0 (K1 w))
        | 3, _ => exact ob_val [(0, .slice (some ⟨gw, 0, none⟩) nw cw)] rfl rfl (fun _ => by kernel_rfl) (fun A w ⟨e0, _⟩ hB => doV_move e0)
        | 4, _ => exact ob_val [(6, .int .i64 (j : Int))] rfl rfl (fun _ => by kernel_rfl) (fun A w ⟨e0, _⟩ hB => doV_move e0)
        | 5, _ => exact ob_val [(20, .slice (some ⟨gw, 0, none⟩) nw cw), (21, .int .i64 (j : Int))] rfl rfl (fun _ => by kernel_rfl) (fun A w ⟨e0, e1, _⟩ hB => ix_nNs e0 e1 (by omega))
        | 6, _ => exact ob_val [(22, .pointer (some ⟨gw, 0 + j, none⟩))] rfl rfl (fun _ => by kernel_rfl) (fun A w ⟨e0, _⟩ hB => fa_nN1 e0)
        | 7, _ => exact ob_val [(23, .pointer (some ⟨gw, 0 + j, none⟩))] rfl rfl (fun _ => by kernel_rfl) (fun A w ⟨e0, _⟩ hB => ld_u64 e0 (keepC w0 hB))
        | 8, _ => exact ob_val [(19, .agg #[.int .u64 (fv (pX p)), .int .u64 (fv (pY p)), .int .u64 (fv (pZ p))]), (24, .int .u64 (k : Int))] rfl rfl (fun _ => by kernel_rfl) (fun A w ⟨e0, e1, _⟩ hB => cl2 cf_impl_triple_multiple e0 e1 (K2 w))
        | 9, _ => exact ob_val [(17, .agg #[.int .u64 (fv X), .int .u64 (fv Y), .int .u64 (fv Z)]), (25, .agg #[.int .u64 (fv tX), .int .u64 (fv tY), .int .u64 (fv tZ)])] rfl rfl (fun _ => by kernel_rfl) (fun A w ⟨e0, e1, _⟩ hB => cl2 cf_impl_triple_plus e0 e1 (K3' w))
        | ix + 10, h => exact absurd h (by simp)
      intro f W4 hb4 _ fuel hfuel
      have hb4' : Below W3.heap.size W3 W4 := (Below.refl _ W3).drew.trans hb4
      replace t5 := t5.keep hb4'
      replace r4 := r4.keep hb4'
      replace hbl := hbl.trans (hb4'.mono hbl.size)
      simp only [puts, List.foldl, Act.put, List.setIfInBounds_toArray, List.set_cons_zero, List.set_cons_succ]
      refine last_do1 10 hfuel (by kernel_rfl) (by kernel_rfl) rfl rfl ?_
      refine fun Q K hK => st_tr (z0 := fv NX) (z1 := fv NY) (z2 := fv NZ) rfl rfl t5 Q K (fun v w' e => hK v w' ?_)
      subst e
      have R1 := t5.set (fv NX) (fv NY) (fv NZ)
      have R2 : K3 (setT W4 B5 (fv NX) (fv NY) (fv NZ)) 62 w.heap.size 0 0 false := by
        unfold K3 setT
        rw [setCell_heap3 _ _ _ _ _ hne, setCell_heap3 _ _ _ _ _ hne, setCell_heap3 _ _ _ _ _ hne]; exact r4
      have R3' : Below w.heap.size w (setT W4 B5 (fv NX) (fv NY) (fv NZ)) := setT_below hbl hs2
      change Below w.heap.size w (((W4.setCell _ _).setCell _ _).setCell _ _) at R3'
      change T3 (((W4.setCell _ _).setCell _ _).setCell _ _) _ _ _ _ at R1
      change K3 (((W4.setCell _ _).setCell _ _).setCell _ _) _ _ _ _ _ at R2
      clear c0 c1 c2 d0 d1 d2 a0 w0 K1 K2 K3' hb4 hb4' t5 r4 hbl rp
      generalize ((W4.setCell _ _).setCell _ _).setCell _ _ = W5 at *
      go_wp2
      go_roundw
      case rel =>
        first
          | exact ⟨j + 1, MX (j + 1), NX, NY, NZ, by omega, by go_num, rfl, hrn, R1, R2, R3'⟩
          | ((repeat apply Exists.intro); exact ⟨⟨j + 1, MX (j + 1), NX, NY, NZ, by omega, by go_num, rfl, hrn, R1, R2, R3'⟩, rfl⟩)
      case measure => simp [intOf]; omega
    · obtain rfl : j = n := by omega
      have hq' := hq.out
      subst hq'
      have P := pntV hrep.out
      rw [ptW_eq] at P
      have c0 := t5.c0
      have c1 := t5.c1
      have c2 := t5.c2
      clear hrep hst
      go_wp2_with fail
      refine (P _).mono ?_
      rintro e w6 ⟨rfl, b6⟩
      replace r4 := r4.keep b6
      replace hbl := hbl.trans (b6.mono hbl.size)
      clear c0 c1 c2 P
      have d0 := r4.c0
      have d1 := r4.c1
      have d2 := r4.c2
      have f0 := r4.frz
      go_wp2
      exact bodyPost_ret (v := .agg #[.int .u64 (px (MX j)), .int .u64 (py (MX j)), .bool (pb (MX j))]) (cp_res (fn := Tryz.f56) (p := 4) Tryz.results56 _ rfl (r4.set (px (MX j)) (py (MX j)) (pb (MX j)))) rfl ⟨rfl, set3_below hbl (Nat.le_refl _)⟩
end Go.Proofs.YtagnikeaellbiaaGreatDoor

/-
  The program's challenge and composites.
-/
namespace Go.Proofs.YtagnikeaellbiaaGreatDoor
open Go.RowKit M
set_option linter.unusedVariables false

set_option maxRecDepth 100000 in
set_option maxHeartbeats 4000000 in
theorem chlI_of (k : Nat) (b m z x y : Pt) (a1 : Option Addr) (n1 k1 : Nat) (a2 : Option Addr) (n2 k2 : Nat) (w : World) (hT : TabK w) (hk : k < 3) :
    Calls Tryz.prog 62 #[.agg #[.string (ctxB k), .int .u64 (px b), .int .u64 (py b), .bool (pb b), .slice a1 n1 k1, .slice a2 n2 k2], .agg #[.int .u64 (px m), .int .u64 (py m), .bool (pb m)], .agg #[.int .u64 (px z), .int .u64 (py z), .bool (pb z)], .agg #[.int .u64 (px x), .int .u64 (py x), .bool (pb x)], .agg #[.int .u64 (px y), .int .u64 (py y), .bool (pb y)]] w fun e w' => e = .returned (.agg #[.int .u64 (chal k b m z x y : Nat)]) ∧ Below w.heap.size w w' := by
  have hgw : 3 < w.heap.size := World.block_lt_of_cell? w _ (hT 0 (by omega))
  have hTX : (chalT b m z x y).size = 59 := by
    unfold chalT
    simp only [ByteArray.size_append, sizB_size, ptB_size]
    rw [show challB.size = 9 from rfl]
  have hWT : ∀ (i : Nat) (w : World), w.heap[i]? = some (.cells #[.iface 62 (.agg #[.int .u64 (px b), .int .u64 (py b), .bool (pb b)]), .iface 62 (.agg #[.int .u64 (px m), .int .u64 (py m), .bool (pb m)]), .iface 62 (.agg #[.int .u64 (px z), .int .u64 (py z), .bool (pb z)]), .iface 62 (.agg #[.int .u64 (px x), .int .u64 (py x), .bool (pb x)]), .iface 62 (.agg #[.int .u64 (px y), .int .u64 (py y), .bool (pb y)]), .iface 133 (.string challB)] 165) →
      Calls Tryz.prog 81 #[.string ⟨#[]⟩, .slice (some ⟨i, 0, none⟩) 6 6] w fun e w' => e = .returned (.string (chalT b m z x y)) ∧ Below w.heap.size w w' := fun i w hr => by
    have e : catA ⟨#[]⟩ [sizB (ptB b), sizB (ptB m), sizB (ptB z), sizB (ptB x), sizB (ptB y), challB] = chalT b m z x y := by
      show (⟨#[]⟩ : ByteArray) ++ sizB (ptB b) ++ sizB (ptB m) ++ sizB (ptB z) ++ sizB (ptB x) ++ sizB (ptB y) ++ challB = _
      rw [eml]; rfl
    have := with_blk ⟨#[]⟩ [(.iface 62 (.agg #[.int .u64 (px b), .int .u64 (py b), .bool (pb b)]), sizB (ptB b)), (.iface 62 (.agg #[.int .u64 (px m), .int .u64 (py m), .bool (pb m)]), sizB (ptB m)), (.iface 62 (.agg #[.int .u64 (px z), .int .u64 (py z), .bool (pb z)]), sizB (ptB z)), (.iface 62 (.agg #[.int .u64 (px x), .int .u64 (py x), .bool (pb x)]), sizB (ptB x)), (.iface 62 (.agg #[.int .u64 (px y), .int .u64 (py y), .bool (pb y)]), sizB (ptB y)), (.iface 133 (.string challB), challB)] i 6 _ _ w hr rfl rfl (by omega) (by
      intro vs hvs
      simp only [List.mem_cons, List.not_mem_nil, or_false] at hvs
      rcases hvs with rfl | rfl | rfl | rfl | rfl | rfl
      · exact writC b
      · exact writC m
      · exact writC z
      · exact writC x
      · exact writC y
      · exact writP challB) (by
        show (catA ⟨#[]⟩ [sizB (ptB b), sizB (ptB m), sizB (ptB z), sizB (ptB x), sizB (ptB y), challB]).size ≤ _
        rw [e, hTX]; decide)
    change Calls _ _ _ _ (fun e w' => e = .returned (.string (catA ⟨#[]⟩ [sizB (ptB b), sizB (ptB m), sizB (ptB z), sizB (ptB x), sizB (ptB y), challB])) ∧ _) at this
    rw [e] at this
    exact this
  have hSC : ∀ w : World, TabK w → Calls Tryz.prog 83 #[.string (ctxB k), .string (chalT b m z x y)] w fun e w' => e = .returned (.agg #[.int .u64 (chal k b m z x y : Nat)]) ∧ Below w.heap.size w w' := fun w hT => scaI_any _ k w hT hk (by rw [hTX]; omega)
  generalize ((chal k b m z x y : Nat) : Int) = c at *
  generalize chalT b m z x y = TXT at *
  obtain ⟨X, hX⟩ : ∃ X, X = (((((w.alloc (Obj.cells #[.string (ctxB k), .int .u64 (px b), .int .u64 (py b), .bool (pb b), .slice a1 n1 k1, .slice a2 n2 k2] 65)).alloc (Obj.cells #[.int .u64 (px m), .int .u64 (py m), .bool (pb m)] 62)).alloc (Obj.cells #[.int .u64 (px z), .int .u64 (py z), .bool (pb z)] 62)).alloc (Obj.cells #[.int .u64 (px x), .int .u64 (py x), .bool (pb x)] 62)).alloc (Obj.cells #[.int .u64 (px y), .int .u64 (py y), .bool (pb y)] 62)).alloc (Obj.cells #[.int .u64 0] 77) := ⟨_, rfl⟩
  have r0 : B6 X w.heap.size (ctxB k) (px b) (py b) (pb b) a1 n1 k1 a2 n2 k2 := by rw [hX]; exact (((((B6.new _ _ _ _ _ _ _ _ _ _ _).alloc _).alloc _).alloc _).alloc _).alloc _
  have r1 : K3 X 62 (w.heap.size + 1) (px m) (py m) (pb m) := by rw [hX]; exact (((((K3.new _ _ _ _ _).at (by simp)).alloc _).alloc _).alloc _).alloc _
  have r2 : K3 X 62 (w.heap.size + 1 + 1) (px z) (py z) (pb z) := by rw [hX]; exact ((((K3.new _ _ _ _ _).at (by simp)).alloc _).alloc _).alloc _
  have r3 : K3 X 62 (w.heap.size + 1 + 1 + 1) (px x) (py x) (pb x) := by rw [hX]; exact (((K3.new _ _ _ _ _).at (by simp)).alloc _).alloc _
  have r4 : K3 X 62 (w.heap.size + 1 + 1 + 1 + 1) (px y) (py y) (pb y) := by rw [hX]; exact ((K3.new _ _ _ _ _).at (by simp)).alloc _
  have r5 : RN X (w.heap.size + 1 + 1 + 1 + 1 + 1) 0 := by rw [hX]; unfold RN; have := heap_alloc_new (((((w.alloc (Obj.cells #[.string (ctxB k), .int .u64 (px b), .int .u64 (py b), .bool (pb b), .slice a1 n1 k1, .slice a2 n2 k2] 65)).alloc (Obj.cells #[.int .u64 (px m), .int .u64 (py m), .bool (pb m)] 62)).alloc (Obj.cells #[.int .u64 (px z), .int .u64 (py z), .bool (pb z)] 62)).alloc (Obj.cells #[.int .u64 (px x), .int .u64 (py x), .bool (pb x)] 62)).alloc (Obj.cells #[.int .u64 (px y), .int .u64 (py y), .bool (pb y)] 62)) (Obj.cells #[.int .u64 0] 77); simpa using this
  have hb : Below w.heap.size w X := by
    rw [hX]
    exact ((((((Below.refl _ w).alloc (Nat.le_refl _) _).alloc (by simp) _).alloc (by simp; omega) _).alloc (by simp; omega) _).alloc (by simp; omega) _).alloc (by simp; omega) _
  go_enter Tryz.func62, Tryz.ntmps62
  go_wp2
  rw [← hX]
  clear hX
  have hT1 : TabK X.drew := fun i hi => (hb.cell (p := ⟨3, i, none⟩) hgw).trans (hT i hi)
  have hg1 : 3 < X.drew.heap.size := Nat.lt_of_lt_of_le hgw hb.size
  have s0 : X.drew.cell? ⟨w.heap.size, 0, none⟩ = _ := r0.c0
  have a0 : X.drew.cell? ⟨w.heap.size, 1, none⟩ = _ := r0.c1
  have a1' : X.drew.cell? ⟨w.heap.size, 2, none⟩ = _ := r0.c2
  have a2' : X.drew.cell? ⟨w.heap.size, 3, none⟩ = _ := r0.c3
  have b0 : X.drew.cell? ⟨w.heap.size + 1, 0, none⟩ = _ := r1.c0
  have b1 : X.drew.cell? ⟨w.heap.size + 1, 1, none⟩ = _ := r1.c1
  have b2 : X.drew.cell? ⟨w.heap.size + 1, 2, none⟩ = _ := r1.c2
  have c0 : X.drew.cell? ⟨w.heap.size + 1 + 1, 0, none⟩ = _ := r2.c0
  have c1 : X.drew.cell? ⟨w.heap.size + 1 + 1, 1, none⟩ = _ := r2.c1
  have c2 : X.drew.cell? ⟨w.heap.size + 1 + 1, 2, none⟩ = _ := r2.c2
  have d0 : X.drew.cell? ⟨w.heap.size + 1 + 1 + 1, 0, none⟩ = _ := r3.c0
  have d1 : X.drew.cell? ⟨w.heap.size + 1 + 1 + 1, 1, none⟩ = _ := r3.c1
  have d2 : X.drew.cell? ⟨w.heap.size + 1 + 1 + 1, 2, none⟩ = _ := r3.c2
  have e0' : X.drew.cell? ⟨w.heap.size + 1 + 1 + 1 + 1, 0, none⟩ = _ := r4.c0
  have e1' : X.drew.cell? ⟨w.heap.size + 1 + 1 + 1 + 1, 1, none⟩ = _ := r4.c1
  have e2' : X.drew.cell? ⟨w.heap.size + 1 + 1 + 1 + 1, 2, none⟩ = _ := r4.c2
  refine pool_prT 17 [.val (.pointer (some ⟨w.heap.size, 0, none⟩)),
      .val (.string (ctxB k)),
      .val (.pointer (some ⟨w.heap.size, 1, none⟩)),
      .val (.agg #[.int .u64 (px b), .int .u64 (py b), .bool (pb b)]),
      .val (.iface 62 (.agg #[.int .u64 (px b), .int .u64 (py b), .bool (pb b)])),
      .val (.agg #[.int .u64 (px m), .int .u64 (py m), .bool (pb m)]),
      .val (.iface 62 (.agg #[.int .u64 (px m), .int .u64 (py m), .bool (pb m)])),
      .val (.agg #[.int .u64 (px z), .int .u64 (py z), .bool (pb z)]),
      .val (.iface 62 (.agg #[.int .u64 (px z), .int .u64 (py z), .bool (pb z)])),
      .val (.agg #[.int .u64 (px x), .int .u64 (py x), .bool (pb x)]),
      .val (.iface 62 (.agg #[.int .u64 (px x), .int .u64 (py x), .bool (pb x)])),
      .val (.agg #[.int .u64 (px y), .int .u64 (py y), .bool (pb y)]),
      .val (.iface 62 (.agg #[.int .u64 (px y), .int .u64 (py y), .bool (pb y)])),
      .val (.iface 133 (.string challB)),
      .new (.cells #[.iface 62 (.agg #[.int .u64 (px b), .int .u64 (py b), .bool (pb b)]), .iface 62 (.agg #[.int .u64 (px m), .int .u64 (py m), .bool (pb m)]), .iface 62 (.agg #[.int .u64 (px z), .int .u64 (py z), .bool (pb z)]), .iface 62 (.agg #[.int .u64 (px x), .int .u64 (py x), .bool (pb x)]), .iface 62 (.agg #[.int .u64 (px y), .int .u64 (py y), .bool (pb y)]), .iface 133 (.string challB)] 165) (.cells #[.iface 62 (.agg #[.int .u64 (px b), .int .u64 (py b), .bool (pb b)]), .iface 62 (.agg #[.int .u64 (px m), .int .u64 (py m), .bool (pb m)]), .iface 62 (.agg #[.int .u64 (px z), .int .u64 (py z), .bool (pb z)]), .iface 62 (.agg #[.int .u64 (px x), .int .u64 (py x), .bool (pb x)]), .iface 62 (.agg #[.int .u64 (px y), .int .u64 (py y), .bool (pb y)]), .iface 133 (.string challB)] 165) 1006,
      .val (.string TXT),
      .val (.agg #[.int .u64 c])] [[5], [11], [5], [13], [14], [6], [16], [7], [18], [8], [20], [9], [22], [], [15, 17, 19, 21, 23, 24], [25], [12, 26]] (fun f => [(some 11, .pointer (some ⟨w.heap.size, 0, none⟩)), (some 12, .string (ctxB k)), (some 13, .pointer (some ⟨w.heap.size, 1, none⟩)), (some 14, .agg #[.int .u64 (px b), .int .u64 (py b), .bool (pb b)]), (some 15, .iface 62 (.agg #[.int .u64 (px b), .int .u64 (py b), .bool (pb b)])), (some 16, .agg #[.int .u64 (px m), .int .u64 (py m), .bool (pb m)]), (some 17, .iface 62 (.agg #[.int .u64 (px m), .int .u64 (py m), .bool (pb m)])), (some 18, .agg #[.int .u64 (px z), .int .u64 (py z), .bool (pb z)]), (some 19, .iface 62 (.agg #[.int .u64 (px z), .int .u64 (py z), .bool (pb z)])), (some 20, .agg #[.int .u64 (px x), .int .u64 (py x), .bool (pb x)]), (some 21, .iface 62 (.agg #[.int .u64 (px x), .int .u64 (py x), .bool (pb x)])), (some 22, .agg #[.int .u64 (px y), .int .u64 (py y), .bool (pb y)]), (some 23, .iface 62 (.agg #[.int .u64 (px y), .int .u64 (py y), .bool (pb y)])), (some 24, .iface 133 (.string challB)), (some 25, .slice (some ⟨f 14, 0, none⟩) 6 6), (some 26, .string TXT), (some 27, .agg #[.int .u64 c])]) (by kernel_rfl) (by kernel_rfl) (by kernel_rfl) (by kernel_rfl) (by decide) (by kernel_rfl) (fun _ => by kernel_rfl) ?_ ?_
  · intro ix hix
    match ix, hix with
    | 0, _ => exact ob_val [(5, .pointer (some ⟨w.heap.size, 0, none⟩))] rfl rfl (fun _ => by kernel_rfl) (fun A w ⟨e0, _⟩ hB => fa_bat0 e0)
    | 1, _ => exact ob_val [(11, .pointer (some ⟨w.heap.size, 0, none⟩))] rfl rfl (fun _ => by kernel_rfl) (fun A w ⟨e0, _⟩ hB => ld_ctx e0 (keepC s0 hB))
    | 2, _ => exact ob_val [(5, .pointer (some ⟨w.heap.size, 0, none⟩))] rfl rfl (fun _ => by kernel_rfl) (fun A w ⟨e0, _⟩ hB => fa_bat1 e0)
    | 3, _ => exact ob_val [(13, .pointer (some ⟨w.heap.size, 1, none⟩))] rfl rfl (fun _ => by kernel_rfl) (fun A w ⟨e0, _⟩ hB => ld_cp e0 (keepC a0 hB) (keepC a1' hB) (keepC a2' hB))
    | 4, _ => exact ob_val [(14, .agg #[.int .u64 (px b), .int .u64 (py b), .bool (pb b)])] rfl rfl (fun _ => by kernel_rfl) (fun A w ⟨e0, _⟩ hB => mi_cp e0)
    | 5, _ => exact ob_val [(6, .pointer (some ⟨w.heap.size + 1, 0, none⟩))] rfl rfl (fun _ => by kernel_rfl) (fun A w ⟨e0, _⟩ hB => ld_cp e0 (keepC b0 hB) (keepC b1 hB) (keepC b2 hB))
    | 6, _ => exact ob_val [(16, .agg #[.int .u64 (px m), .int .u64 (py m), .bool (pb m)])] rfl rfl (fun _ => by kernel_rfl) (fun A w ⟨e0, _⟩ hB => mi_cp e0)
    | 7, _ => exact ob_val [(7, .pointer (some ⟨w.heap.size + 1 + 1, 0, none⟩))] rfl rfl (fun _ => by kernel_rfl) (fun A w ⟨e0, _⟩ hB => ld_cp e0 (keepC c0 hB) (keepC c1 hB) (keepC c2 hB))
    | 8, _ => exact ob_val [(18, .agg #[.int .u64 (px z), .int .u64 (py z), .bool (pb z)])] rfl rfl (fun _ => by kernel_rfl) (fun A w ⟨e0, _⟩ hB => mi_cp e0)
    | 9, _ => exact ob_val [(8, .pointer (some ⟨w.heap.size + 1 + 1 + 1, 0, none⟩))] rfl rfl (fun _ => by kernel_rfl) (fun A w ⟨e0, _⟩ hB => ld_cp e0 (keepC d0 hB) (keepC d1 hB) (keepC d2 hB))
    | 10, _ => exact ob_val [(20, .agg #[.int .u64 (px x), .int .u64 (py x), .bool (pb x)])] rfl rfl (fun _ => by kernel_rfl) (fun A w ⟨e0, _⟩ hB => mi_cp e0)
    | 11, _ => exact ob_val [(9, .pointer (some ⟨w.heap.size + 1 + 1 + 1 + 1, 0, none⟩))] rfl rfl (fun _ => by kernel_rfl) (fun A w ⟨e0, _⟩ hB => ld_cp e0 (keepC e0' hB) (keepC e1' hB) (keepC e2' hB))
    | 12, _ => exact ob_val [(22, .agg #[.int .u64 (px y), .int .u64 (py y), .bool (pb y)])] rfl rfl (fun _ => by kernel_rfl) (fun A w ⟨e0, _⟩ hB => mi_cp e0)
    | 13, _ => exact ob_val [] rfl rfl (fun _ => by kernel_rfl) (fun A w _ hB => mi_plain rfl)
    | 14, _ => exact ob_slc 6 [(15, .iface 62 (.agg #[.int .u64 (px b), .int .u64 (py b), .bool (pb b)])), (17, .iface 62 (.agg #[.int .u64 (px m), .int .u64 (py m), .bool (pb m)])), (19, .iface 62 (.agg #[.int .u64 (px z), .int .u64 (py z), .bool (pb z)])), (21, .iface 62 (.agg #[.int .u64 (px x), .int .u64 (py x), .bool (pb x)])), (23, .iface 62 (.agg #[.int .u64 (px y), .int .u64 (py y), .bool (pb y)])), (24, .iface 133 (.string challB))] rfl rfl (fun _ => by kernel_rfl) (fun A w ⟨e0, e1, e2, e3, e4, e5, _⟩ => sl_parts6 e0 e1 e2 e3 e4 e5)
    | 15, _ => exact ob_use 25 14 1006 (.cells #[.iface 62 (.agg #[.int .u64 (px b), .int .u64 (py b), .bool (pb b)]), .iface 62 (.agg #[.int .u64 (px m), .int .u64 (py m), .bool (pb m)]), .iface 62 (.agg #[.int .u64 (px z), .int .u64 (py z), .bool (pb z)]), .iface 62 (.agg #[.int .u64 (px x), .int .u64 (py x), .bool (pb x)]), .iface 62 (.agg #[.int .u64 (px y), .int .u64 (py y), .bool (pb y)]), .iface 133 (.string challB)] 165) (fun f => [(25, .slice (some ⟨f 14, 0, none⟩) 6 6)]) rfl rfl (by decide) (by kernel_rfl) rfl (fun _ => by kernel_rfl) (fun f A w ⟨e0, _⟩ hB hr => cl2 cf_impl_transcript_with rfl e0 (hWT _ w hr))
    | 16, _ => exact ob_val [(12, .string (ctxB k)), (26, .string TXT)] rfl rfl (fun _ => by kernel_rfl) (fun A w ⟨e0, e1, _⟩ hB => cl2 cf_impl_context_scalar e0 e1 (hSC w (keepT hT1 hg1 hB)))
    | ix + 17, h => exact absurd h (by simp)
  intro f W3 hb3 _ fuel hfuel
  have hb3' : Below X.heap.size X W3 := (Below.refl _ X).drew.trans hb3
  have r6 := r5.keep hb3'
  have hb4 := hb.trans (hb3'.mono hb.size)
  clear s0 a0 a1' a2' b0 b1 b2 c0 c1 c2 d0 d1 d2 e0' e1' e2' r0 r1 r2 r3 r4 r5 hT1 hg1 hb hb3 hb3' hWT hSC
  simp only [puts, List.foldl, Act.put, List.setIfInBounds_toArray, List.set_cons_zero, List.set_cons_succ]
  refine last_do1 17 hfuel (by kernel_rfl) (by kernel_rfl) rfl rfl ?_
  refine fun Q K hK => st_nN (z0 := c) rfl rfl r6 Q K (fun v w' e => hK v w' ?_)
  subst e
  go_wp2
  exact bodyPost_ret (v := .agg #[.int .u64 c]) (rn_res (fn := Tryz.f62) (p := 10) Tryz.results62 _ rfl (r6.set c)) rfl ⟨rfl, hb4.setCell (p := ⟨w.heap.size + 1 + 1 + 1 + 1 + 1, 0, none⟩) (show w.heap.size ≤ w.heap.size + 1 + 1 + 1 + 1 + 1 by omega) _⟩
theorem wgts_in' (k : Nat) (b : Pt) (cs ds : List Pt) (n i : Nat) (hi : i < n) : 0 ≤ lk (wgts k b cs ds n) i ∧ lk (wgts k b cs ds n) i < 18446744073709551616 := by
  rw [wgts_at k b cs ds n i hi]
  have := scaN_lt (wgtT k b i (cs.getD i none) (ds.getD i none)) k
  unfold wgt
  omega
theorem cp2_res {W : World} {b b2 : Nat} {x y x2 y2 : Int} {c c2 : Bool} {fn : Func} {p p2 : Tmp} (h : fn.results = #[.cell p 62, .cell p2 62]) (tmps : Array Value) (hp : tmps.getD p undef = .pointer (some ⟨b, 0, none⟩)) (hp2 : tmps.getD p2 undef = .pointer (some ⟨b2, 0, none⟩)) (hc : K3 W 62 b x y c) (hc2 : K3 W 62 b2 x2 y2 c2) :
    (results fn tmps).run Tryz.prog W = .ok (.tuple #[.agg #[.int .u64 x, .int .u64 y, .bool c], .agg #[.int .u64 x2, .int .u64 y2, .bool c2]]) W := by
  have hp' : tmps[p]?.getD undef = .pointer (some ⟨b, 0, none⟩) := by simpa using hp
  have hp2' : tmps[p2]?.getD undef = .pointer (some ⟨b2, 0, none⟩) := by simpa using hp2
  simp [results, h, hp', hp2', asAddr, run_loadVar_mid W b 0 62 [.int .u64 x, .int .u64 y, .bool c] _ hc.range Tryz.underlying62 rfl (by kernel_rfl), run_loadVar_mid W b2 0 62 [.int .u64 x2, .int .u64 y2, .bool c2] _ hc2.range Tryz.underlying62 rfl (by kernel_rfl)]
set_option maxRecDepth 100000 in
set_option maxHeartbeats 4000000 in
theorem cmpI_any (k n g1 k1 g2 k2 : Nat) (b : Pt) (cs ds : List Pt) (w : World) (hT : TabK w) (hk : k < 3) (h1 : 1 ≤ n) (hn : n ≤ 200) (hlc : cs.length = n) (hld : ds.length = n) (hoc : ∀ p ∈ cs, on p) (hod : ∀ p ∈ ds, on p) (hc : Cps w g1 cs) (hd : Cps w g2 ds) :
    Calls Tryz.prog 32 #[.agg #[.string (ctxB k), .int .u64 (px b), .int .u64 (py b), .bool (pb b), .slice (some ⟨g1, 0, none⟩) n k1, .slice (some ⟨g2, 0, none⟩) n k2]] w fun e w' => e = .returned (.tuple #[ptW (mixTo (wgts k b cs ds n) cs n), ptW (mixTo (wgts k b cs ds n) ds n)]) ∧ Below w.heap.size w w' := by
  rw [ptW_eq, ptW_eq]
  have hgw : 3 < w.heap.size := World.block_lt_of_cell? w _ (hT 0 (by omega))
  obtain ⟨mC, hmC⟩ : ∃ q, q = mixTo (wgts k b cs ds n) cs n := ⟨_, rfl⟩
  obtain ⟨mD, hmD⟩ : ∃ q, q = mixTo (wgts k b cs ds n) ds n := ⟨_, rfl⟩
  rw [← hmC, ← hmD]
  have hWt := fun w' hb => wgtI_of k n g1 k1 g2 k2 b cs ds w' (keepT hT hgw hb) hk h1 hn hlc hld (hc.below (B := w.heap.size) hb hc.lt) (hd.below (B := w.heap.size) hb hd.lt)
  have M1 : ∀ g cap w', Below w.heap.size w w' → g < w'.heap.size → (∀ i, i < n → w'.cell? ⟨g, i, none⟩ = some (.int .u64 (lk (wgts k b cs ds n) i))) → Calls Tryz.prog 56 #[.slice (some ⟨g, 0, none⟩) n cap, .slice (some ⟨g1, 0, none⟩) n k1] w' fun e w'' => e = .returned (.agg #[.int .u64 (px mC), .int .u64 (py mC), .bool (pb mC)]) ∧ Below w'.heap.size w' w'' := fun g cap w' hb hg hcl => by
    rw [hmC]
    exact sumW_any _ g n cap cs n g1 k1 w' hn (Nat.le_refl _) (fun i hi => wgts_in' k b cs ds n i hi) hg hcl hlc hoc (hc.below hb hc.lt)
  have M2 : ∀ g cap w', Below w.heap.size w w' → g < w'.heap.size → (∀ i, i < n → w'.cell? ⟨g, i, none⟩ = some (.int .u64 (lk (wgts k b cs ds n) i))) → Calls Tryz.prog 56 #[.slice (some ⟨g, 0, none⟩) n cap, .slice (some ⟨g2, 0, none⟩) n k2] w' fun e w'' => e = .returned (.agg #[.int .u64 (px mD), .int .u64 (py mD), .bool (pb mD)]) ∧ Below w'.heap.size w' w'' := fun g cap w' hb hg hcl => by
    rw [hmD]
    exact sumW_any _ g n cap ds n g2 k2 w' hn (Nat.le_refl _) (fun i hi => wgts_in' k b cs ds n i hi) hg hcl hld hod (hd.below hb hd.lt)
  have hcel : ∀ (W : World) (g cap : Nat), W.ownsRow w.heap.size 77 1 (.slice (some ⟨g, 0, none⟩) n cap) n ((wgts k b cs ds n).map (Value.int .u64)) → g < W.heap.size ∧ ∀ i, i < n → W.cell? ⟨g, i, none⟩ = some (.int .u64 (lk (wgts k b cs ds n) i)) := fun W g cap h => ⟨(h.lt g rfl).2, fun i hi => own_cell h i hi⟩
  generalize wgts k b cs ds n = ws at *
  clear hmC hmD
  obtain ⟨X, hX⟩ : ∃ X, X = ((w.alloc (Obj.cells #[.string (ctxB k), .int .u64 (px b), .int .u64 (py b), .bool (pb b), .slice (some ⟨g1, 0, none⟩) n k1, .slice (some ⟨g2, 0, none⟩) n k2] 65)).alloc (Obj.cells #[.int .u64 0, .int .u64 0, .bool false] 62)).alloc (Obj.cells #[.int .u64 0, .int .u64 0, .bool false] 62) := ⟨_, rfl⟩
  have r0 : B6 X w.heap.size (ctxB k) (px b) (py b) (pb b) (some ⟨g1, 0, none⟩) n k1 (some ⟨g2, 0, none⟩) n k2 := by rw [hX]; exact ((B6.new _ _ _ _ _ _ _ _ _ _ _).alloc _).alloc _
  have r1 : K3 X 62 (w.heap.size + 1) 0 0 false := by rw [hX]; exact ((K3.new _ _ _ _ _).at (by simp)).alloc _
  have r2 : K3 X 62 (w.heap.size + 1 + 1) 0 0 false := by rw [hX]; exact (K3.new _ _ _ _ _).at (by simp)
  have hb : Below w.heap.size w X := by rw [hX]; exact (((Below.refl _ w).alloc (Nat.le_refl _) _).alloc (by simp) _).alloc (by simp; omega) _
  rw [hX] at r0 r1 r2 hb
  clear hX
  go_enter Tryz.func32, Tryz.ntmps32
  go_wp2_with fail
  refine (hWt _ hb).mono ?_
  rintro e w1 ⟨g, cap, rfl, hown, b1⟩
  have hown' : w1.ownsRow w.heap.size 77 1 (.slice (some ⟨g, 0, none⟩) n cap) n (ws.map (Value.int .u64)) := hown.mono hb.size
  replace r0 := r0.keep b1
  replace r1 := r1.keep b1
  replace r2 := r2.keep b1
  replace hb := hb.trans (b1.mono hb.size)
  obtain ⟨hgl, hcl⟩ := hcel w1 g cap hown'
  clear hown hown' hcel hWt b1
  have hcl' : Hid (∀ i, i < n → w1.cell? ⟨g, i, none⟩ = some (.int .u64 (lk ws i))) := hcl
  clear hcl
  go_wp2
  have s4 : w1.drew.cell? ⟨w.heap.size, 4, none⟩ = _ := r0.c4
  have s5 : w1.drew.cell? ⟨w.heap.size, 5, none⟩ = _ := r0.c5
  have N1 : ∀ w', Below w1.drew.heap.size w1.drew w' → Calls Tryz.prog 56 #[.slice (some ⟨g, 0, none⟩) n cap, .slice (some ⟨g1, 0, none⟩) n k1] w' fun e w'' => e = .returned (.agg #[.int .u64 (px mC), .int .u64 (py mC), .bool (pb mC)]) ∧ Below w'.heap.size w' w'' := fun w' hB =>
    M1 g cap w' (hb.drew.trans (hB.mono hb.size)) (Nat.lt_of_lt_of_le hgl hB.size) (fun i hi => (hB.cell (p := ⟨g, i, none⟩) hgl).trans (hcl'.out i hi))
  have N2 : ∀ w', Below w1.drew.heap.size w1.drew w' → Calls Tryz.prog 56 #[.slice (some ⟨g, 0, none⟩) n cap, .slice (some ⟨g2, 0, none⟩) n k2] w' fun e w'' => e = .returned (.agg #[.int .u64 (px mD), .int .u64 (py mD), .bool (pb mD)]) ∧ Below w'.heap.size w' w'' := fun w' hB =>
    M2 g cap w' (hb.drew.trans (hB.mono hb.size)) (Nat.lt_of_lt_of_le hgl hB.size) (fun i hi => (hB.cell (p := ⟨g, i, none⟩) hgl).trans (hcl'.out i hi))
  clear M1 M2
  refine pool_prT 8 [.val (.slice (some ⟨g, 0, none⟩) n cap),
      .val (.pointer (some ⟨w.heap.size, 4, none⟩)),
      .val (.slice (some ⟨g1, 0, none⟩) n k1),
      .val (.agg #[.int .u64 (px mC), .int .u64 (py mC), .bool (pb mC)]),
      .val (.slice (some ⟨g, 0, none⟩) n cap),
      .val (.pointer (some ⟨w.heap.size, 5, none⟩)),
      .val (.slice (some ⟨g2, 0, none⟩) n k2),
      .val (.agg #[.int .u64 (px mD), .int .u64 (py mD), .bool (pb mD)])] [[4], [1], [8], [7, 9], [4], [1], [12], [11, 13]] (fun f => [(some 7, .slice (some ⟨g, 0, none⟩) n cap), (some 8, .pointer (some ⟨w.heap.size, 4, none⟩)), (some 9, .slice (some ⟨g1, 0, none⟩) n k1), (some 10, .agg #[.int .u64 (px mC), .int .u64 (py mC), .bool (pb mC)]), (some 11, .slice (some ⟨g, 0, none⟩) n cap), (some 12, .pointer (some ⟨w.heap.size, 5, none⟩)), (some 13, .slice (some ⟨g2, 0, none⟩) n k2), (some 14, .agg #[.int .u64 (px mD), .int .u64 (py mD), .bool (pb mD)])]) (by kernel_rfl) (by kernel_rfl) (by kernel_rfl) (by kernel_rfl) (by decide) (by kernel_rfl) (fun _ => by kernel_rfl) ?_ ?_
  · intro ix hix
    match ix, hix with
    | 0, _ => exact ob_val [(4, .slice (some ⟨g, 0, none⟩) n cap)] rfl rfl (fun _ => by kernel_rfl) (fun A w ⟨e0, _⟩ hB => doV_move e0)
    | 1, _ => exact ob_val [(1, .pointer (some ⟨w.heap.size, 0, none⟩))] rfl rfl (fun _ => by kernel_rfl) (fun A w ⟨e0, _⟩ hB => fa_bat2 e0)
    | 2, _ => exact ob_val [(8, .pointer (some ⟨w.heap.size, 4, none⟩))] rfl rfl (fun _ => by kernel_rfl) (fun A w ⟨e0, _⟩ hB => ld_cpsl e0 (keepC s4 hB))
    | 3, _ => exact ob_val [(7, .slice (some ⟨g, 0, none⟩) n cap), (9, .slice (some ⟨g1, 0, none⟩) n k1)] rfl rfl (fun _ => by kernel_rfl) (fun A w ⟨e0, e1, _⟩ hB => cl2 cf_impl_weighted e0 e1 (N1 w hB))
    | 4, _ => exact ob_val [(4, .slice (some ⟨g, 0, none⟩) n cap)] rfl rfl (fun _ => by kernel_rfl) (fun A w ⟨e0, _⟩ hB => doV_move e0)
    | 5, _ => exact ob_val [(1, .pointer (some ⟨w.heap.size, 0, none⟩))] rfl rfl (fun _ => by kernel_rfl) (fun A w ⟨e0, _⟩ hB => fa_bat3 e0)
    | 6, _ => exact ob_val [(12, .pointer (some ⟨w.heap.size, 5, none⟩))] rfl rfl (fun _ => by kernel_rfl) (fun A w ⟨e0, _⟩ hB => ld_cpsl e0 (keepC s5 hB))
    | 7, _ => exact ob_val [(11, .slice (some ⟨g, 0, none⟩) n cap), (13, .slice (some ⟨g2, 0, none⟩) n k2)] rfl rfl (fun _ => by kernel_rfl) (fun A w ⟨e0, e1, _⟩ hB => cl2 cf_impl_weighted e0 e1 (N2 w hB))
    | ix + 8, h => exact absurd h (by simp)
  intro f W3 hb3 _ fuel hfuel
  have hb3' : Below w1.heap.size w1 W3 := (Below.refl _ w1).drew.trans hb3
  replace r1 := r1.keep hb3'
  replace r2 := r2.keep hb3'
  replace hb := hb.trans (hb3'.mono hb.size)
  clear N1 N2 s4 s5 hb3 hb3' r0 hcl'
  simp only [puts, List.foldl, Act.put, List.setIfInBounds_toArray, List.set_cons_zero, List.set_cons_succ]
  refine last_do2 8 9 hfuel (by kernel_rfl) (by kernel_rfl) (by kernel_rfl) rfl rfl rfl rfl (st_cp (z0 := px mC) (z1 := py mC) (z2 := pb mC) rfl rfl r1) ?_
  rintro v w' rfl
  have q1 := r1.set (px mC) (py mC) (pb mC)
  have q2 := r2.other (b' := w.heap.size + 1) (by omega) (px mC) (py mC) (pb mC)
  have hb5 : Below w.heap.size w (set3 W3 (w.heap.size + 1) (px mC) (py mC) (pb mC)) := set3_below hb (by omega)
  change K3 (((W3.setCell _ _).setCell _ _).setCell _ _) _ _ _ _ _ at q1
  change K3 (((W3.setCell _ _).setCell _ _).setCell _ _) _ _ _ _ _ at q2
  change Below w.heap.size w (((W3.setCell _ _).setCell _ _).setCell _ _) at hb5
  clear r1 r2 hb
  generalize ((W3.setCell _ _).setCell _ _).setCell _ _ = W4 at *
  refine fun Q K hK => st_cp (z0 := px mD) (z1 := py mD) (z2 := pb mD) rfl rfl q2 Q K (fun v w' e => hK v w' ?_)
  subst e
  have p1 := q1.other (b' := w.heap.size + 1 + 1) (by omega) (px mD) (py mD) (pb mD)
  have p2 := q2.set (px mD) (py mD) (pb mD)
  go_wp2
  exact bodyPost_ret (v := .tuple #[.agg #[.int .u64 (px mC), .int .u64 (py mC), .bool (pb mC)], .agg #[.int .u64 (px mD), .int .u64 (py mD), .bool (pb mD)]]) (cp2_res (fn := Tryz.f32) (p := 2) (p2 := 3) Tryz.results32 _ rfl rfl p1 p2) rfl ⟨rfl, set3_below hb5 (by omega)⟩
end Go.Proofs.YtagnikeaellbiaaGreatDoor

/-
  Pools once more, with operations whose result is only known to be such and such (a call that hands back a slice of its own making).
-/
namespace Go.Proofs.YtagnikeaellbiaaGreatDoor.G
open Go.RowKit
set_option linter.unusedVariables false

/-- what an operation of a pool does: as ahead; or (got) it yields F x for some x of which R holds, and goes on to hold -/
inductive Knd where
  | val (v : Value)
  | new (o o' : Obj) (k : Nat)
  | put (j : Nat)
  | got (F : Nat → Value) (R : Nat → World → Prop)
  | set (b : Nat) (o o' : Obj)
/-- a world behind another, but for the blocks of S that lay there already -/
structure Sides (S : List Nat) (W0 w : World) : Prop where
  os : w.os = W0.os
  tape : w.tape = W0.tape
  output : w.output = W0.output
  size : W0.heap.size ≤ w.heap.size
  block : ∀ k, k < W0.heap.size → k ∉ S → w.heap[k]? = W0.heap[k]?
theorem Sides.refl (S : List Nat) (W : World) : Sides S W W := ⟨rfl, rfl, rfl, Nat.le_refl _, fun _ _ _ => rfl⟩
theorem Sides.step {S : List Nat} {W0 w w' : World} (h : Sides S W0 w) (hb : Below w.heap.size w w') : Sides S W0 w' :=
  ⟨hb.os.trans h.os, hb.tape.trans h.tape, hb.output.trans h.output, Nat.le_trans h.size hb.size, fun k hk hn => (hb.block k (Nat.lt_of_lt_of_le hk h.size)).trans (h.block k hk hn)⟩
theorem Sides.turn {S : List Nat} {W0 w w' : World} {b : Nat} {o : Obj} (h : Sides S W0 w) (hT : Turned b o w w') (hb : W0.heap.size ≤ b ∨ b ∈ S) : Sides S W0 w' :=
  ⟨hT.os.trans h.os, hT.tape.trans h.tape, hT.output.trans h.output, by rw [hT.size]; exact h.size, fun k hk hn => (hT.other k (fun e => by
    subst e
    rcases hb with hb | hb
    · omega
    · exact hn hb)).trans (h.block k hk hn)⟩
theorem Sides.below {W0 w : World} (h : Sides [] W0 w) : Below W0.heap.size W0 w := ⟨h.os, h.tape, h.output, h.size, fun k hk => h.block k hk (by simp)⟩
theorem Sides.cell {S : List Nat} {W0 w : World} (h : Sides S W0 w) {p : Addr} {v : Value} (hc : W0.cell? p = some v) (hn : p.block ∉ S) : w.cell? p = some v := by
  have hl : p.block < W0.heap.size := World.block_lt_of_cell? W0 _ hc
  rw [← hc]; unfold World.cell?; rw [h.block _ hl hn]
/-- R goes on to hold while new blocks come, and while a block is turned that holds one of these -/
structure Lasts (R : Nat → World → Prop) (obs : List Obj) : Prop where
  below : ∀ x w w', R x w → Below w.heap.size w w' → R x w'
  turned : ∀ x w w' b ob ob', R x w → ob ∈ obs → w.heap[b]? = some ob → Turned b ob' w w' → R x w'

section
variable (ops : Array Oper) (kind : Nat → Knd) (a0 : Act)
def vl (f : Nat → Nat) (i : Nat) : Value := match kind i with
  | .val v => v
  | .new _ _ k => nv k (f i)
  | .put _ => undef
  | .got F _ => F (f i)
  | .set _ _ _ => undef
/-- what operation i finds in slot t: what an operation ahead of it has laid there, or what was there at first -/
def look (f : Nat → Nat) (i t : Nat) : Value := match ownOf ops t with
  | some j => if j < i then vl kind f j else a0.tmps.getD t undef
  | none => a0.tmps.getD t undef
def canon (l : Array Bool) (f : Nat → Nat) : Act := { a0 with tmps := a0.tmps.mapIdx fun t v => match ownOf ops t with
  | some i => if l.getD i false then vl kind f i else v
  | none => v }
def canonAll (f : Nat → Nat) : Act := { a0 with tmps := a0.tmps.mapIdx fun t v => match ownOf ops t with
  | some i => vl kind f i
  | none => v }
end

/-- guards are of operations that yield what is wanted, and these come first -/
def okG (ops : Array Oper) (kind : Nat → Knd) (md : Region.Mode) : Bool := (List.range ops.size).all fun i => match ops[i]? with
  | none => true
  | some o => match o.guard with
    | none => true
    | some (g, want) => (match kind g with
        | .val (.bool b) => b == want
        | _ => false) && ((ops[g]?).bind (·.dst)).isSome && o.after.toList.any (fun e => e.on == g && Region.binds md e)

section
variable {P : Program} {ops : Array Oper} {Q : Exit → Act → World → Prop} {md : Region.Mode} {kind : Nat → Knd} {a0 : Act} {uses : Nat → List Nat}
theorem canon_tmp (l : Array Bool) (f : Nat → Nat) (i t : Nat) (ht : ∀ j, ownOf ops t = some j → l.getD j false = decide (j < i) ∧ t < a0.tmps.size) :
    (canon ops kind a0 l f).eval (.tmp t) = look ops kind a0 f i t := by
  show (canon ops kind a0 l f).tmps.getD t undef = _
  unfold canon look
  rw [Array.getD_eq_getD_getElem?, Array.getElem?_mapIdx]
  cases ho : ownOf ops t with
  | none => cases hx : a0.tmps[t]? <;> simp [hx, Array.getD_eq_getD_getElem?]
  | some j =>
    obtain ⟨h1, h2⟩ := ht j ho
    rw [Array.getElem?_eq_getElem h2]
    simp [h1, Array.getD_eq_getD_getElem?, Array.getElem?_eq_getElem h2]

theorem canon_put (h : okOps ops a0 md uses = true) {i : Nat} {o : Oper} (ho : ops[i]? = some o) (l : Array Bool) (hl : i < l.size) (f f' : Nat → Nat) (hf : ∀ j, l.getD j false = true → vl kind f' j = vl kind f j) :
    (o.dst = none ∨ l.getD i false = false) →
    (canon ops kind a0 l f).put o.dst (vl kind f' i) = canon ops kind a0 (l.setIfInBounds i true) f' := by
  intro hli
  obtain ⟨hd, -⟩ := okOps_at h ho
  have key : ∀ t v, (∀ j, ownOf ops t = some j → j ≠ i) → (match ownOf ops t with
      | some j => if l.getD j false then vl kind f j else v
      | none => v) = (match ownOf ops t with
      | some j => if (l.setIfInBounds i true).getD j false then vl kind f' j else v
      | none => v) := by
    intro t v hj
    cases ht : ownOf ops t with
    | none => rfl
    | some j =>
      have hne := hj j ht
      simp only [getD_set l i j hl, if_neg hne]
      cases hlj : l.getD j false with
      | false => rfl
      | true => simp [hf j hlj]
  cases hdst : o.dst with
  | none =>
    unfold Act.put canon
    simp only [Act.mk.injEq, and_true]
    apply Array.ext_getElem?
    intro t
    rw [Array.getElem?_mapIdx, Array.getElem?_mapIdx]
    cases a0.tmps[t]? with
    | none => rfl
    | some v =>
      simp only [Option.map_some]
      rw [key t v]
      intro j hj e
      have := own_dst hj
      rw [e, ho] at this
      simp [hdst] at this
  | some d =>
    obtain ⟨hod, hds⟩ := hd d hdst
    unfold Act.put canon
    simp only [Act.mk.injEq, and_true]
    apply Array.ext_getElem?
    intro t
    rw [Array.getElem?_setIfInBounds, Array.getElem?_mapIdx, Array.getElem?_mapIdx]
    by_cases e : d = t
    · subst e
      rw [if_pos rfl, Array.size_mapIdx, if_pos hds, Array.getElem?_eq_getElem hds]
      simp only [Option.map_some, hod]
      rw [getD_set l i i hl]
      simp
    · rw [if_neg e]
      cases a0.tmps[t]? with
      | none => rfl
      | some v =>
        simp only [Option.map_some]
        rw [key t v]
        intro j hj e2
        have := own_dst hj
        rw [e2, ho] at this
        simp [hdst] at this
        exact e this
end
section
variable {ops : Array Oper} {md : Region.Mode} {kind : Nat → Knd} {a0 : Act} {uses : Nat → List Nat}
theorem wanted_of (hok : okOps ops a0 md uses = true) (hG : okG ops kind md = true) {i : Nat} {o : Oper} (ho : ops[i]? = some o) (l : Array Bool) (f : Nat → Nat)
    (hedge : ∀ e ∈ o.after.toList, Region.binds md e = true → l.getD e.on false = true) : Region.wanted o (yielded ops (canon ops kind a0 l f).tmps) = true := by
  have hl : i < ops.size := (Array.getElem?_eq_some_iff.1 ho).1
  unfold okG at hG
  rw [List.all_eq_true] at hG
  have h1 := hG i (List.mem_range.2 hl)
  rw [ho] at h1
  unfold Region.wanted
  cases hg : o.guard with
  | none => rfl
  | some gw =>
    obtain ⟨g, want⟩ := gw
    simp only [hg, Bool.and_eq_true] at h1
    obtain ⟨⟨h1, h2⟩, h3⟩ := h1
    rw [List.any_eq_true] at h3
    obtain ⟨e, he, h4⟩ := h3
    rw [Bool.and_eq_true] at h4
    have hlg : l.getD g false = true := by
      have h5 : e.on = g := by simpa using h4.1
      exact h5 ▸ hedge e he h4.2
    cases hog : ops[g]? with
    | none => rw [hog] at h2; cases h2
    | some o2 =>
      rw [hog] at h2
      cases hd : o2.dst with
      | none => simp [hd] at h2
      | some d =>
        obtain ⟨hown, hlt⟩ := (okOps_at hok hog).1 d hd
        have hv : (canon ops kind a0 l f).tmps[d]? = some (vl kind f g) := by
          unfold canon
          rw [Array.getElem?_mapIdx, Array.getElem?_eq_getElem hlt]
          simp only [Option.map_some, hown, hlg, if_true]
        have hvl : vl kind f g = .bool want := by
          unfold vl
          cases hk : kind g with
          | new _ _ _ => rw [hk] at h1; cases h1
          | put _ => rw [hk] at h1; cases h1
          | got _ _ => rw [hk] at h1; cases h1
          | set _ _ _ => rw [hk] at h1; cases h1
          | val v =>
            rw [hk] at h1
            cases v with
            | bool b => simp only [beq_iff_eq] at h1; simp only [h1]
            | _ => cases h1
        unfold yielded
        simp only [hog, Option.bind_some, hd, hv, hvl]
        simp
end

section
variable {P : Program} {ops : Array Oper} {Q : Exit → Act → World → Prop} {md : Region.Mode} {kind : Nat → Knd} {a0 : Act} {uses : Nat → List Nat}
/-- what holds between the operations of a pool -/
def PInv (S : List Nat) (md : Region.Mode) (ops : Array Oper) (kind : Nat → Knd) (a0 : Act) (W0 : World) (l : Array Bool) (a : Act) (w : World) : Prop :=
  l.size = ops.size ∧ ∃ f : Nat → Nat, a = canon ops kind a0 l f ∧ Sides S W0 w ∧
    (∀ i ob ob' k, kind i = .new ob ob' k → l.getD i false = true → W0.heap.size ≤ f i ∧ f i < w.heap.size ∧ w.heap[f i]? = some (if l.getD k false = true then ob' else ob)) ∧
    (∀ i j, l.getD i false = true → l.getD j false = true → i ≠ j → (∃ ob ob' k, kind i = .new ob ob' k) → (∃ ob ob' k, kind j = .new ob ob' k) → f i ≠ f j) ∧
    (∀ k j, kind k = .put j → l.getD k false = true → l.getD j false = true) ∧
    (∀ j oj, ops[j]? = some oj → l.getD j false = true → ∀ e ∈ oj.after.toList, Region.binds md e = true → l.getD e.on false = true) ∧
    (∀ i F R, kind i = .got F R → l.getD i false = true → R (f i) w) ∧
    (∀ i b ob ob', kind i = .set b ob ob' → w.heap[b]? = some (if l.getD i false = true then ob' else ob))
/-- what the operations ahead have handed to operation i -/
def Had (ops : Array Oper) (kind : Nat → Knd) (uses : Nat → List Nat) (f : Nat → Nat) (i : Nat) (w : World) : Prop := ∀ t ∈ uses i, ∀ j, ownOf ops t = some j → j < i → ∀ F R, kind j = .got F R → R (f j) w
/-- what is to be shown of operation i -/
def Ob (S : List Nat) (P : Program) (ops : Array Oper) (kind : Nat → Knd) (uses : Nat → List Nat) (a0 : Act) (W0 : World) (i : Nat) : Prop := ∀ o, ops[i]? = some o → match kind i with
  | .val v => ∀ (f : Nat → Nat) (A : Act) (w : World), (∀ t ∈ uses i, A.eval (.tmp t) = look ops kind a0 f i t) → Sides S W0 w → (∀ t ∈ uses i, ∀ j, ownOf ops t = some j → j < i → ∀ ob k, kind j = .new ob ob k → w.heap[f j]? = some ob) → Had ops kind uses f i w → Does P o A w fun v' w' => v' = v ∧ Below w.heap.size w w'
  | .new ob _ k => ∀ (f : Nat → Nat) (A : Act) (w : World), (∀ t ∈ uses i, A.eval (.tmp t) = look ops kind a0 f i t) → Does P o A w fun v w' => v = nv k w.heap.size ∧ w' = w.alloc ob
  | .put j => o.dst = none ∧ (∃ t ∈ uses i, ownOf ops t = some j) ∧ j < i ∧ ∃ ob ob', kind j = .new ob ob' i ∧
      ∀ (f : Nat → Nat) (A : Act) (w : World), (∀ t ∈ uses i, A.eval (.tmp t) = look ops kind a0 f i t) → Sides S W0 w → w.heap[f j]? = some ob → Does P o A w fun _ w' => Turned (f j) ob' w w'
  | .got F R => ∀ (f : Nat → Nat) (A : Act) (w : World), (∀ t ∈ uses i, A.eval (.tmp t) = look ops kind a0 f i t) → Sides S W0 w → (∀ t ∈ uses i, ∀ j, ownOf ops t = some j → j < i → ∀ ob k, kind j = .new ob ob k → w.heap[f j]? = some ob) → Had ops kind uses f i w → Does P o A w fun v' w' => ∃ x, v' = F x ∧ R x w' ∧ Below w.heap.size w w'
  | .set b ob ob' => o.dst = none ∧ b ∈ S ∧ b < W0.heap.size ∧ (∀ j ob1 ob2, kind j = .set b ob1 ob2 → j = i) ∧
      ∀ (f : Nat → Nat) (A : Act) (w : World), (∀ t ∈ uses i, A.eval (.tmp t) = look ops kind a0 f i t) → Sides S W0 w → Had ops kind uses f i w → w.heap[b]? = some ob → Does P o A w fun _ w' => Turned b ob' w w'
/-- what is handed back lasts -/
def Last (kind : Nat → Knd) : Prop := ∀ i F R, kind i = .got F R → (∀ x w w', R x w → Below w.heap.size w w' → R x w') ∧ ∀ x w w' b j ob ob', ((∃ k, kind j = .new ob ob' k) ∨ kind j = .set b ob ob') → R x w → w.heap[b]? = some ob → Turned b ob' w w' → R x w'
theorem pinv_start {S : List Nat} (W0 : World) (hset : ∀ i b ob ob', kind i = .set b ob ob' → W0.heap[b]? = some ob) : PInv S md ops kind a0 W0 (Array.replicate ops.size false) a0 W0 := by
  have hfa : ∀ j, (Array.replicate ops.size false).getD j false = false := fun j => by
    rw [Array.getD_eq_getD_getElem?, Array.getElem?_replicate]; split <;> rfl
  refine ⟨by simp, fun _ => 0, ?_, Sides.refl _ _, ?_, ?_, ?_, (fun j _ _ h => by rw [hfa] at h; cases h), (fun j _ _ _ h => by rw [hfa] at h; cases h), (fun j b ob ob' hj => by rw [hfa]; exact hset j b ob ob' hj)⟩
  · unfold canon
    cases a0
    simp only [Act.mk.injEq, and_true]
    apply Array.ext_getElem?
    intro t
    rw [Array.getElem?_mapIdx]
    rename_i tm _
    cases tm[t]? with
    | none => rfl
    | some v =>
      simp only [Option.map_some]
      cases ownOf ops t with
      | none => rfl
      | some j =>
        have : (Array.replicate ops.size false).getD j false = false := by
          rw [Array.getD_eq_getD_getElem?, Array.getElem?_replicate]; split <;> rfl
        simp only [this]; rfl
  · intro i _ _ _ _ h
    have : (Array.replicate ops.size false).getD i false = false := by
      rw [Array.getD_eq_getD_getElem?, Array.getElem?_replicate]; split <;> rfl
    rw [this] at h; cases h
  · intro i _ h
    have : (Array.replicate ops.size false).getD i false = false := by
      rw [Array.getD_eq_getD_getElem?, Array.getElem?_replicate]; split <;> rfl
    rw [this] at h; cases h
  · intro i _ _ h
    have : (Array.replicate ops.size false).getD i false = false := by
      rw [Array.getD_eq_getD_getElem?, Array.getElem?_replicate]; split <;> rfl
    rw [this] at h; cases h
theorem pinv_step (hok : okOps ops a0 md uses = true) (hG : okG ops kind md = true) {W0 : World}
    (hkk : ∀ j ob ob' k, kind j = .new ob ob' k → k < ops.size → kind k = .put j) (hlast : Last kind) {l : Array Bool} {a : Act} {w : World} {i : Nat} {S : List Nat} (hsb : ∀ i b ob ob', kind i = .set b ob ob' → b < W0.heap.size) (hobi : Ob S P ops kind uses a0 W0 i)
    (hI : PInv S md ops kind a0 W0 l a w) (hi : i ∈ Region.ready md ops l) : wpOp P ops Q i (PInv S md ops kind a0 W0 (l.setIfInBounds i true)) a w := by
  obtain ⟨hs, f, rfl, hB, hN, hJ, hL, hC, hR, hZ⟩ := hI
  obtain ⟨hil, hif, -, o, ho, hedge⟩ := ready_get hi
  obtain ⟨hdst, huse⟩ := okOps_at hok ho
  have hC' : ∀ j oj, ops[j]? = some oj → (l.setIfInBounds i true).getD j false = true → ∀ e ∈ oj.after.toList, Region.binds md e = true → (l.setIfInBounds i true).getD e.on false = true := fun j oj hoj hlj e he hb => by
    rw [getD_set l i j hil] at hlj
    rw [getD_set l i e.on hil]
    by_cases hji : j = i
    · subst hji
      rw [ho] at hoj; cases hoj
      split
      · rfl
      · exact hedge e he hb
    · rw [if_neg hji] at hlj
      split
      · rfl
      · exact hC j oj hoj hlj e he hb
  have hA : ∀ t ∈ uses i, (canon ops kind a0 l f).eval (.tmp t) = look ops kind a0 f i t := fun t ht => canon_tmp l f i t fun j hj => by
    refine ⟨?_, ?_⟩
    · rcases huse t ht j hj with ⟨hji, e, he, h1, h2⟩ | hji | ⟨hji, oj, hoj, e, he, h1, h2⟩
      · rw [decide_eq_true hji]
        exact h1 ▸ hedge e he h2
      · subst hji
        rw [hif]; simp
      · rw [decide_eq_false (by omega)]
        cases hlj : l.getD j false with
        | false => rfl
        | true =>
          have := hC j oj hoj hlj e he h2
          rw [h1, hif] at this; cases this
    have h3 := own_dst hj
    cases h4 : ops[j]? with
    | none => rw [h4] at h3; cases h3
    | some o2 =>
      rw [h4] at h3
      exact ((okOps_at hok h4).1 t h3).2
  have hHad : Had ops kind uses f i w := fun t ht j hj hji F R hkj => by
    obtain ⟨e, he, h1, h2⟩ : ∃ e ∈ o.after.toList, e.on = j ∧ Region.binds md e = true := by
      rcases huse t ht j hj with ⟨-, h⟩ | h | ⟨h, -⟩
      · exact h
      · omega
      · omega
    exact hR j F R hkj (h1 ▸ hedge e he h2)
  have hw := wanted_of (kind := kind) hok hG ho l f hedge
  have hob := hobi o ho
  unfold wpOp
  simp only [ho, hw, if_true]
  left
  cases hk : kind i with
  | val v =>
    rw [hk] at hob
    refine hob f _ w hA hB (fun t ht j hj hji ob k hkj => ?_) ?_ _ _ ?_
    · obtain ⟨e, he, h1, h2⟩ : ∃ e ∈ o.after.toList, e.on = j ∧ Region.binds md e = true := by
        rcases huse t ht j hj with ⟨-, h⟩ | h | ⟨h, -⟩
        · exact h
        · omega
        · omega
      have := (hN j ob ob k hkj (h1 ▸ hedge e he h2)).2.2
      rwa [ite_self] at this
    · exact hHad
    rintro v' w' ⟨rfl, hb⟩
    refine ⟨by simpa using hs, f, ?_, hB.step hb, ?_, ?_, ?_, hC', fun j F R hj hlj => ?_, ?_⟩
    · have := canon_put hok ho l hil f f (fun _ _ => rfl) (kind := kind) (.inr hif)
      rw [← this]; unfold vl; rw [hk]
    · intro j ob ob' k hj hlj
      have hji : j ≠ i := by rintro rfl; rw [hk] at hj; cases hj
      rw [getD_set l i j hil, if_neg hji] at hlj
      obtain ⟨h1, h2, h3⟩ := hN j ob ob' k hj hlj
      refine ⟨h1, Nat.lt_of_lt_of_le h2 hb.size, (hb.block _ h2).trans (h3.trans ?_)⟩
      rw [getD_set l i k hil]
      by_cases hki : k = i
      · have := hkk j ob ob' k hj (by omega)
        rw [hki, hk] at this; cases this
      · rw [if_neg hki]
    · intro j1 j2 h1 h2 hne k1 k2
      have e1 : j1 ≠ i := by rintro rfl; obtain ⟨_, _, _, h⟩ := k1; rw [hk] at h; cases h
      have e2 : j2 ≠ i := by rintro rfl; obtain ⟨_, _, _, h⟩ := k2; rw [hk] at h; cases h
      rw [getD_set l i j1 hil, if_neg e1] at h1
      rw [getD_set l i j2 hil, if_neg e2] at h2
      exact hJ j1 j2 h1 h2 hne k1 k2
    · intro k j hkj h1
      have e1 : k ≠ i := by rintro rfl; rw [hk] at hkj; cases hkj
      rw [getD_set l i k hil, if_neg e1] at h1
      have := hL k j hkj h1
      rw [getD_set l i j hil, this]; split <;> rfl
    · have hji : j ≠ i := by rintro rfl; rw [hk] at hj; cases hj
      rw [getD_set l i j hil, if_neg hji] at hlj
      exact (hlast j F R hj).1 _ _ _ (hR j F R hj hlj) hb
    · intro j b ob ob' hj
      have hji : j ≠ i := by rintro rfl; rw [hk] at hj; cases hj
      rw [getD_set l i j hil, if_neg hji, hb.block b (Nat.lt_of_lt_of_le (hsb j b ob ob' hj) hB.size)]
      exact hZ j b ob ob' hj
  | got F0 R0 =>
    rw [hk] at hob
    refine hob f _ w hA hB (fun t ht j hj hji ob k hkj => ?_) ?_ _ _ ?_
    · obtain ⟨e, he, h1, h2⟩ : ∃ e ∈ o.after.toList, e.on = j ∧ Region.binds md e = true := by
        rcases huse t ht j hj with ⟨-, h⟩ | h | ⟨h, -⟩
        · exact h
        · omega
        · omega
      have := (hN j ob ob k hkj (h1 ▸ hedge e he h2)).2.2
      rwa [ite_self] at this
    · exact hHad
    rintro v' w' ⟨x0, rfl, hx0, hb⟩
    refine ⟨by simpa using hs, fun x => if x = i then x0 else f x, ?_, hB.step hb, ?_, ?_, ?_, hC', fun j F R hj hlj => ?_, ?_⟩
    · have := canon_put hok ho l hil f (fun x => if x = i then x0 else f x) (fun j hj => by
        have hji : j ≠ i := by rintro rfl; rw [hif] at hj; cases hj
        unfold vl
        cases kind j <;> simp [hji]) (kind := kind) (.inr hif)
      rw [← this]; unfold vl; rw [hk]; simp
    · intro j ob ob' k hj hlj
      have hji : j ≠ i := by rintro rfl; rw [hk] at hj; cases hj
      rw [getD_set l i j hil, if_neg hji] at hlj
      simp only [if_neg hji]
      obtain ⟨h1, h2, h3⟩ := hN j ob ob' k hj hlj
      refine ⟨h1, Nat.lt_of_lt_of_le h2 hb.size, (hb.block _ h2).trans (h3.trans ?_)⟩
      rw [getD_set l i k hil]
      by_cases hki : k = i
      · have := hkk j ob ob' k hj (by omega)
        rw [hki, hk] at this; cases this
      · rw [if_neg hki]
    · intro j1 j2 h1 h2 hne k1 k2
      have e1 : j1 ≠ i := by rintro rfl; obtain ⟨_, _, _, h⟩ := k1; rw [hk] at h; cases h
      have e2 : j2 ≠ i := by rintro rfl; obtain ⟨_, _, _, h⟩ := k2; rw [hk] at h; cases h
      rw [getD_set l i j1 hil, if_neg e1] at h1
      rw [getD_set l i j2 hil, if_neg e2] at h2
      simp only [if_neg e1, if_neg e2]
      exact hJ j1 j2 h1 h2 hne k1 k2
    · intro k j hkj h1
      have e1 : k ≠ i := by rintro rfl; rw [hk] at hkj; cases hkj
      rw [getD_set l i k hil, if_neg e1] at h1
      have := hL k j hkj h1
      rw [getD_set l i j hil, this]; split <;> rfl
    · by_cases hji : j = i
      · subst hji
        rw [hk] at hj; cases hj
        simp only [if_true]
        exact hx0
      · rw [getD_set l i j hil, if_neg hji] at hlj
        simp only [if_neg hji]
        exact (hlast j F R hj).1 _ _ _ (hR j F R hj hlj) hb
    · intro j b ob ob' hj
      have hji : j ≠ i := by rintro rfl; rw [hk] at hj; cases hj
      rw [getD_set l i j hil, if_neg hji, hb.block b (Nat.lt_of_lt_of_le (hsb j b ob ob' hj) hB.size)]
      exact hZ j b ob ob' hj
  | new ob ob' k =>
    rw [hk] at hob
    refine hob f _ w hA _ _ ?_
    rintro v' w' ⟨rfl, rfl⟩
    have hlk : l.getD k false = false := by
      cases h : l.getD k false with
      | false => rfl
      | true =>
        have hks : k < ops.size := by
          by_cases hx : k < ops.size
          · exact hx
          · rw [Array.getD_eq_getD_getElem?, Array.getElem?_eq_none (by omega)] at h; cases h
        have := hL k i (hkk i ob ob' k hk hks) h
        rw [hif] at this; cases this
    have hki : k ≠ i := by
      rintro rfl
      have := hkk k ob ob' k hk (by omega)
      rw [hk] at this; cases this
    refine ⟨by simpa using hs, fun x => if x = i then w.heap.size else f x, ?_, hB.step ((Below.refl _ w).alloc (Nat.le_refl _) _), ?_, ?_, ?_, hC', fun j F R hj hlj => ?_, ?_⟩
    · have := canon_put hok ho l hil f (fun x => if x = i then w.heap.size else f x) (fun j hj => by
        have hji : j ≠ i := by rintro rfl; rw [hif] at hj; cases hj
        unfold vl
        cases kind j <;> simp [hji]) (kind := kind) (.inr hif)
      rw [← this]; unfold vl; rw [hk]; simp
    · intro j ob1 ob2 k2 hj hlj
      by_cases hji : j = i
      · subst hji
        rw [hk] at hj; cases hj
        rw [getD_set l j k hil, if_neg hki, hlk]
        simp only [if_true]
        exact ⟨hB.size, by simp, by show (w.heap.push ob)[w.heap.size]? = _; simp⟩
      · rw [getD_set l i j hil, if_neg hji] at hlj
        obtain ⟨h1, h2, h3⟩ := hN j ob1 ob2 k2 hj hlj
        simp only [if_neg hji]
        refine ⟨h1, by simp; omega, (Below.heap_alloc w ob _ h2).trans (h3.trans ?_)⟩
        rw [getD_set l i k2 hil]
        by_cases hk2 : k2 = i
        · have := hkk j ob1 ob2 k2 hj (by omega)
          rw [hk2, hk] at this; cases this
        · rw [if_neg hk2]
    · intro j1 j2 h1 h2 hne k1 k2
      rw [getD_set l i j1 hil] at h1
      rw [getD_set l i j2 hil] at h2
      by_cases e1 : j1 = i
      · have e2 : j2 ≠ i := fun e => hne (e1.trans e.symm)
        rw [if_neg e2] at h2
        obtain ⟨_, _, _, hx⟩ := k2
        have := (hN j2 _ _ _ hx h2).2.1
        simp only [if_pos e1, if_neg e2]; omega
      · rw [if_neg e1] at h1
        by_cases e2 : j2 = i
        · obtain ⟨_, _, _, hx⟩ := k1
          have := (hN j1 _ _ _ hx h1).2.1
          simp only [if_neg e1, if_pos e2]; omega
        · rw [if_neg e2] at h2
          simp only [if_neg e1, if_neg e2]
          exact hJ j1 j2 h1 h2 hne k1 k2
    · intro k2 j hkj h1
      have e1 : k2 ≠ i := by rintro rfl; rw [hk] at hkj; cases hkj
      rw [getD_set l i k2 hil, if_neg e1] at h1
      have := hL k2 j hkj h1
      rw [getD_set l i j hil, this]; split <;> rfl
    · have hji : j ≠ i := by rintro rfl; rw [hk] at hj; cases hj
      rw [getD_set l i j hil, if_neg hji] at hlj
      simp only [if_neg hji]
      exact (hlast j F R hj).1 _ _ _ (hR j F R hj hlj) ((Below.refl _ w).alloc (Nat.le_refl _) _)
    · intro j b ob1 ob2 hj
      have hji : j ≠ i := by rintro rfl; rw [hk] at hj; cases hj
      rw [getD_set l i j hil, if_neg hji, Below.heap_alloc w ob b (Nat.lt_of_lt_of_le (hsb j b ob1 ob2 hj) hB.size)]
      exact hZ j b ob1 ob2 hj
  | put j =>
    rw [hk] at hob
    obtain ⟨hdn, ⟨t, ht, htj⟩, hji, ob, ob', hkj, hdo⟩ := hob
    have hlj : l.getD j false = true := by
      obtain ⟨e, he, h1, h2⟩ : ∃ e ∈ o.after.toList, e.on = j ∧ Region.binds md e = true := by
        rcases huse t ht j htj with ⟨-, h⟩ | h | ⟨h, -⟩
        · exact h
        · omega
        · omega
      exact h1 ▸ hedge e he h2
    obtain ⟨g1, g2, g3⟩ := hN j ob ob' i hkj hlj
    rw [hif] at g3
    refine hdo f _ w hA hB (by simpa using g3) _ _ ?_
    rintro v' w' hT
    refine ⟨by simpa using hs, f, ?_, hB.turn hT (.inl g1), ?_, ?_, ?_, hC', fun j3 F R hj3 hl3 => ?_, ?_⟩
    · have := canon_put hok ho l hil f f (fun _ _ => rfl) (kind := kind) (.inl hdn)
      rw [← this, hdn]; rfl
    · intro j2 ob1 ob2 k2 hj2 hl2
      have hji : j2 ≠ i := by rintro rfl; rw [hk] at hj2; cases hj2
      rw [getD_set l i j2 hil, if_neg hji] at hl2
      obtain ⟨h1, h2, h3⟩ := hN j2 ob1 ob2 k2 hj2 hl2
      refine ⟨h1, by rw [hT.size]; exact h2, ?_⟩
      by_cases hjj : j2 = j
      · subst hjj
        rw [hkj] at hj2
        cases hj2
        rw [getD_set l i i hil, if_pos rfl]
        simpa using hT.self
      · have hne := hJ j2 j hl2 hlj hjj ⟨_, _, _, hj2⟩ ⟨_, _, _, hkj⟩
        rw [hT.other _ hne, h3, getD_set l i k2 hil]
        by_cases hk2 : k2 = i
        · have := hkk j2 ob1 ob2 k2 hj2 (by omega)
          rw [hk2, hk] at this
          cases this
          exact absurd rfl hjj
        · rw [if_neg hk2]
    · intro j1 j2 h1 h2 hne k1 k2
      have e1 : j1 ≠ i := by rintro rfl; obtain ⟨_, _, _, h⟩ := k1; rw [hk] at h; cases h
      have e2 : j2 ≠ i := by rintro rfl; obtain ⟨_, _, _, h⟩ := k2; rw [hk] at h; cases h
      rw [getD_set l i j1 hil, if_neg e1] at h1
      rw [getD_set l i j2 hil, if_neg e2] at h2
      exact hJ j1 j2 h1 h2 hne k1 k2
    · intro k2 j2 hkj2 h1
      rw [getD_set l i k2 hil] at h1
      have : l.getD j2 false = true := by
        by_cases e1 : k2 = i
        · rw [e1, hk] at hkj2; cases hkj2; exact hlj
        · rw [if_neg e1] at h1; exact hL k2 j2 hkj2 h1
      rw [getD_set l i j2 hil, this]; split <;> rfl
    · have hji : j3 ≠ i := by rintro rfl; rw [hk] at hj3; cases hj3
      rw [getD_set l i j3 hil, if_neg hji] at hl3
      exact (hlast j3 F R hj3).2 _ _ _ _ j ob ob' (.inl ⟨i, hkj⟩) (hR j3 F R hj3 hl3) (by simpa using g3) hT
    · intro j1 b ob1 ob2 hj
      have hji : j1 ≠ i := by rintro rfl; rw [hk] at hj; cases hj
      rw [getD_set l i j1 hil, if_neg hji, hT.other b (by have := hsb j1 b ob1 ob2 hj; omega)]
      exact hZ j1 b ob1 ob2 hj
  | set b ob ob' =>
    rw [hk] at hob
    obtain ⟨hdn, hbS, hbl, hone, hdo⟩ := hob
    have g3 := hZ i b ob ob' hk
    rw [hif] at g3
    refine hdo f _ w hA hB hHad (by simpa using g3) _ _ ?_
    rintro v' w' hT
    refine ⟨by simpa using hs, f, ?_, hB.turn hT (.inr hbS), ?_, ?_, ?_, hC', fun j3 F R hj3 hl3 => ?_, ?_⟩
    · have := canon_put hok ho l hil f f (fun _ _ => rfl) (kind := kind) (.inl hdn)
      rw [← this, hdn]; rfl
    · intro j2 ob1 ob2 k2 hj2 hl2
      have hji : j2 ≠ i := by rintro rfl; rw [hk] at hj2; cases hj2
      rw [getD_set l i j2 hil, if_neg hji] at hl2
      obtain ⟨h1, h2, h3⟩ := hN j2 ob1 ob2 k2 hj2 hl2
      refine ⟨h1, by rw [hT.size]; exact h2, ?_⟩
      rw [hT.other _ (by omega), h3, getD_set l i k2 hil]
      by_cases hk2 : k2 = i
      · have := hkk j2 ob1 ob2 k2 hj2 (by omega)
        rw [hk2, hk] at this
        cases this
      · rw [if_neg hk2]
    · intro j1 j2 h1 h2 hne k1 k2
      have e1 : j1 ≠ i := by rintro rfl; obtain ⟨_, _, _, h⟩ := k1; rw [hk] at h; cases h
      have e2 : j2 ≠ i := by rintro rfl; obtain ⟨_, _, _, h⟩ := k2; rw [hk] at h; cases h
      rw [getD_set l i j1 hil, if_neg e1] at h1
      rw [getD_set l i j2 hil, if_neg e2] at h2
      exact hJ j1 j2 h1 h2 hne k1 k2
    · intro k2 j2 hkj2 h1
      have e1 : k2 ≠ i := by rintro rfl; rw [hk] at hkj2; cases hkj2
      rw [getD_set l i k2 hil, if_neg e1] at h1
      have := hL k2 j2 hkj2 h1
      rw [getD_set l i j2 hil, this]; split <;> rfl
    · have hji : j3 ≠ i := by rintro rfl; rw [hk] at hj3; cases hj3
      rw [getD_set l i j3 hil, if_neg hji] at hl3
      exact (hlast j3 F R hj3).2 _ _ _ _ i ob ob' (.inr hk) (hR j3 F R hj3 hl3) (by simpa using g3) hT
    · intro j1 b1 ob1 ob2 hj
      by_cases hji : j1 = i
      · subst hji
        rw [hk] at hj; cases hj
        rw [getD_set l j1 j1 hil, if_pos rfl]
        simpa using hT.self
      · rw [getD_set l i j1 hil, if_neg hji]
        have hbb : b1 ≠ b := by
          rintro rfl
          exact hji (hone j1 ob1 ob2 hj)
        rw [hT.other b1 hbb]
        exact hZ j1 b1 ob1 ob2 hj

/-- the edges that bind go backwards -/
def dagB (md : Region.Mode) (ops : Array Oper) : Bool := (List.range ops.size).all fun i => match ops[i]? with
  | some o => o.after.toList.all fun e => !Region.binds md e || decide (e.on < i)
  | none => true
theorem all_listedB (hd : dagB md ops = true) (l : Array Bool) (hs : l.size = ops.size) (hr : Region.ready md ops l = []) : ∀ n i, i < n → i < ops.size → l.getD i false = true := by
  intro n
  induction n with
  | zero => intro i h; omega
  | succ n ih =>
    intro i hi hsz
    by_cases hlt : i < n
    · exact ih i hlt hsz
    · have hin : i = n := by omega
      subst hin
      cases hl : l.getD i false with
      | true => rfl
      | false =>
        exfalso
        have hm : i ∈ Region.ready md ops l := by
          unfold Region.ready
          rw [List.mem_filter]
          refine ⟨List.mem_range.2 hsz, ?_⟩
          rw [Bool.and_eq_true]
          constructor
          · rw [Array.getD_eq_getD_getElem?, Array.getElem?_eq_getElem (by omega)] at hl ⊢
            simpa using hl
          · rw [Array.getElem?_eq_getElem hsz]
            simp only [Option.map_some, Option.getD_some, Array.all_eq_true_iff_forall_mem]
            intro e he
            unfold dagB at hd
            rw [List.all_eq_true] at hd
            have h1 := hd i (List.mem_range.2 hsz)
            rw [Array.getElem?_eq_getElem hsz] at h1
            simp only [List.all_eq_true] at h1
            have h2 := h1 e (Array.mem_toList_iff.2 he)
            cases hbnd : Region.binds md e with
            | false => simp
            | true =>
              rw [hbnd] at h2
              have h3 : e.on < i := by simpa using h2
              rw [ih e.on h3 (by omega)]
              simp
        rw [hr] at hm
        cases hm
theorem pool_any {S : List Nat} (hok : okOps ops a0 md uses = true) (hG : okG ops kind md = true) (hdag : dagB md ops = true) (W0 : World)
    (hkk : ∀ j ob ob' k, kind j = .new ob ob' k → k < ops.size → kind k = .put j) (hlast : Last kind)
    (hset : ∀ i b ob ob', kind i = .set b ob ob' → W0.heap[b]? = some ob)
    (hob : ∀ i, i < ops.size → Ob S P ops kind uses a0 W0 i)
    (fin : ∀ (f : Nat → Nat) (w : World), Sides S W0 w →
      (∀ i ob ob' k, kind i = .new ob ob' k → i < ops.size → W0.heap.size ≤ f i ∧ w.heap[f i]? = some (if k < ops.size then ob' else ob)) →
      (∀ i j, i < ops.size → j < ops.size → i ≠ j → (∃ ob ob' k, kind i = .new ob ob' k) → (∃ ob ob' k, kind j = .new ob ob' k) → f i ≠ f j) →
      (∀ i F R, kind i = .got F R → i < ops.size → R (f i) w) →
      (∀ i b ob ob', kind i = .set b ob ob' → i < ops.size → w.heap[b]? = some ob') →
      Q .normal (canonAll ops kind a0 f) w) :
    wpAny P md ops Q ops.size (Array.replicate ops.size false) a0 W0 := by
  refine any_inv (PInv S md ops kind a0 W0) ?fin (fun l a w i hI hi => pinv_step hok hG hkk hlast (fun i b ob ob' h => (Array.getElem?_eq_some_iff.1 (hset i b ob ob' h)).1) (hob i ?lt) hI hi) _ _ _ _ ?cnt (pinv_start W0 hset)
  case lt =>
    obtain ⟨-, -, -, o, ho, -⟩ := ready_get hi
    exact (Array.getElem?_eq_some_iff.1 ho).1
  case cnt => simp
  case fin =>
    rintro l a w ⟨hs, f, rfl, hB, hN, hJ, -, -, hR, hZ⟩ hr
    have hall : ∀ i, i < ops.size → l.getD i false = true := fun i hi => all_listedB hdag l hs hr (i + 1) i (by omega) hi
    have hc : canon ops kind a0 l f = canonAll ops kind a0 f := by
      unfold canon canonAll
      simp only [Act.mk.injEq, and_true]
      apply Array.ext_getElem?
      intro t
      rw [Array.getElem?_mapIdx, Array.getElem?_mapIdx]
      cases a0.tmps[t]? with
      | none => rfl
      | some v =>
        simp only [Option.map_some]
        cases ht : ownOf ops t with
        | none => rfl
        | some j => simp only [hall j (own_lt ht), if_true]
    rw [hc]
    refine fin f w hB (fun i ob ob' k hk hi => ?_) (fun i j hi hj => hJ i j (hall i hi) (hall j hj)) (fun i F R hk hi => hR i F R hk (hall i hi)) (fun i b ob ob' hk hi => by
      have := hZ i b ob ob' hk
      rwa [if_pos (hall i hi)] at this)
    obtain ⟨h1, -, h3⟩ := hN i ob ob' k hk (hall i hi)
    refine ⟨h1, h3.trans ?_⟩
    by_cases hkl : k < ops.size
    · rw [if_pos (hall k hkl), if_pos hkl]
    · have : l.getD k false = false := by rw [Array.getD_eq_getD_getElem?, Array.getElem?_eq_none (by omega)]; rfl
      rw [this, if_neg hkl]; rfl

theorem canon_same (l l' : Array Bool) (f : Nat → Nat) (h : ∀ j, j < ops.size → l.getD j false = l'.getD j false) : canon ops kind a0 l f = canon ops kind a0 l' f := by
  unfold canon
  simp only [Act.mk.injEq, and_true]
  apply Array.ext_getElem?
  intro t
  rw [Array.getElem?_mapIdx, Array.getElem?_mapIdx]
  cases a0.tmps[t]? with
  | none => rfl
  | some v =>
    simp only [Option.map_some]
    cases ht : ownOf ops t with
    | none => rfl
    | some j => simp only [h j (own_lt ht)]
theorem canon_upto (h : okOps ops a0 md uses = true) (f : Nat → Nat) : ∀ k, k ≤ ops.size → canon ops kind a0 (upto ops.size k) f = puts ((List.range k).map fun i => ((ops[i]?).bind (·.dst), vl kind f i)) a0 := by
  intro k
  induction k with
  | zero =>
    intro _
    unfold canon puts
    simp only [List.range_zero, List.map_nil, List.foldl_nil]
    cases a0
    simp only [Act.mk.injEq, and_true]
    apply Array.ext_getElem?
    intro t
    rw [Array.getElem?_mapIdx]
    rename_i tm _
    cases tm[t]? with
    | none => rfl
    | some v =>
      simp only [Option.map_some]
      cases ownOf ops t with
      | none => rfl
      | some j => simp only [upto_getD, Nat.not_lt_zero, decide_false, Bool.and_false]; rfl
  | succ k ih =>
    intro hk
    have hs : (upto ops.size k).size = ops.size := by simp [upto]
    rw [List.range_succ, List.map_append]
    unfold puts
    rw [List.foldl_append]
    have ih' := ih (by omega)
    unfold puts at ih'
    rw [← ih']
    have ho : ops[k]? = some ops[k] := Array.getElem?_eq_getElem (by omega)
    simp only [List.map_cons, List.map_nil, List.foldl_cons, List.foldl_nil, ho, Option.bind_some]
    rw [canon_put h ho (upto ops.size k) (by omega) f f (fun _ _ => rfl) (.inr (by rw [upto_getD]; simp))]
    refine canon_same _ _ f fun j hj => ?_
    rw [getD_set _ _ _ (by omega), upto_getD, upto_getD]
    by_cases e : j = k
    · subst e; simp [hj]
    · rw [if_neg e]
      have : decide (j < k) = decide (j < k + 1) := by rw [Bool.eq_iff_iff]; simp; omega
      rw [this]
theorem canonAll_puts (h : okOps ops a0 md uses = true) (f : Nat → Nat) : canonAll ops kind a0 f = puts ((List.range ops.size).map fun i => ((ops[i]?).bind (·.dst), vl kind f i)) a0 := by
  rw [← canon_upto h f ops.size (Nat.le_refl _)]
  unfold canon canonAll
  simp only [Act.mk.injEq, and_true]
  apply Array.ext_getElem?
  intro t
  rw [Array.getElem?_mapIdx, Array.getElem?_mapIdx]
  cases a0.tmps[t]? with
  | none => rfl
  | some v =>
    simp only [Option.map_some]
    cases ht : ownOf ops t with
    | none => rfl
    | some j => simp only [upto_getD, own_lt ht, decide_true, Bool.and_true, if_true]

def kindOf (kinds : List Knd) (i : Nat) : Knd := kinds.getD i (.put i)
def okK (kinds : List Knd) (n : Nat) : Bool := (List.range kinds.length).all fun j => match kindOf kinds j with
  | .new _ _ k => if k < n then (match kindOf kinds k with
    | .put j' => j' == j
    | _ => false) else true
  | _ => true
theorem okK_is {kinds : List Knd} {n : Nat} (h : okK kinds n = true) : ∀ j ob ob' k, kindOf kinds j = .new ob ob' k → k < n → kindOf kinds k = .put j := by
  intro j ob ob' k hj hk
  have hl : j < kinds.length := by
    by_cases hx : j < kinds.length
    · exact hx
    · unfold kindOf at hj
      rw [List.getD_eq_getElem?_getD, List.getElem?_eq_none (by omega)] at hj
      cases hj
  unfold okK at h
  rw [List.all_eq_true] at h
  have h1 := h j (List.mem_range.2 hl)
  rw [hj] at h1
  simp only [if_pos hk] at h1
  cases h2 : kindOf kinds k with
  | val v => rw [h2] at h1; cases h1
  | new _ _ _ => rw [h2] at h1; cases h1
  | got _ _ => rw [h2] at h1; cases h1
  | set _ _ _ => rw [h2] at h1; cases h1
  | put j' =>
    rw [h2] at h1
    simp at h1
    rw [h1]

theorem ob_val {S : List Nat} {W0 : World} {i : Nat} {o : Oper} {v : Value} (ins : List (Nat × Value)) (ho : ops[i]? = some o) (hk : kind i = .val v) (hi : ∀ f, (uses i).map (fun t => (t, look ops kind a0 f i t)) = ins)
    (h : ∀ A w, Evs A ins → Sides S W0 w → Does P o A w fun v' w' => v' = v ∧ Below w.heap.size w w') : Ob S P ops kind uses a0 W0 i := by
  intro o' ho'
  rw [ho] at ho'
  cases ho'
  rw [hk]
  intro f A w hA hB _ _
  exact h A w (hi f ▸ evs_of _ hA) hB
/-- an operation that reads the block that operation j has made -/
theorem ob_use {S : List Nat} {W0 : World} {i : Nat} {o : Oper} {v : Value} (t j k : Nat) (ob : Obj) (ins : (Nat → Nat) → List (Nat × Value)) (ho : ops[i]? = some o) (hk : kind i = .val v) (ht : t ∈ uses i) (hown : ownOf ops t = some j) (hkj : kind j = .new ob ob k)
    (hi : ∀ f, (uses i).map (fun t => (t, look ops kind a0 f i t)) = ins f)
    (h : ∀ f A w, Evs A (ins f) → Sides S W0 w → w.heap[f j]? = some ob → Does P o A w fun v' w' => v' = v ∧ Below w.heap.size w w') (hji : decide (j < i) = true := by decide) : Ob S P ops kind uses a0 W0 i := by
  intro o' ho'
  rw [ho] at ho'
  cases ho'
  rw [hk]
  intro f A w hA hB hu _
  exact h f A w (hi f ▸ evs_of _ hA) hB (hu t ht j hown (of_decide_eq_true hji) ob k hkj)
theorem ob_new {S : List Nat} {W0 : World} {i : Nat} {o : Oper} {ob ob' : Obj} {k : Nat} (ho : ops[i]? = some o) (hk : kind i = .new ob ob' k)
    (h : ∀ (A : Act) (w : World), Does P o A w fun v w' => v = .pointer (some ⟨w.heap.size, 0, none⟩) ∧ w' = w.alloc ob) (hk1 : decide (k < 1000) = true := by decide) : Ob S P ops kind uses a0 W0 i := by
  intro o' ho'
  rw [ho] at ho'
  cases ho'
  rw [hk]
  intro f A w _
  have e : nv k w.heap.size = .pointer (some ⟨w.heap.size, 0, none⟩) := by unfold nv; rw [if_neg (by have := of_decide_eq_true hk1; omega)]
  rw [e]
  exact h A w
/-- a slice's block -/
theorem ob_slc {S : List Nat} {W0 : World} {i : Nat} {o : Oper} {ob ob' : Obj} (n : Nat) (ins : List (Nat × Value)) (ho : ops[i]? = some o) (hk : kind i = .new ob ob' (1000 + n)) (hi : ∀ f, (uses i).map (fun t => (t, look ops kind a0 f i t)) = ins)
    (h : ∀ (A : Act) (w : World), Evs A ins → Does P o A w fun v w' => v = .slice (some ⟨w.heap.size, 0, none⟩) n n ∧ w' = w.alloc ob) : Ob S P ops kind uses a0 W0 i := by
  intro o' ho'
  rw [ho] at ho'
  cases ho'
  rw [hk]
  intro f A w hA
  have e : nv (1000 + n) w.heap.size = .slice (some ⟨w.heap.size, 0, none⟩) n n := by unfold nv; rw [if_pos (by omega), show 1000 + n - 1000 = n by omega]
  rw [e]
  exact h A w (hi f ▸ evs_of _ hA)
theorem ob_put {S : List Nat} {W0 : World} {i j : Nat} {o : Oper} {ob ob' : Obj} (t : Nat) (ins : (Nat → Nat) → List (Nat × Value)) (ho : ops[i]? = some o) (hk : kind i = .put j) (hd : o.dst = none) (ht : t ∈ uses i) (hown : ownOf ops t = some j)
    (hkj : kind j = .new ob ob' i) (hi : ∀ f, (uses i).map (fun t => (t, look ops kind a0 f i t)) = ins f)
    (h : ∀ f A w, Evs A (ins f) → w.heap[f j]? = some ob → Does P o A w fun _ w' => Turned (f j) ob' w w') (hji : decide (j < i) = true := by decide) : Ob S P ops kind uses a0 W0 i := by
  intro o' ho'
  rw [ho] at ho'
  cases ho'
  rw [hk]
  exact ⟨hd, ⟨t, ht, hown⟩, of_decide_eq_true hji, ob, ob', hkj, fun f A w hA hB hw => h f A w (hi f ▸ evs_of _ hA) hw⟩

/-- an operation that reads what a call ahead has handed back -/
theorem ob_had {S : List Nat} {W0 : World} {i : Nat} {o : Oper} {v : Value} (ins : (Nat → Nat) → List (Nat × Value)) (ho : ops[i]? = some o) (hk : kind i = .val v)
    (hi : ∀ f, (uses i).map (fun t => (t, look ops kind a0 f i t)) = ins f)
    (h : ∀ f A w, Evs A (ins f) → Sides S W0 w → Had ops kind uses f i w → Does P o A w fun v' w' => v' = v ∧ Below w.heap.size w w') : Ob S P ops kind uses a0 W0 i := by
  intro o' ho'
  rw [ho] at ho'
  cases ho'
  rw [hk]
  intro f A w hA hB hu hh
  exact h f A w (hi f ▸ evs_of _ hA) hB hh
/-- a call that hands back something of its own making -/
theorem ob_got {S : List Nat} {W0 : World} {i : Nat} {o : Oper} {F : Nat → Value} {R : Nat → World → Prop} (ins : (Nat → Nat) → List (Nat × Value)) (ho : ops[i]? = some o) (hk : kind i = .got F R)
    (hi : ∀ f, (uses i).map (fun t => (t, look ops kind a0 f i t)) = ins f)
    (h : ∀ f A w, Evs A (ins f) → Sides S W0 w → Had ops kind uses f i w → Does P o A w fun v' w' => ∃ x, v' = F x ∧ R x w' ∧ Below w.heap.size w w') : Ob S P ops kind uses a0 W0 i := by
  intro o' ho'
  rw [ho] at ho'
  cases ho'
  rw [hk]
  intro f A w hA hB hu hh
  exact h f A w (hi f ▸ evs_of _ hA) hB hh
/-- a store into a block that lay there already -/
theorem ob_set {S : List Nat} {W0 : World} {i b : Nat} {o : Oper} {ob ob' : Obj} (ins : (Nat → Nat) → List (Nat × Value)) (ho : ops[i]? = some o) (hk : kind i = .set b ob ob') (hd : o.dst = none) (hS : b ∈ S) (hb : b < W0.heap.size) (hone : ∀ j ob1 ob2, kind j = .set b ob1 ob2 → j = i)
    (hi : ∀ f, (uses i).map (fun t => (t, look ops kind a0 f i t)) = ins f)
    (h : ∀ f A w, Evs A (ins f) → Had ops kind uses f i w → w.heap[b]? = some ob → Does P o A w fun _ w' => Turned b ob' w w') : Ob S P ops kind uses a0 W0 i := by
  intro o' ho'
  rw [ho] at ho'
  cases ho'
  rw [hk]
  exact ⟨hd, hS, hb, hone, fun f A w hA hB hh hw => h f A w (hi f ▸ evs_of _ hA) hh hw⟩
theorem kind_mem {kinds : List Knd} {i : Nat} {k : Knd} (h : kindOf kinds i = k) (hp : k ≠ .put i) : k ∈ kinds := by
  unfold kindOf at h
  rw [List.getD_eq_getElem?_getD] at h
  cases hx : kinds[i]? with
  | none => rw [hx] at h; exact absurd h.symm hp
  | some k' => rw [hx] at h; rw [← h]; exact List.mem_of_getElem? hx
theorem last_of {kinds : List Knd} (obs : List Obj) (h : ∀ F R, Knd.got F R ∈ kinds → Lasts R obs) (ho : ∀ ob ob' k, Knd.new ob ob' k ∈ kinds → ob ∈ obs) (ho2 : ∀ b ob ob', Knd.set b ob ob' ∈ kinds → ob ∈ obs) : Last (kindOf kinds) := by
  intro i F R hk
  have h1 := h F R (kind_mem hk (by simp))
  refine ⟨h1.below, fun x w w' b j ob ob' hj hR hb hT => h1.turned x w w' b ob ob' hR ?_ hb hT⟩
  rcases hj with ⟨k, hj⟩ | hj
  · exact ho ob ob' k (kind_mem hj (by simp))
  · exact ho2 b ob ob' (kind_mem hj (by simp))
theorem set_of {kinds : List Knd} {W0 : World} (h : ∀ b ob ob', Knd.set b ob ob' ∈ kinds → W0.heap[b]? = some ob) : ∀ i b ob ob', kindOf kinds i = .set b ob ob' → W0.heap[b]? = some ob := fun i b ob ob' hk => h b ob ob' (kind_mem hk (by simp))
/-- a region whose order is drawn, by tables -/
theorem pool_list (S : List Nat) {id : Nat} {W : World} (kinds : List Knd) (us : List (List Nat)) (dl : (Nat → Nat) → List (Option Tmp × Value)) (hm : P.follows .mixedOrders = true) (hok : (okOps ops a0 .any (usesOf us) && okG ops (kindOf kinds) .any) = true) (hdag : dagB .any ops = true) (hkk : okK kinds ops.size = true)
    (hdl : ∀ f, ((List.range ops.size).map fun i => ((ops[i]?).bind (·.dst), vl (kindOf kinds) f i)) = dl f) (hlast : Last (kindOf kinds)) (hset : ∀ b ob ob', Knd.set b ob ob' ∈ kinds → W.drew.heap[b]? = some ob)
    (hob : ∀ i, i < ops.size → Ob S P ops (kindOf kinds) (usesOf us) a0 W.drew i)
    (fin : ∀ (f : Nat → Nat) (w : World), Sides S W.drew w →
      (∀ i ob ob' k, kindOf kinds i = .new ob ob' k → i < ops.size → W.drew.heap.size ≤ f i ∧ w.heap[f i]? = some (if k < ops.size then ob' else ob)) →
      (∀ i j, i < ops.size → j < ops.size → i ≠ j → (∃ ob ob' k, kindOf kinds i = .new ob ob' k) → (∃ ob ob' k, kindOf kinds j = .new ob ob' k) → f i ≠ f j) →
      (∀ i F R, kindOf kinds i = .got F R → i < ops.size → R (f i) w) →
      (∀ i b ob ob', kindOf kinds i = .set b ob ob' → i < ops.size → w.heap[b]? = some ob') →
      Q .normal (puts (dl f) a0) w) :
    (Code.region id ops true).wp P Q a0 W :=
  wp_region_any hm (pool_any (and_l hok) (and_r hok) hdag W.drew (okK_is hkk) hlast (set_of hset) hob fun f w h1 h2 h3 h4 h5 => by
    rw [canonAll_puts (and_l hok) f, hdl f]
    exact fin f w h1 h2 h3 h4 h5)
/-- the first m operations of a drawn region, behind all of which the next one comes, and behind that the others -/
theorem pool_prT (S : List Nat) {id : Nat} {W : World} (m : Nat) (kinds : List Knd) (us : List (List Nat)) (dl : (Nat → Nat) → List (Option Tmp × Value)) (hm : P.follows .mixedOrders = true) (hok : (okOps ops a0 .any (usesOf us) && okG ops (kindOf kinds) .any) = true) (hdag : dagB .any ops = true) (hkk : okK kinds ops.size = true) (hmn : decide (m < ops.size) = true) (hpre : preT ops .any m = true)
    (hdl : ∀ f, ((List.range m).map fun i => ((ops[i]?).bind (·.dst), vl (kindOf kinds) f i)) = dl f) (hlast : Last (kindOf kinds)) (hset : ∀ b ob ob', Knd.set b ob ob' ∈ kinds → W.drew.heap[b]? = some ob)
    (hob : ∀ i, i < m → Ob S P ops (kindOf kinds) (usesOf us) a0 W.drew i)
    (fin : ∀ (f : Nat → Nat) (w : World), Sides S W.drew w →
      (∀ i ob ob' k, kindOf kinds i = .new ob ob' k → i < m → W.drew.heap.size ≤ f i ∧ w.heap[f i]? = some (if k < m then ob' else ob)) →
      (∀ i F R, kindOf kinds i = .got F R → i < m → R (f i) w) →
      (∀ i b ob ob', kindOf kinds i = .set b ob ob' → i < m → w.heap[b]? = some ob') →
      ∀ fuel, ops.size - m ≤ fuel → wpAny P .any ops Q fuel (upto ops.size m) (puts (dl f) a0) w) :
    (Code.region id ops true).wp P Q a0 W := by
  have hmn' := of_decide_eq_true hmn
  refine wp_region_any hm ?_
  refine any_until m (fun l a w => (∀ j, m ≤ j → l.getD j false = false) ∧ PInv S .any ops (kindOf kinds) a0 W.drew l a w) ?_ ?_ ?_ _ _ _ _ ?_ ?_
  · rintro fuel l a w ⟨h1, hs, f, rfl, hB, hN, -, -, -, hR, hZ⟩ h2 hc
    obtain rfl := upto_eq hs h2 h1
    rw [count_upto _ _ (by omega)] at hc
    rw [canon_upto (and_l hok) f m (by omega), hdl f]
    refine fin f w hB (fun i ob ob' k hk hi => ?_) (fun i F R hk hi => hR i F R hk (h2 i hi)) (fun i b ob ob' hk hi => by
      have := hZ i b ob ob' hk
      rwa [if_pos (h2 i hi)] at this) fuel hc
    obtain ⟨g1, -, g3⟩ := hN i ob ob' k hk (h2 i hi)
    refine ⟨g1, g3.trans ?_⟩
    by_cases hkm : k < m
    · rw [if_pos (h2 k hkm), if_pos hkm]
    · rw [h1 k (by omega), if_neg hkm]; rfl
  · rintro l a w ⟨h1, hs, -⟩ hn hr
    have := all_listedB hdag l hs hr (m + 1) m (by omega) (by omega)
    rw [h1 m (Nat.le_refl _)] at this; cases this
  · rintro l a w i ⟨h1, hI⟩ hn hi
    have hC := hI
    obtain ⟨-, -, -, -, -, -, -, hC, -, -⟩ := hC
    have him := preT_lt hpre hi hC h1 hn
    refine wpOp_mono (fun a w h => ⟨fun j hj => ?_, h⟩) (pinv_step (and_l hok) (and_r hok) (okK_is hkk) hlast (fun i b ob ob' h => (Array.getElem?_eq_some_iff.1 (set_of hset i b ob ob' h)).1) (hob i him) hI hi)
    obtain ⟨hil, -⟩ := ready_get hi
    rw [getD_set l i j hil, if_neg (by omega)]
    exact h1 j hj
  · simp
  · exact ⟨fun j _ => by rw [Array.getD_eq_getD_getElem?, Array.getElem?_replicate]; split <;> rfl, pinv_start _ (set_of hset)⟩
end
end Go.Proofs.YtagnikeaellbiaaGreatDoor.G
