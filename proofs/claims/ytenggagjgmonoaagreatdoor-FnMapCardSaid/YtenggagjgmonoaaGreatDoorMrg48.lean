import Derived.Test.YtenggagjgmonoaaGreatDoorMrg44
import Derived.Test.YtenggagjgmonoaaGreatDoorMrg46
import Derived.Test.YtenggagjgmonoaaGreatDoorMrg47
import Derived.Deep.DeepCutAuto
import Derived.Test.YtenggagjgmonoaaGreatDoorMrg45
import Derived.WalkKit
import Derived.ProofKit
import Derived.OpenShut
import Derived.ShutString
import Derived.ChangeOld
import Derived.OpenVars
import Derived.Deep.DeepHandedRow
import Derived.ChangeSlices
import Derived.Carry
namespace Go.Proofs.YtenggagjgmonoaaGreatDoor
open Go.RowKit
set_option linter.unusedVariables false

theorem keep3 {w1 w2 : World} {p0 p1 p2 : Addr} {v0 v1 v2 : Value} (h : w1.cell? p0 = some v0 ∧ w1.cell? p1 = some v1 ∧ w1.cell? p2 = some v2) (b : Below w1.heap.size w1 w2) : w2.cell? p0 = some v0 ∧ w2.cell? p1 = some v1 ∧ w2.cell? p2 = some v2 :=
  ⟨keepC h.1 b, keepC h.2.1 b, keepC h.2.2 b⟩
theorem keep5 {w1 w2 : World} {p0 p1 p2 p3 p4 : Addr} {v0 v1 v2 v3 v4 : Value} (h : w1.cell? p0 = some v0 ∧ w1.cell? p1 = some v1 ∧ w1.cell? p2 = some v2 ∧ w1.cell? p3 = some v3 ∧ w1.cell? p4 = some v4) (b : Below w1.heap.size w1 w2) : w2.cell? p0 = some v0 ∧ w2.cell? p1 = some v1 ∧ w2.cell? p2 = some v2 ∧ w2.cell? p3 = some v3 ∧ w2.cell? p4 = some v4 :=
  ⟨keepC h.1 b, keepC h.2.1 b, keepC h.2.2.1 b, keepC h.2.2.2.1 b, keepC h.2.2.2.2 b⟩
set_option maxRecDepth 100000 in
set_option maxHeartbeats 8000000 in
theorem mapW (q : Option Addr) (len cap : Nat) (w : World) (hv : Cod w (.slice q len cap)) (hl : len ≤ 1048576) (hT : TabK w) :
    Calls Tryz.prog 3 #[.slice q len cap] w fun e w' => e = .returned (.bool true) ∧ Below w.heap.size w w' := by
  have hgw : 2 < w.heap.size := World.block_lt_of_cell? w _ (hT 0 (by omega))
  have hli : (len : Int) ≤ 1048576 := by omega
  have HT : ∀ w', Below w.heap.size w w' → TabK w' := fun w' hb i hi => (hb.cell (p := ⟨2, i, none⟩) hgw).trans (hT i hi)
  have D1 := dmap_any _ w hv
  have D2 := fun w' (hb : Below w.heap.size w w') => dgrp_any _ w' (hv.below hb)
  clear hv hl
  go_enter Tryz.func3, Tryz.ntmps3
  go_wp2_with fail
  refine D1.mono ?_
  rintro e w1 ⟨⟨u, hu, rfl⟩, b1⟩
  clear D1
  obtain ⟨X, Y, V, Y2, MI, MS, ON, hVm, hV0, hV1, MN, NG⟩ := map_facts u
  go_wp2_with fail
  refine (MI _).mono ?_
  rintro e w2 ⟨rfl, b2⟩
  replace b2 := b1.trans (b2.mono b1.size)
  clear b1 MI
  have k := K3.new w2 26 X Y false
  have b4 := b2.alloc b2.size (Obj.cells #[.int .u64 X, .int .u64 Y, .bool false] 26)
  go_upto_region 5 with fail
  generalize w2.alloc (Obj.cells #[.int .u64 X, .int .u64 Y, .bool false] 26) = W4 at *
  generalize w2.heap.size = B at *
  have s0 : W4.drew.cell? ⟨B, 0, none⟩ = some (.int .u64 X) ∧ W4.drew.cell? ⟨B, 1, none⟩ = some (.int .u64 Y) ∧ W4.drew.cell? ⟨B, 2, none⟩ = some (.bool false) := ⟨k.c0, k.c1, k.c2⟩
  have kd : K3 W4.drew 26 B X Y false := k
  have c0 := s0.1
  have c1 := s0.2.1
  have c2 := s0.2.2
  clear k
  go_region_held3 (fun w' => w'.cell? ⟨B, 0, none⟩ = some (.int .u64 X) ∧ w'.cell? ⟨B, 1, none⟩ = some (.int .u64 Y) ∧ w'.cell? ⟨B, 2, none⟩ = some (.bool false)) (first | exact s0 | exact keep3 s0 b5 | exact keep3 (keep3 s0 b5) b6 | go_keep) (first
    | (go_at_call 6; refine (MS _).mono ?_; rintro e w5 ⟨rfl, b5⟩)
    | (go_at_call 7; refine (ON _).mono ?_; rintro e w6 ⟨rfl, b6⟩))
  have k6 := (kd.keep b5).keep b6
  have b7 := b4.drew.trans ((b5.trans (b6.mono b5.size)).mono b4.drew.size)
  clear s0 kd c0 c1 c2 b4 b5 b6 MS ON b2
  go_upto_region 8 with fail
  go_cut [5, 45] (fun _ s45 wx => s45 = .bool false ∧ Below w.heap.size w wx)
  case first =>
    by_cases hV : V = 0
    · subst hV
      go_region
      go_wp2_with fail
      go_meet
      case rel => exact ⟨rfl, b7.drew⟩
    · have hz : (V != 0) = true := by simp [hV]
      have hw : IntKind.u64.wrap (2305843009213693951 - V) = 2305843009213693951 - V := by rw [IntKind.wrap_u64]; omega
      have MN' := MN hV
      have s0 : w6.drew.cell? ⟨B, 0, none⟩ = some (.int .u64 X) ∧ w6.drew.cell? ⟨B, 1, none⟩ = some (.int .u64 Y) ∧ w6.drew.cell? ⟨B, 2, none⟩ = some (.bool false) := ⟨k6.c0, k6.c1, k6.c2⟩
      have c0 := s0.1
      have c1 := s0.2.1
      have c2 := s0.2.2
      go_region_held3 (fun w' => w'.cell? ⟨B, 0, none⟩ = some (.int .u64 X) ∧ w'.cell? ⟨B, 1, none⟩ = some (.int .u64 Y) ∧ w'.cell? ⟨B, 2, none⟩ = some (.bool false)) (first | exact s0 | exact keep3 s0 b8 | exact keep3 (keep3 s0 b8) b9 | go_keep) (first
        | (go_at_call 5; refine (MN' _).mono ?_; rintro e w8 ⟨rfl, b8⟩)
        | (go_at_call 8; refine (NG _).mono ?_; rintro e w9 ⟨rfl, b9⟩))
      go_wp2_with fail
      go_meet
      case rel => exact ⟨rfl, b7.drew.trans ((b8.trans (b9.mono b8.size)).mono b7.drew.size)⟩
  case rest =>
    obtain ⟨rfl, b9⟩ := hcut
    clear k6 b7 hVm hV0 hV1 MN NG
    go_wp2_with fail
    refine (D2 _ b9).mono ?_
    rintro e w10 ⟨⟨m, t, hm, ht, rfl⟩, b10⟩
    replace b10 := b9.trans (b10.mono b9.size)
    clear b9 D2
    by_cases h : okT m t
    · obtain ⟨a0, a1, x, y, x0, y0, x1, y1, c, GI, GS, HF, M0, M1, AD, ON⟩ := grp_facts m t h
      clear h hm ht
      go_wp2_with fail
      refine (GI _ (HT _ b10)).mono ?_
      rintro e w11 ⟨rfl, b11⟩
      replace b11 := b10.trans (b11.mono b10.size)
      clear b10 GI
      have k := K3.new w11 26 x y c
      have b12 := b11.alloc b11.size (Obj.cells #[.int .u64 x, .int .u64 y, .bool c] 26)
      go_wp2_with fail
      generalize w11.alloc (Obj.cells #[.int .u64 x, .int .u64 y, .bool c] 26) = W12 at *
      generalize w11.heap.size = B8 at *
      refine (HF _ (HT _ b12)).mono ?_
      rintro e w13 ⟨g, cg, rfl, ⟨e0, e1⟩, b13⟩
      replace k := k.keep b13
      replace b13 := b12.trans (b13.mono b12.size)
      clear b12 HF
      go_wp2_with fail
      refine (GS _).mono ?_
      rintro e w14 ⟨rfl, b14⟩
      replace e0 := keepC e0 b14
      replace e1 := keepC e1 b14
      replace k := k.keep b14
      replace b14 := b13.trans (b14.mono b13.size)
      clear b13 GS
      have bA := (Below.refl _ w14).alloc (Nat.le_refl _) (Obj.cells #[.int .u64 x, .int .u64 y, .bool c] 26)
      replace e0 := keepC e0 bA
      replace e1 := keepC e1 bA
      replace k := k.keep bA
      replace bA := b14.trans (bA.mono b14.size)
      clear b14
      go_upto_region 16 with fail
      generalize w14.alloc (Obj.cells #[.int .u64 x, .int .u64 y, .bool c] 26) = W15 at *
      have s0 : W15.drew.cell? ⟨B8, 0, none⟩ = some (.int .u64 x) ∧ W15.drew.cell? ⟨B8, 1, none⟩ = some (.int .u64 y) ∧ W15.drew.cell? ⟨B8, 2, none⟩ = some (.bool c) ∧ W15.drew.cell? ⟨g, 0, none⟩ = some (.int .u64 a0) ∧ W15.drew.cell? ⟨g, 1, none⟩ = some (.int .u64 a1) := ⟨k.c0, k.c1, k.c2, e0, e1⟩
      have c0 := s0.1
      have c1 := s0.2.1
      have c2 := s0.2.2.1
      have c3 := s0.2.2.2.1
      have c4 := s0.2.2.2.2
      clear e0 e1 k
      go_region_held3 (fun w' => w'.cell? ⟨B8, 0, none⟩ = some (.int .u64 x) ∧ w'.cell? ⟨B8, 1, none⟩ = some (.int .u64 y) ∧ w'.cell? ⟨B8, 2, none⟩ = some (.bool c) ∧ w'.cell? ⟨g, 0, none⟩ = some (.int .u64 a0) ∧ w'.cell? ⟨g, 1, none⟩ = some (.int .u64 a1)) (first | exact s0 | exact keep5 s0 b15 | exact keep5 (keep5 s0 b15) b16 | exact keep5 (keep5 (keep5 s0 b15) b16) b17 | exact keep5 (keep5 (keep5 (keep5 s0 b15) b16) b17) b18 | go_keep) (first
        | (go_at_call 5; refine (M0 _).mono ?_; rintro e w15 ⟨rfl, b15⟩)
        | (go_at_call 5; refine (M1 _).mono ?_; rintro e w16 ⟨rfl, b16⟩)
        | (go_at_call 13; refine (AD _).mono ?_; rintro e w17 ⟨rfl, b17⟩)
        | (go_at_call 7; refine (ON _).mono ?_; rintro e w18 ⟨rfl, b18⟩))
      have bZ := b15.trans ((b16.trans ((b17.trans (b18.mono b17.size)).mono b16.size)).mono b15.size)
      go_wp2_with fail
      go_ret
      exact ⟨rfl, bA.drew.trans (bZ.mono bA.drew.size)⟩
    · have GI := fun w' => h2gI_of m t _ _ _ _ w' (fun w'' hb => h2gN_no m t w'' h)
      have GS := fun w' => h2gS_no m t w' h
      have HF := fun w' => h2fI_no m t 2305843009213693951 2 w' (fun hh => h ((okT_H (by decide) (by decide) (by decide)).2 hh))
      clear h hm ht
      go_wp2_with fail
      refine (GI _).mono ?_
      rintro e w11 ⟨rfl, b11⟩
      replace b11 := b10.trans (b11.mono b10.size)
      clear b10 GI
      have b12 := b11.alloc b11.size (Obj.cells #[.int .u64 0, .int .u64 0, .bool true] 26)
      go_wp2_with fail
      refine (HF _).mono ?_
      rintro e w13 ⟨rfl, b13⟩
      replace b13 := b12.trans (b13.mono b12.size)
      clear b12 HF
      go_wp2_with fail
      refine (GS _).mono ?_
      rintro e w14 ⟨rfl, b14⟩
      replace b14 := b13.trans (b14.mono b13.size)
      clear b13 GS
      have bA := b14.alloc b14.size (Obj.cells #[.int .u64 0, .int .u64 0, .bool true] 26)
      go_upto_region 16 with fail
      go_region
      go_wp2_with fail
      go_ret
      exact ⟨rfl, bA.drew⟩
end Go.Proofs.YtenggagjgmonoaaGreatDoor

namespace Go.Proofs.YtenggagjgmonoaaGreatDoor
open Go.ChangeShapes Go.WideShapes Go.ChangeAt Go.RowKit
set_option linter.unusedVariables false

theorem cellsU8 : Tryz.prog.cellsOf 5 = 1 := by kernel_rfl
/-- code that came in as an argument -/
theorem cod_of {H : Type} {enc : TypeId × Value → H} {W : World} {a0 : Option Addr} {len cap : Nat} {d0 : DataW H} {p : List MemPlace}
    (h0 : DataW.Trod enc Tryz.prog W 0 (fun _ => true) true 22 (.slice a0 len cap) d0 p) (hl : len ≤ 1048576) : Cod W (.slice a0 len cap) := by
  obtain ⟨fuel, hf⟩ := h0
  rcases open_ints Tryz.underlying22 Tryz.underlying5 cellsU8 hf with ⟨hcs, hx⟩ | ⟨a, len', cap', zs, hcs, _, hl', hm, hz, hx, hcell, hwz⟩
  · simp [Value.cells] at hcs
    obtain ⟨rfl, rfl, rfl⟩ := hcs
    exact .inl ⟨_, _, rfl⟩
  · simp [Value.cells] at hcs
    obtain ⟨rfl, rfl, rfl⟩ := hcs
    simp only [if_true] at hz
    by_cases h1 : len = 0
    · subst h1; exact .inl ⟨_, _, rfl⟩
    · have hsp : a.spot = none := by
        have := hcell 0 (by omega)
        simp only [Addr.add, if_true] at this
        unfold World.cell? at this
        split at this
        · split at this
          · cases this
          · rename_i h; simpa using h
        · cases this
      obtain ⟨b, o, sp⟩ := a
      obtain rfl : sp = none := hsp
      refine .inr ⟨b, o, len, cap, by omega, hl, rfl, fun i hi => ?_⟩
      have hc := hcell i (by omega)
      have ha : (⟨b, o, none⟩ : Addr).add i = ⟨b, o + i, none⟩ := by unfold Addr.add; split <;> simp_all
      rw [ha] at hc
      have hw := hwz (zs.getD i 0) (by rw [List.getD_eq_getElem?_getD, List.getElem?_eq_getElem (by omega)]; exact List.getElem_mem _)
      have h2 : 0 ≤ zs.getD i 0 ∧ zs.getD i 0 ≤ 255 := by simpa [Lit.wf, IntKind.min, IntKind.max, IntKind.signed, IntKind.bits] using hw
      exact ⟨(zs.getD i 0).toNat, by omega, by rw [hc]; congr 2; omega⟩
end Go.Proofs.YtenggagjgmonoaaGreatDoor
