import Derived.Test.YtagnikeaellbiaaGreatDoorMrg19
import Derived.Test.YtagnikeaellbiaaGreatDoorMrg0
import Derived.Deep.RegionHeld3
import Derived.Test.YtagnikeaellbiaaGreatDoorMrg42
import Derived.Test.YtagnikeaellbiaaGreatDoorMrg33
import Derived.Test.YtagnikeaellbiaaGreatDoorMrg34
import Derived.Test.YtagnikeaellbiaaGreatDoorMrg37
namespace Go.Proofs.YtagnikeaellbiaaGreatDoor
open Go.RowKit
set_option linter.unusedVariables false

theorem mthN (w : World) : (method 325 75 (.agg #[]) "loop.example/s02095/impl.value").run Tryz.prog w = .ok (164, .agg #[]) w := by kernel_rfl
set_option maxRecDepth 100000 in
theorem vluN (w : World) :
    Calls Tryz.prog 164 #[.agg #[]] w fun e w' => e = .returned (.int .u64 2305843010818082053) ∧ w' = w.alloc (.cells #[] 75) := by
  go_enter Tryz.func164, Tryz.ntmps164
  go_wp2
  go_ret
  exact ⟨rfl, rfl⟩
theorem fldN : Array.foldl (fun (cs : Array Value) (x : Value × Nat) => cs.setIfInBounds x.snd x.fst) #[Value.int IntKind.u64 0] (#[] : Array Value).zipIdx 0 0 = #[Value.int .u64 0] := rfl

theorem celN : Tryz.prog.cellsOf 77 = 1 := by kernel_rfl
theorem bytN : byteOfCell Tryz.prog Tryz.prog.depth 77 0 = some 0 := by kernel_rfl
theorem prtN {W : World} {b : Nat} {cs : Array Value} (hW : W.heap[b]? = some (.cells cs 77)) : (partAt ⟨b, 0, none⟩ 0 0).run Tryz.prog W = .ok ⟨b, 0, none⟩ W := by
  have h : (byteOf ⟨b, 0, none⟩).run Tryz.prog W = .ok 0 W := by
    have hs : W.shape? b = some (77, cs.size) := by simp [World.shape?, hW]
    simp [byteOf, noView, viewAt, shape, program, Sem.run, hs, celN, bytN, go_sem]
  simp [partAt, h, go_sem]

set_option maxRecDepth 100000 in
set_option maxHeartbeats 2000000 in
theorem timN_any (a b : Nat) (w : World) (ha : a < 2305843010818082053) (hb : b < 2305843010818082053) :
    Calls Tryz.prog 64 #[.agg #[.int .u64 a], .agg #[.int .u64 b]] w fun e w' => e = .returned (.agg #[.int .u64 (a * b % 2305843010818082053 : Nat)]) ∧ Below w.heap.size w w' := by
  have hme := mthN
  have hf := fldN
  have M := mul64_any a b (by omega) (by omega)
  have D := fun w => div_any (a * b / 18446744073709551616) (a * b % 18446744073709551616) 2305843010818082053 w (by
    rw [Nat.div_lt_iff_lt_mul (by decide)]
    have : a * b ≤ 2305843010818082052 * 2305843010818082052 := Nat.mul_le_mul (by omega) (by omega)
    omega) (by decide) (Nat.mod_lt _ (by decide))
  have e : a * b / 18446744073709551616 * 18446744073709551616 + a * b % 18446744073709551616 = a * b := by omega
  rw [e] at D
  clear e
  generalize a * b / 18446744073709551616 = hi at *
  generalize a * b % 18446744073709551616 = lo at *
  obtain ⟨c, hc⟩ : ∃ c, c = a * b % 2305843010818082053 := ⟨_, rfl⟩
  rw [← hc] at D ⊢
  clear hc ha hb
  obtain ⟨X, hX⟩ : ∃ X, X = ((w.alloc (Obj.cells #[.int .u64 (a : Int)] 77)).alloc (Obj.cells #[.int .u64 (b : Int)] 77)).alloc (Obj.cells #[.int .u64 0] 77) := ⟨_, rfl⟩
  have hX0 : X.heap[w.heap.size]? = some (.cells #[.int .u64 (a : Int)] 77) := by
    rw [hX]
    exact (Below.heap_alloc _ _ _ (by simp; omega)).trans ((Below.heap_alloc _ _ _ (by simp)).trans (heap_alloc_new w _))
  have hp1 := prtN hX0
  have hX1 : (X.alloc (Obj.cells #[] 75)).heap[w.heap.size]? = some (.cells #[.int .u64 (a : Int)] 77) := (Below.heap_alloc _ _ _ (Array.getElem?_eq_some_iff.1 hX0).1).trans hX0
  have hp2 := prtN hX1
  have hp3 := prtN (W := (X.alloc (Obj.cells #[] 75)).drew) hX1
  rw [hX] at hp1 hp2 hp3
  clear hX hX0 hX1
  go_enter Tryz.func64, Tryz.ntmps64
  go_wp2_with fail
  refine (M _).mono ?_
  rintro e w' ⟨rfl, rfl⟩
  go_wp2_with fail
  refine (vluN _).mono ?_
  rintro e w' ⟨rfl, rfl⟩
  go_wp2_with fail
  refine (D _).mono ?_
  rintro e w' ⟨⟨z, rfl⟩, rfl | rfl⟩
  · go_wp2
    refine bodyPost_ret (v := .agg #[.int .u64 c]) (by simp [results, Tryz.results64, go_sem]) rfl ⟨rfl, ?_⟩
    exact ((((Below.refl _ _).alloc (Nat.le_refl _) _).alloc (by simp) _).alloc (by simp; omega) _).alloc (by simp; omega) _
  · go_wp2
    refine bodyPost_ret (v := .agg #[.int .u64 c]) (by simp [results, Tryz.results64, go_sem]) rfl ⟨rfl, ?_⟩
    exact (((((Below.refl _ _).alloc (Nat.le_refl _) _).alloc (by simp) _).alloc (by simp; omega) _).alloc (by simp; omega) _).drew
set_option maxRecDepth 100000 in
set_option maxHeartbeats 2000000 in
theorem mnN_lt (a b d c : Int) (w : World) (h : a < b) (hd : IntKind.u64.wrap (a - b) = d) (hc : IntKind.u64.wrap (d + 2305843010818082053) = c) :
    Calls Tryz.prog 63 #[.agg #[.int .u64 a], .agg #[.int .u64 b]] w fun e w' => e = .returned (.agg #[.int .u64 c]) ∧ Below w.heap.size w w' := by
  have hme := mthN
  have hf := fldN
  obtain ⟨X, hX⟩ : ∃ X, X = ((w.alloc (Obj.cells #[.int .u64 a] 77)).alloc (Obj.cells #[.int .u64 b] 77)).alloc (Obj.cells #[.int .u64 0] 77) := ⟨_, rfl⟩
  have hX0 : X.heap[w.heap.size]? = some (.cells #[.int .u64 a] 77) := by
    rw [hX]
    exact (Below.heap_alloc _ _ _ (by simp; omega)).trans ((Below.heap_alloc _ _ _ (by simp)).trans (heap_alloc_new w _))
  have hp1 := prtN hX0
  have hX1 : (X.alloc (Obj.cells #[] 75)).heap[w.heap.size]? = some (.cells #[.int .u64 a] 77) := (Below.heap_alloc _ _ _ (Array.getElem?_eq_some_iff.1 hX0).1).trans hX0
  have hp2 := prtN hX1
  rw [hX] at hp1 hp2
  clear hX hX0 hX1
  go_enter Tryz.func63, Tryz.ntmps63
  go_wp2_with fail
  refine (vluN _).mono ?_
  rintro e w' ⟨rfl, rfl⟩
  go_wp2
  refine bodyPost_ret (v := .agg #[.int .u64 c]) (by simp [results, Tryz.results63, go_sem]) rfl ⟨rfl, ?_⟩
  exact ((((Below.refl _ _).alloc (Nat.le_refl _) _).alloc (by simp) _).alloc (by simp; omega) _).alloc (by simp; omega) _
set_option maxRecDepth 100000 in
set_option maxHeartbeats 2000000 in
theorem mnN_ge (a b d : Int) (w : World) (h : b ≤ a) (hd : IntKind.u64.wrap (a - b) = d) :
    Calls Tryz.prog 63 #[.agg #[.int .u64 a], .agg #[.int .u64 b]] w fun e w' => e = .returned (.agg #[.int .u64 d]) ∧ Below w.heap.size w w' := by
  have hme := mthN
  have hf := fldN
  have hlt : ¬ a < b := by omega
  clear h
  obtain ⟨X, hX⟩ : ∃ X, X = ((w.alloc (Obj.cells #[.int .u64 a] 77)).alloc (Obj.cells #[.int .u64 b] 77)).alloc (Obj.cells #[.int .u64 0] 77) := ⟨_, rfl⟩
  have hX0 : X.heap[w.heap.size]? = some (.cells #[.int .u64 a] 77) := by
    rw [hX]
    exact (Below.heap_alloc _ _ _ (by simp; omega)).trans ((Below.heap_alloc _ _ _ (by simp)).trans (heap_alloc_new w _))
  have hp1 := prtN hX0
  rw [hX] at hp1
  clear hX hX0
  go_enter Tryz.func63, Tryz.ntmps63
  go_wp2
  refine bodyPost_ret (v := .agg #[.int .u64 d]) (by simp [results, Tryz.results63, go_sem]) rfl ⟨rfl, ?_⟩
  exact (((Below.refl _ _).alloc (Nat.le_refl _) _).alloc (by simp) _).alloc (by simp; omega) _
end Go.Proofs.YtagnikeaellbiaaGreatDoor

/-
  The program's proofs: prove, accepts.
-/
namespace Go.Proofs.YtagnikeaellbiaaGreatDoor
open Go.RowKit M
set_option linter.unusedVariables false

theorem RN.new (w : World) (z : Int) : RN (w.alloc (.cells #[.int .u64 z] 77)) w.heap.size z := heap_alloc_new w _
theorem RN.alloc' {W : World} {b : Nat} {z : Int} (h : RN W b z) (o : Obj) : RN (W.alloc o) b z := (Below.heap_alloc W o b (Array.getElem?_eq_some_iff.1 h).1).trans h
theorem RN.at' {W : World} {b b' : Nat} {z : Int} (h : RN W b z) (e : b = b') : RN W b' z := e ▸ h
theorem prf_res {W : World} {b : Nat} {x y : Int} {fn : Func} {p : Tmp} (h : fn.results = #[.cell p 37]) (tmps : Array Value) (hp : tmps.getD p undef = .pointer (some ⟨b, 0, none⟩)) (hc : P2 W 37 b x y) :
    (results fn tmps).run Tryz.prog W = .ok (.agg #[.int .u64 x, .int .u64 y]) W :=
  results_mid h tmps W b 0 [.int .u64 x, .int .u64 y] _ hp hc.range Tryz.underlying37 rfl (by kernel_rfl)
theorem mnN_any (a b : Nat) (w : World) (ha : a < 2305843010818082053) (hb : b < 2305843010818082053) :
    Calls Tryz.prog 63 #[.agg #[.int .u64 a], .agg #[.int .u64 b]] w fun e w' => e = .returned (.agg #[.int .u64 ((a + (2305843010818082053 - b) % 2305843010818082053) % 2305843010818082053 : Nat)]) ∧ Below w.heap.size w w' := by
  by_cases h : a < b
  · have e : ((a + (2305843010818082053 - b) % 2305843010818082053) % 2305843010818082053 : Nat) = a + 2305843010818082053 - b := by
      rw [Nat.mod_eq_of_lt (show 2305843010818082053 - b < 2305843010818082053 by omega), Nat.mod_eq_of_lt (by omega)]; omega
    rw [e]
    refine mnN_lt a b ((a : Int) - b + 18446744073709551616) _ w (by omega) ?_ ?_
    · rw [IntKind.wrap_u64]; omega
    · rw [IntKind.wrap_u64]; omega
  · have e : ((a + (2305843010818082053 - b) % 2305843010818082053) % 2305843010818082053 : Nat) = a - b := by
      by_cases hb0 : b = 0
      · subst hb0
        rw [Nat.sub_zero, Nat.mod_self, Nat.add_zero, Nat.mod_eq_of_lt ha, Nat.sub_zero]
      · rw [Nat.mod_eq_of_lt (show 2305843010818082053 - b < 2305843010818082053 by omega)]
        have : a + (2305843010818082053 - b) = (a - b) + 2305843010818082053 := by omega
        rw [this, Nat.add_mod_right, Nat.mod_eq_of_lt (by omega)]
    rw [e]
    refine mnN_ge a b _ w (by omega) ?_
    rw [IntKind.wrap_u64]; omega
set_option maxRecDepth 100000 in
set_option maxHeartbeats 8000000 in
theorem prvI_any (md n g1 k1 g2 k2 k r : Nat) (a b : Pt) (cs ds : List Pt) (w : World) (hT : TabK w) (hmd : md < 3) (h1 : 1 ≤ n) (hn : n ≤ 200) (hlc : cs.length = n) (hld : ds.length = n) (ha : on a) (hoc : ∀ p ∈ cs, on p) (hc : Cps w g1 cs) (hd : Cps w g2 ds)
    (hk : k < 2305843010818082053) (hr : r < 2305843010818082053) (m : Pt) (hm : m = mixTo (wgts md b cs ds n) cs n) (c : Nat) (hcc : c = chal md b m (nt k m) (nt r a) (nt r m)) :
    Calls Tryz.prog 38 #[.agg #[.string (ctxB md), .int .u64 (px b), .int .u64 (py b), .bool (pb b), .slice (some ⟨g1, 0, none⟩) n k1, .slice (some ⟨g2, 0, none⟩) n k2], .agg #[.int .u64 k], .agg #[.int .u64 (px a), .int .u64 (py a), .bool (pb a)], .agg #[.int .u64 r]] w fun e w' => e = .returned (.agg #[.int .u64 c, .int .u64 ((r + (2305843010818082053 - c * k % 2305843010818082053) % 2305843010818082053) % 2305843010818082053 : Nat)]) ∧ Below w.heap.size w w' := by
  have hgw : 3 < w.heap.size := World.block_lt_of_cell? w _ (hT 0 (by omega))
  have hom : on m := by rw [hm]; exact mixTo_on hoc n
  have hcl : c < 2305843010818082053 := by rw [hcc]; exact scaN_lt _ _
  have hWt : ∀ w', Below w.heap.size w w' → Calls Tryz.prog 55 #[.agg #[.string (ctxB md), .int .u64 (px b), .int .u64 (py b), .bool (pb b), .slice (some ⟨g1, 0, none⟩) n k1, .slice (some ⟨g2, 0, none⟩) n k2]] w' fun e w'' => ∃ x, e = .returned (slG n x) ∧ w''.ownsRow w.heap.size 77 1 (slG n x) n ((wgts md b cs ds n).map (Value.int .u64)) ∧ Below w'.heap.size w' w'' := fun w' hb => by
    refine (wgtI_of md n g1 k1 g2 k2 b cs ds w' (keepT hT hgw hb) hmd h1 hn hlc hld (hc.below (B := w.heap.size) hb hc.lt) (hd.below (B := w.heap.size) hb hd.lt)).mono ?_
    rintro e w'' ⟨g, cap, rfl, hown, hb2⟩
    have e := slG_of n g cap (own_cap hown)
    exact ⟨g * 18446744073709551616 + cap, by rw [e], by rw [e]; exact hown.mono hb.size, hb2⟩
  have hMx : ∀ x w', Below w.heap.size w w' → w'.ownsRow w.heap.size 77 1 (slG n x) n ((wgts md b cs ds n).map (Value.int .u64)) → Calls Tryz.prog 56 #[slG n x, .slice (some ⟨g1, 0, none⟩) n k1] w' fun e w'' => e = .returned (.agg #[.int .u64 (px m), .int .u64 (py m), .bool (pb m)]) ∧ Below w'.heap.size w' w'' := fun x w' hb hown => by
    rw [hm]
    unfold slG at hown ⊢
    exact sumW_any _ _ n _ cs n g1 k1 w' hn (Nat.le_refl _) (fun i hi => wgts_in' md b cs ds n i hi) (hown.lt _ rfl).2 (fun i hi => own_cell hown i hi) hlc hoc (hc.below hb hc.lt)
  have T1 := fun w => ctmV hom k (by omega) w
  have T2 := fun w => ctmV ha r (by omega) w
  have T3' := fun w => ctmV hom r (by omega) w
  rw [ptW_eq, ptW_eq] at T1 T2 T3'
  have CH := fun w hT => chlI_of md b m (nt k m) (nt r a) (nt r m) (some ⟨g1, 0, none⟩) n k1 (some ⟨g2, 0, none⟩) n k2 w hT hmd
  rw [← hcc] at CH
  have MU := fun w => timN_any c k w hcl hk
  have hx : c * k % 2305843010818082053 < 2305843010818082053 := Nat.mod_lt _ (by decide)
  have MN := fun w => mnN_any r (c * k % 2305843010818082053) w hr hx
  generalize ((r + (2305843010818082053 - c * k % 2305843010818082053) % 2305843010818082053) % 2305843010818082053 : Nat) = s at *
  generalize c * k % 2305843010818082053 = ck at *
  generalize nt k m = z at *
  generalize nt r m = y at *
  generalize nt r a = x at *
  generalize wgts md b cs ds n = ws at *
  clear hm hcc hx
  obtain ⟨X, hX⟩ : ∃ X, X = ((((w.alloc (Obj.cells #[.string (ctxB md), .int .u64 (px b), .int .u64 (py b), .bool (pb b), .slice (some ⟨g1, 0, none⟩) n k1, .slice (some ⟨g2, 0, none⟩) n k2] 65)).alloc (Obj.cells #[.int .u64 (k : Int)] 77)).alloc (Obj.cells #[.int .u64 (px a), .int .u64 (py a), .bool (pb a)] 62)).alloc (Obj.cells #[.int .u64 (r : Int)] 77)).alloc (Obj.cells #[.int .u64 0, .int .u64 0] 37) := ⟨_, rfl⟩
  have r0 : B6 X w.heap.size (ctxB md) (px b) (py b) (pb b) (some ⟨g1, 0, none⟩) n k1 (some ⟨g2, 0, none⟩) n k2 := by rw [hX]; exact ((((B6.new _ _ _ _ _ _ _ _ _ _ _).alloc _).alloc _).alloc _).alloc _
  have rk : RN X (w.heap.size + 1) (k : Int) := by rw [hX]; exact ((((RN.new _ _).at' (by simp)).alloc' _).alloc' _).alloc' _
  have ra : K3 X 62 (w.heap.size + 1 + 1) (px a) (py a) (pb a) := by rw [hX]; exact (((K3.new _ _ _ _ _).at (by simp)).alloc _).alloc _
  have rr : RN X (w.heap.size + 1 + 1 + 1) (r : Int) := by rw [hX]; exact ((RN.new _ _).at' (by simp)).alloc' _
  have rp : P2 X 37 (w.heap.size + 1 + 1 + 1 + 1) 0 0 := by rw [hX]; exact (P2.new _ _ _ _).at (by simp)
  have hb : Below w.heap.size w X := by
    rw [hX]
    exact (((((Below.refl _ w).alloc (Nat.le_refl _) _).alloc (by simp) _).alloc (by simp; omega) _).alloc (by simp; omega) _).alloc (by simp; omega) _
  go_enter Tryz.func38, Tryz.ntmps38
  go_wp2
  rw [← hX]
  clear hX
  have s0 : X.drew.cell? ⟨w.heap.size, 0, none⟩ = _ := r0.c0
  have s1 : X.drew.cell? ⟨w.heap.size, 1, none⟩ = _ := r0.c1
  have s2 : X.drew.cell? ⟨w.heap.size, 2, none⟩ = _ := r0.c2
  have s3 : X.drew.cell? ⟨w.heap.size, 3, none⟩ = _ := r0.c3
  have s4 : X.drew.cell? ⟨w.heap.size, 4, none⟩ = _ := r0.c4
  have s5 : X.drew.cell? ⟨w.heap.size, 5, none⟩ = _ := r0.c5
  have hbD : ∀ w', G.Sides [] X.drew w' → Below w.heap.size w w' := fun w' h => hb.drew.trans (h.below.mono hb.size)
  refine G.pool_list [] [.val (.agg #[.string (ctxB md), .int .u64 (px b), .int .u64 (py b), .bool (pb b), .slice (some ⟨g1, 0, none⟩) n k1, .slice (some ⟨g2, 0, none⟩) n k2]),
      .got (slG n) (fun x w' => w'.ownsRow w.heap.size 77 1 (slG n x) n (ws.map (Value.int .u64))),
      .val (.pointer (some ⟨w.heap.size, 4, none⟩)),
      .val (.slice (some ⟨g1, 0, none⟩) n k1),
      .val (.agg #[.int .u64 (px m), .int .u64 (py m), .bool (pb m)]),
      .new (.cells #[.int .u64 0, .int .u64 0, .bool false] 62) (.cells #[.int .u64 (px m), .int .u64 (py m), .bool (pb m)] 62) 6,
      .put 5] [[4], [11], [4], [13], [12, 14], [], [9, 15]] (fun f => [(some 11, .agg #[.string (ctxB md), .int .u64 (px b), .int .u64 (py b), .bool (pb b), .slice (some ⟨g1, 0, none⟩) n k1, .slice (some ⟨g2, 0, none⟩) n k2]), (some 12, slG n (f 1)), (some 13, .pointer (some ⟨w.heap.size, 4, none⟩)), (some 14, .slice (some ⟨g1, 0, none⟩) n k1), (some 15, .agg #[.int .u64 (px m), .int .u64 (py m), .bool (pb m)]), (some 9, .pointer (some ⟨f 5, 0, none⟩)), (none, undef)]) (by kernel_rfl) (by kernel_rfl) (by kernel_rfl) (by kernel_rfl) (fun _ => by kernel_rfl) (G.last_of [.cells #[.int .u64 0, .int .u64 0, .bool false] 62] (fun F R hm => by simp only [List.mem_cons, List.not_mem_nil, or_false, reduceCtorEq, false_or, G.Knd.got.injEq] at hm; obtain ⟨-, rfl⟩ := hm; exact (own_lasts _ _ _ _ _ _ (fun ob hm => by simp at hm; subst hm; exact ⟨_, _, rfl, by decide⟩))) (fun ob ob' k hm => by simp at hm; simp [hm]) (fun b ob ob' hm => by simp at hm)) (fun b ob ob' hm => by simp at hm) ?_ ?_
  · intro ix hix
    match ix, hix with
    | 0, _ => exact G.ob_val [(4, .pointer (some ⟨w.heap.size, 0, none⟩))] rfl rfl (fun _ => by kernel_rfl) (fun A w ⟨e0, _⟩ hB => ld_bat e0 (hB.cell s0 (by simp)) (hB.cell s1 (by simp)) (hB.cell s2 (by simp)) (hB.cell s3 (by simp)) (hB.cell s4 (by simp)) (hB.cell s5 (by simp)))
    | 1, _ => exact G.ob_got (fun f => [(11, .agg #[.string (ctxB md), .int .u64 (px b), .int .u64 (py b), .bool (pb b), .slice (some ⟨g1, 0, none⟩) n k1, .slice (some ⟨g2, 0, none⟩) n k2])]) rfl rfl (fun _ => by kernel_rfl) (fun f A w ⟨e0, _⟩ hB hh => cg1 cf_impl_batch_weights e0 (hWt w (hbD w hB)))
    | 2, _ => exact G.ob_val [(4, .pointer (some ⟨w.heap.size, 0, none⟩))] rfl rfl (fun _ => by kernel_rfl) (fun A w ⟨e0, _⟩ hB => fa_bat2 e0)
    | 3, _ => exact G.ob_val [(13, .pointer (some ⟨w.heap.size, 4, none⟩))] rfl rfl (fun _ => by kernel_rfl) (fun A w ⟨e0, _⟩ hB => ld_cpsl e0 (hB.cell s4 (by simp)))
    | 4, _ => exact G.ob_had (fun f => [(12, slG n (f 1)), (14, .slice (some ⟨g1, 0, none⟩) n k1)]) rfl rfl (fun _ => by kernel_rfl) (fun f A w ⟨e0, e1, _⟩ hB hh => cl2 cf_impl_weighted e0 e1 (hMx _ w (hbD w hB) (hh 12 (by decide) 1 rfl (by decide) _ _ rfl)))
    | 5, _ => exact G.ob_new rfl rfl (fun A w => al_cp)
    | 6, _ => exact G.ob_put 9 (fun f => [(9, .pointer (some ⟨f 5, 0, none⟩)), (15, .agg #[.int .u64 (px m), .int .u64 (py m), .bool (pb m)])]) rfl rfl rfl (by decide) (by kernel_rfl) rfl (fun _ => by kernel_rfl) (fun f A w ⟨e0, e1, _⟩ hr => pu_cp e0 e1 hr)
    | ix + 7, h => exact absurd h (by simp)
  intro f W1 hS1 hnew _ _ _
  have hb1 : Below X.heap.size X W1 := (Below.refl _ X).drew.trans hS1.below
  have rm : K3 W1 62 (f 5) (px m) (py m) (pb m) := (hnew 5 _ _ _ rfl (by decide)).2
  generalize f 5 = BM at *
  replace r0 := r0.keep hb1
  replace rk := rk.keep hb1
  replace ra := ra.keep hb1
  replace rr := rr.keep hb1
  replace rp := rp.keep hb1
  replace hb := hb.trans (hb1.mono hb.size)
  clear s0 s1 s2 s3 s4 s5 hbD hS1 hb1 hnew hWt hMx
  simp only [puts, List.foldl, Act.put, List.setIfInBounds_toArray, List.set_cons_zero, List.set_cons_succ]
  go_wp2
  have hT1 : TabK W1.drew := fun i hi => (hb.cell (p := ⟨3, i, none⟩) hgw).trans (hT i hi)
  have hg1 : 3 < W1.drew.heap.size := Nat.lt_of_lt_of_le hgw hb.size
  have s0 : W1.drew.cell? ⟨w.heap.size, 0, none⟩ = _ := r0.c0
  have s1 : W1.drew.cell? ⟨w.heap.size, 1, none⟩ = _ := r0.c1
  have s2 : W1.drew.cell? ⟨w.heap.size, 2, none⟩ = _ := r0.c2
  have s3 : W1.drew.cell? ⟨w.heap.size, 3, none⟩ = _ := r0.c3
  have s4 : W1.drew.cell? ⟨w.heap.size, 4, none⟩ = _ := r0.c4
  have s5 : W1.drew.cell? ⟨w.heap.size, 5, none⟩ = _ := r0.c5
  have kk : W1.drew.cell? ⟨w.heap.size + 1, 0, none⟩ = some (.int .u64 (k : Int)) := rk.cell
  have nn : W1.drew.cell? ⟨w.heap.size + 1 + 1 + 1, 0, none⟩ = some (.int .u64 (r : Int)) := rr.cell
  have a0 : W1.drew.cell? ⟨w.heap.size + 1 + 1, 0, none⟩ = _ := ra.c0
  have a1 : W1.drew.cell? ⟨w.heap.size + 1 + 1, 1, none⟩ = _ := ra.c1
  have a2 : W1.drew.cell? ⟨w.heap.size + 1 + 1, 2, none⟩ = _ := ra.c2
  have m0 : W1.drew.cell? ⟨BM, 0, none⟩ = _ := rm.c0
  have m1 : W1.drew.cell? ⟨BM, 1, none⟩ = _ := rm.c1
  have m2 : W1.drew.cell? ⟨BM, 2, none⟩ = _ := rm.c2
  refine pool_list [.val (.agg #[.string (ctxB md), .int .u64 (px b), .int .u64 (py b), .bool (pb b), .slice (some ⟨g1, 0, none⟩) n k1, .slice (some ⟨g2, 0, none⟩) n k2]),
      .val (.agg #[.int .u64 (px m), .int .u64 (py m), .bool (pb m)]),
      .val (.agg #[.int .u64 (px m), .int .u64 (py m), .bool (pb m)]),
      .val (.pointer (some ⟨w.heap.size + 1, 0, none⟩)),
      .val (.int .u64 (k : Int)),
      .val (.agg #[.int .u64 (px z), .int .u64 (py z), .bool (pb z)]),
      .val (.agg #[.int .u64 (px a), .int .u64 (py a), .bool (pb a)]),
      .val (.pointer (some ⟨w.heap.size + 1 + 1 + 1, 0, none⟩)),
      .val (.int .u64 (r : Int)),
      .val (.agg #[.int .u64 (px x), .int .u64 (py x), .bool (pb x)]),
      .val (.agg #[.int .u64 (px m), .int .u64 (py m), .bool (pb m)]),
      .val (.pointer (some ⟨w.heap.size + 1 + 1 + 1, 0, none⟩)),
      .val (.int .u64 (r : Int)),
      .val (.agg #[.int .u64 (px y), .int .u64 (py y), .bool (pb y)]),
      .val (.agg #[.int .u64 (c : Int)]),
      .new (.cells #[.int .u64 0] 77) (.cells #[.int .u64 (c : Int)] 77) 16,
      .put 15] [[4], [9], [9], [5], [19], [18, 20], [6], [7], [23], [22, 24], [9], [7], [27], [26, 28], [16, 17, 21, 25, 29], [], [10, 30]] (fun f => [(some 16, .agg #[.string (ctxB md), .int .u64 (px b), .int .u64 (py b), .bool (pb b), .slice (some ⟨g1, 0, none⟩) n k1, .slice (some ⟨g2, 0, none⟩) n k2]), (some 17, .agg #[.int .u64 (px m), .int .u64 (py m), .bool (pb m)]), (some 18, .agg #[.int .u64 (px m), .int .u64 (py m), .bool (pb m)]), (some 19, .pointer (some ⟨w.heap.size + 1, 0, none⟩)), (some 20, .int .u64 (k : Int)), (some 21, .agg #[.int .u64 (px z), .int .u64 (py z), .bool (pb z)]), (some 22, .agg #[.int .u64 (px a), .int .u64 (py a), .bool (pb a)]), (some 23, .pointer (some ⟨w.heap.size + 1 + 1 + 1, 0, none⟩)), (some 24, .int .u64 (r : Int)), (some 25, .agg #[.int .u64 (px x), .int .u64 (py x), .bool (pb x)]), (some 26, .agg #[.int .u64 (px m), .int .u64 (py m), .bool (pb m)]), (some 27, .pointer (some ⟨w.heap.size + 1 + 1 + 1, 0, none⟩)), (some 28, .int .u64 (r : Int)), (some 29, .agg #[.int .u64 (px y), .int .u64 (py y), .bool (pb y)]), (some 30, .agg #[.int .u64 (c : Int)]), (some 10, .pointer (some ⟨f 15, 0, none⟩)), (none, undef)]) (by kernel_rfl) (by kernel_rfl) (by kernel_rfl) (by kernel_rfl) (fun _ => by kernel_rfl) ?_ ?_
  · intro ix hix
    match ix, hix with
    | 0, _ => exact ob_val [(4, .pointer (some ⟨w.heap.size, 0, none⟩))] rfl rfl (fun _ => by kernel_rfl) (fun A w ⟨e0, _⟩ hB => ld_bat e0 (keepC s0 hB) (keepC s1 hB) (keepC s2 hB) (keepC s3 hB) (keepC s4 hB) (keepC s5 hB))
    | 1, _ => exact ob_val [(9, .pointer (some ⟨BM, 0, none⟩))] rfl rfl (fun _ => by kernel_rfl) (fun A w ⟨e0, _⟩ hB => ld_cp e0 (keepC m0 hB) (keepC m1 hB) (keepC m2 hB))
    | 2, _ => exact ob_val [(9, .pointer (some ⟨BM, 0, none⟩))] rfl rfl (fun _ => by kernel_rfl) (fun A w ⟨e0, _⟩ hB => ld_cp e0 (keepC m0 hB) (keepC m1 hB) (keepC m2 hB))
    | 3, _ => exact ob_val [(5, .pointer (some ⟨w.heap.size + 1, 0, none⟩))] rfl rfl (fun _ => by kernel_rfl) (fun A w ⟨e0, _⟩ hB => fa_nN1 e0)
    | 4, _ => exact ob_val [(19, .pointer (some ⟨w.heap.size + 1, 0, none⟩))] rfl rfl (fun _ => by kernel_rfl) (fun A w ⟨e0, _⟩ hB => ld_u64 e0 (keepC kk hB))
    | 5, _ => exact ob_val [(18, .agg #[.int .u64 (px m), .int .u64 (py m), .bool (pb m)]), (20, .int .u64 (k : Int))] rfl rfl (fun _ => by kernel_rfl) (fun A w ⟨e0, e1, _⟩ hB => cl2 cf_impl_curvePoint_times e0 e1 (T1 w))
    | 6, _ => exact ob_val [(6, .pointer (some ⟨w.heap.size + 1 + 1, 0, none⟩))] rfl rfl (fun _ => by kernel_rfl) (fun A w ⟨e0, _⟩ hB => ld_cp e0 (keepC a0 hB) (keepC a1 hB) (keepC a2 hB))
    | 7, _ => exact ob_val [(7, .pointer (some ⟨w.heap.size + 1 + 1 + 1, 0, none⟩))] rfl rfl (fun _ => by kernel_rfl) (fun A w ⟨e0, _⟩ hB => fa_nN1 e0)
    | 8, _ => exact ob_val [(23, .pointer (some ⟨w.heap.size + 1 + 1 + 1, 0, none⟩))] rfl rfl (fun _ => by kernel_rfl) (fun A w ⟨e0, _⟩ hB => ld_u64 e0 (keepC nn hB))
    | 9, _ => exact ob_val [(22, .agg #[.int .u64 (px a), .int .u64 (py a), .bool (pb a)]), (24, .int .u64 (r : Int))] rfl rfl (fun _ => by kernel_rfl) (fun A w ⟨e0, e1, _⟩ hB => cl2 cf_impl_curvePoint_times e0 e1 (T2 w))
    | 10, _ => exact ob_val [(9, .pointer (some ⟨BM, 0, none⟩))] rfl rfl (fun _ => by kernel_rfl) (fun A w ⟨e0, _⟩ hB => ld_cp e0 (keepC m0 hB) (keepC m1 hB) (keepC m2 hB))
    | 11, _ => exact ob_val [(7, .pointer (some ⟨w.heap.size + 1 + 1 + 1, 0, none⟩))] rfl rfl (fun _ => by kernel_rfl) (fun A w ⟨e0, _⟩ hB => fa_nN1 e0)
    | 12, _ => exact ob_val [(27, .pointer (some ⟨w.heap.size + 1 + 1 + 1, 0, none⟩))] rfl rfl (fun _ => by kernel_rfl) (fun A w ⟨e0, _⟩ hB => ld_u64 e0 (keepC nn hB))
    | 13, _ => exact ob_val [(26, .agg #[.int .u64 (px m), .int .u64 (py m), .bool (pb m)]), (28, .int .u64 (r : Int))] rfl rfl (fun _ => by kernel_rfl) (fun A w ⟨e0, e1, _⟩ hB => cl2 cf_impl_curvePoint_times e0 e1 (T3' w))
    | 14, _ => exact ob_val [(16, .agg #[.string (ctxB md), .int .u64 (px b), .int .u64 (py b), .bool (pb b), .slice (some ⟨g1, 0, none⟩) n k1, .slice (some ⟨g2, 0, none⟩) n k2]), (17, .agg #[.int .u64 (px m), .int .u64 (py m), .bool (pb m)]), (21, .agg #[.int .u64 (px z), .int .u64 (py z), .bool (pb z)]), (25, .agg #[.int .u64 (px x), .int .u64 (py x), .bool (pb x)]), (29, .agg #[.int .u64 (px y), .int .u64 (py y), .bool (pb y)])] rfl rfl (fun _ => by kernel_rfl) (fun A w ⟨e0, e1, e2, e3, e4, _⟩ hB => cl5 cf_impl_batch_challenge e0 e1 e2 e3 e4 (CH w (keepT hT1 hg1 hB)))
    | 15, _ => exact ob_new rfl rfl (fun A w => al_nN)
    | 16, _ => exact ob_put 10 (fun f => [(10, .pointer (some ⟨f 15, 0, none⟩)), (30, .agg #[.int .u64 (c : Int)])]) rfl rfl rfl (by decide) (by kernel_rfl) rfl (fun _ => by kernel_rfl) (fun f A w ⟨e0, e1, _⟩ hr => pu_nN e0 e1 hr)
    | ix + 17, h => exact absurd h (by simp)
  intro f W2 hb2 hnew _
  have hb2' : Below W1.heap.size W1 W2 := (Below.refl _ W1).drew.trans hb2
  have rc : RN W2 (f 15) (c : Int) := (hnew 15 _ _ _ rfl (by decide)).2
  generalize f 15 = BC at *
  replace rk := rk.keep hb2'
  replace rr := rr.keep hb2'
  replace rp := rp.keep hb2'
  replace hb := hb.trans (hb2'.mono hb.size)
  clear s0 s1 s2 s3 s4 s5 kk nn a0 a1 a2 m0 m1 m2 hb2 hb2' hnew T1 T2 T3' CH hT1 hg1 r0 ra rm
  simp only [puts, List.foldl, Act.put, List.setIfInBounds_toArray, List.set_cons_zero, List.set_cons_succ]
  go_wp2
  have kk : W2.drew.cell? ⟨w.heap.size + 1, 0, none⟩ = some (.int .u64 (k : Int)) := rk.cell
  have nn : W2.drew.cell? ⟨w.heap.size + 1 + 1 + 1, 0, none⟩ = some (.int .u64 (r : Int)) := rr.cell
  have c0 : W2.drew.cell? ⟨BC, 0, none⟩ = some (.int .u64 (c : Int)) := rc.cell
  refine pool_prT 9 [.val (.pointer (some ⟨BC, 0, none⟩)),
      .val (.int .u64 (c : Int)),
      .val (.agg #[.int .u64 (r : Int)]),
      .val (.agg #[.int .u64 (c : Int)]),
      .val (.agg #[.int .u64 (k : Int)]),
      .val (.agg #[.int .u64 (ck : Int)]),
      .val (.agg #[.int .u64 (s : Int)]),
      .val (.int .u64 (s : Int)),
      .val (.agg #[.int .u64 (c : Int), .int .u64 (s : Int)])] [[10], [31], [7], [10], [5], [34, 35], [33, 36], [37], [32, 38]] (fun f => [(some 31, .pointer (some ⟨BC, 0, none⟩)), (some 32, .int .u64 (c : Int)), (some 33, .agg #[.int .u64 (r : Int)]), (some 34, .agg #[.int .u64 (c : Int)]), (some 35, .agg #[.int .u64 (k : Int)]), (some 36, .agg #[.int .u64 (ck : Int)]), (some 37, .agg #[.int .u64 (s : Int)]), (some 38, .int .u64 (s : Int)), (some 39, .agg #[.int .u64 (c : Int), .int .u64 (s : Int)])]) (by kernel_rfl) (by kernel_rfl) (by kernel_rfl) (by kernel_rfl) (by decide) (by kernel_rfl) (fun _ => by kernel_rfl) ?_ ?_
  · intro ix hix
    match ix, hix with
    | 0, _ => exact ob_val [(10, .pointer (some ⟨BC, 0, none⟩))] rfl rfl (fun _ => by kernel_rfl) (fun A w ⟨e0, _⟩ hB => fa_nN1 e0)
    | 1, _ => exact ob_val [(31, .pointer (some ⟨BC, 0, none⟩))] rfl rfl (fun _ => by kernel_rfl) (fun A w ⟨e0, _⟩ hB => ld_u64 e0 (keepC c0 hB))
    | 2, _ => exact ob_val [(7, .pointer (some ⟨w.heap.size + 1 + 1 + 1, 0, none⟩))] rfl rfl (fun _ => by kernel_rfl) (fun A w ⟨e0, _⟩ hB => ld_nN e0 (keepC nn hB))
    | 3, _ => exact ob_val [(10, .pointer (some ⟨BC, 0, none⟩))] rfl rfl (fun _ => by kernel_rfl) (fun A w ⟨e0, _⟩ hB => ld_nN e0 (keepC c0 hB))
    | 4, _ => exact ob_val [(5, .pointer (some ⟨w.heap.size + 1, 0, none⟩))] rfl rfl (fun _ => by kernel_rfl) (fun A w ⟨e0, _⟩ hB => ld_nN e0 (keepC kk hB))
    | 5, _ => exact ob_val [(34, .agg #[.int .u64 (c : Int)]), (35, .agg #[.int .u64 (k : Int)])] rfl rfl (fun _ => by kernel_rfl) (fun A w ⟨e0, e1, _⟩ hB => cl2 cf_impl_number_impl_primeN_times e0 e1 (MU w))
    | 6, _ => exact ob_val [(33, .agg #[.int .u64 (r : Int)]), (36, .agg #[.int .u64 (ck : Int)])] rfl rfl (fun _ => by kernel_rfl) (fun A w ⟨e0, e1, _⟩ hB => cl2 cf_impl_number_impl_primeN_minus e0 e1 (MN w))
    | 7, _ => exact ob_val [(37, .agg #[.int .u64 (s : Int)])] rfl rfl (fun _ => by kernel_rfl) (fun A w ⟨e0, _⟩ hB => fl_nN1 e0)
    | 8, _ => exact ob_val [(32, .int .u64 (c : Int)), (38, .int .u64 (s : Int))] rfl rfl (fun _ => by kernel_rfl) (fun A w ⟨e0, e1, _⟩ hB => bu_prf e0 e1)
    | ix + 9, h => exact absurd h (by simp)
  intro f W3 hb3 _ fuel hfuel
  have hb3' : Below W2.heap.size W2 W3 := (Below.refl _ W2).drew.trans hb3
  replace rp := rp.keep hb3'
  replace hb := hb.trans (hb3'.mono hb.size)
  clear kk nn c0 hb3 hb3' MU MN rk rr rc
  simp only [puts, List.foldl, Act.put, List.setIfInBounds_toArray, List.set_cons_zero, List.set_cons_succ]
  refine last_do1 9 hfuel (by kernel_rfl) (by kernel_rfl) rfl rfl ?_
  refine fun Q K hK => st_prf (z0 := (c : Int)) (z1 := (s : Int)) rfl rfl rp Q K (fun v w' e => hK v w' ?_)
  subst e
  go_wp2
  exact bodyPost_ret (v := .agg #[.int .u64 (c : Int), .int .u64 (s : Int)]) (prf_res (fn := Tryz.f38) (p := 8) Tryz.results38 _ rfl (rp.set c s)) rfl ⟨rfl, P2_below hb (by omega) _ _⟩
end Go.Proofs.YtagnikeaellbiaaGreatDoor

/-
  The program's proofs: accepts.
-/
namespace Go.Proofs.YtagnikeaellbiaaGreatDoor
open Go.RowKit M
set_option linter.unusedVariables false

set_option maxRecDepth 100000 in
set_option maxHeartbeats 8000000 in
theorem accI_any (md n g1 k1 g2 k2 c s : Nat) (a b : Pt) (cs ds : List Pt) (w : World) (hT : TabK w) (hmd : md < 3) (h1 : 1 ≤ n) (hn : n ≤ 200) (hlc : cs.length = n) (hld : ds.length = n) (ha : on a) (hob : on b) (hoc : ∀ p ∈ cs, on p) (hod : ∀ p ∈ ds, on p) (hc : Cps w g1 cs) (hd : Cps w g2 ds)
    (hcl : c < 2305843010818082053) (hsl : s < 2305843010818082053) (m z : Pt) (hm : m = mixTo (wgts md b cs ds n) cs n) (hz : z = mixTo (wgts md b cs ds n) ds n) (h : Nat) (hh : h = chal md b m z (ad (nt s a) (nt c b)) (ad (nt s m) (nt c z))) :
    Calls Tryz.prog 40 #[.agg #[.string (ctxB md), .int .u64 (px b), .int .u64 (py b), .bool (pb b), .slice (some ⟨g1, 0, none⟩) n k1, .slice (some ⟨g2, 0, none⟩) n k2], .agg #[.int .u64 (px a), .int .u64 (py a), .bool (pb a)], .agg #[.int .u64 c], .agg #[.int .u64 s]] w fun e w' => e = .returned (.bool ((h : Int) == (c : Int))) ∧ Below w.heap.size w w' := by
  have hgw : 3 < w.heap.size := World.block_lt_of_cell? w _ (hT 0 (by omega))
  have hom : on m := by rw [hm]; exact mixTo_on hoc n
  have hoz : on z := by rw [hz]; exact mixTo_on hod n
  have CM := fun w' hb => cmpI_any md n g1 k1 g2 k2 b cs ds w' (keepT hT hgw hb) hmd h1 hn hlc hld hoc hod (hc.below (B := w.heap.size) hb hc.lt) (hd.below (B := w.heap.size) hb hd.lt)
  rw [← hm, ← hz, ptW_eq, ptW_eq] at CM
  have T1 := fun w => ctmV ha s (by omega) w
  have T2 := fun w => ctmV hob c (by omega) w
  have T3' := fun w => ctmV hom s (by omega) w
  have T4 := fun w => ctmV hoz c (by omega) w
  have A1 := fun w => cplV (nt_on ha s) (nt_on hob c) w
  have A2 := fun w => cplV (nt_on hom s) (nt_on hoz c) w
  rw [ptW_eq, ptW_eq] at T1 T2 T3' T4
  rw [ptW_eq, ptW_eq, ptW_eq] at A1 A2
  have CH := fun w hT => chlI_of md b m z (ad (nt s a) (nt c b)) (ad (nt s m) (nt c z)) (some ⟨g1, 0, none⟩) n k1 (some ⟨g2, 0, none⟩) n k2 w hT hmd
  rw [← hh] at CH
  generalize ad (nt s a) (nt c b) = x at *
  generalize ad (nt s m) (nt c z) = y at *
  generalize nt s a = sa at *
  generalize nt c b = cb at *
  generalize nt s m = sm at *
  generalize nt c z = cz at *
  clear hm hz hh hoc hod hom hoz ha hob
  obtain ⟨X, hX⟩ : ∃ X, X = (((w.alloc (Obj.cells #[.string (ctxB md), .int .u64 (px b), .int .u64 (py b), .bool (pb b), .slice (some ⟨g1, 0, none⟩) n k1, .slice (some ⟨g2, 0, none⟩) n k2] 65)).alloc (Obj.cells #[.int .u64 (px a), .int .u64 (py a), .bool (pb a)] 62)).alloc (Obj.cells #[.int .u64 (c : Int)] 77)).alloc (Obj.cells #[.int .u64 (s : Int)] 77) := ⟨_, rfl⟩
  have r0 : B6 X w.heap.size (ctxB md) (px b) (py b) (pb b) (some ⟨g1, 0, none⟩) n k1 (some ⟨g2, 0, none⟩) n k2 := by rw [hX]; exact (((B6.new _ _ _ _ _ _ _ _ _ _ _).alloc _).alloc _).alloc _
  have ra : K3 X 62 (w.heap.size + 1) (px a) (py a) (pb a) := by rw [hX]; exact (((K3.new _ _ _ _ _).at (by simp)).alloc _).alloc _
  have rc : RN X (w.heap.size + 1 + 1) (c : Int) := by rw [hX]; exact ((RN.new _ _).at' (by simp)).alloc' _
  have rs : RN X (w.heap.size + 1 + 1 + 1) (s : Int) := by rw [hX]; exact (RN.new _ _).at' (by simp)
  have hb : Below w.heap.size w X := by
    rw [hX]
    exact ((((Below.refl _ w).alloc (Nat.le_refl _) _).alloc (by simp) _).alloc (by simp; omega) _).alloc (by simp; omega) _
  rw [hX] at r0 ra rc rs hb
  clear hX
  go_enter Tryz.func40, Tryz.ntmps40
  go_wp2_with fail
  refine (CM _ hb).mono ?_
  rintro e w1 ⟨rfl, b1⟩
  obtain ⟨W1, hW1⟩ : ∃ W1, W1 = (w1.alloc (Obj.cells #[.int .u64 (px m), .int .u64 (py m), .bool (pb m)] 62)).alloc (Obj.cells #[.int .u64 (px z), .int .u64 (py z), .bool (pb z)] 62) := ⟨_, rfl⟩
  have hB1 : Below w1.heap.size w1 W1 := by rw [hW1]; exact ((Below.refl _ w1).alloc (Nat.le_refl _) _).alloc (by simp) _
  replace r0 := (r0.keep b1).keep hB1
  replace ra := (ra.keep b1).keep hB1
  replace rc := (rc.keep b1).keep hB1
  replace rs := (rs.keep b1).keep hB1
  replace hb := hb.trans (b1.mono hb.size)
  replace hb := hb.trans (hB1.mono hb.size)
  have rm : K3 W1 62 w1.heap.size (px m) (py m) (pb m) := by rw [hW1]; exact (K3.new _ _ _ _ _).alloc _
  have rz : K3 W1 62 (w1.heap.size + 1) (px z) (py z) (pb z) := by rw [hW1]; exact (K3.new _ _ _ _ _).at (by simp)
  clear CM b1 hB1
  go_wp2
  rw [← hW1]
  clear hW1
  generalize w1.heap.size = H1 at *
  have s1 : W1.drew.cell? ⟨w.heap.size, 1, none⟩ = _ := r0.c1
  have s2 : W1.drew.cell? ⟨w.heap.size, 2, none⟩ = _ := r0.c2
  have s3 : W1.drew.cell? ⟨w.heap.size, 3, none⟩ = _ := r0.c3
  have a0 : W1.drew.cell? ⟨w.heap.size + 1, 0, none⟩ = _ := ra.c0
  have a1 : W1.drew.cell? ⟨w.heap.size + 1, 1, none⟩ = _ := ra.c1
  have a2 : W1.drew.cell? ⟨w.heap.size + 1, 2, none⟩ = _ := ra.c2
  have cc : W1.drew.cell? ⟨w.heap.size + 1 + 1, 0, none⟩ = some (.int .u64 (c : Int)) := rc.cell
  have ss : W1.drew.cell? ⟨w.heap.size + 1 + 1 + 1, 0, none⟩ = some (.int .u64 (s : Int)) := rs.cell
  refine pool_list [.val (.agg #[.int .u64 (px a), .int .u64 (py a), .bool (pb a)]),
      .val (.pointer (some ⟨w.heap.size + 1 + 1 + 1, 0, none⟩)),
      .val (.int .u64 (s : Int)),
      .val (.agg #[.int .u64 (px sa), .int .u64 (py sa), .bool (pb sa)]),
      .val (.pointer (some ⟨w.heap.size, 1, none⟩)),
      .val (.agg #[.int .u64 (px b), .int .u64 (py b), .bool (pb b)]),
      .val (.pointer (some ⟨w.heap.size + 1 + 1, 0, none⟩)),
      .val (.int .u64 (c : Int)),
      .val (.agg #[.int .u64 (px cb), .int .u64 (py cb), .bool (pb cb)]),
      .val (.agg #[.int .u64 (px x), .int .u64 (py x), .bool (pb x)]),
      .new (.cells #[.int .u64 0, .int .u64 0, .bool false] 62) (.cells #[.int .u64 (px x), .int .u64 (py x), .bool (pb x)] 62) 11,
      .put 10] [[5], [7], [19], [18, 20], [4], [22], [6], [24], [23, 25], [21, 26], [], [11, 27]] (fun f => [(some 18, .agg #[.int .u64 (px a), .int .u64 (py a), .bool (pb a)]), (some 19, .pointer (some ⟨w.heap.size + 1 + 1 + 1, 0, none⟩)), (some 20, .int .u64 (s : Int)), (some 21, .agg #[.int .u64 (px sa), .int .u64 (py sa), .bool (pb sa)]), (some 22, .pointer (some ⟨w.heap.size, 1, none⟩)), (some 23, .agg #[.int .u64 (px b), .int .u64 (py b), .bool (pb b)]), (some 24, .pointer (some ⟨w.heap.size + 1 + 1, 0, none⟩)), (some 25, .int .u64 (c : Int)), (some 26, .agg #[.int .u64 (px cb), .int .u64 (py cb), .bool (pb cb)]), (some 27, .agg #[.int .u64 (px x), .int .u64 (py x), .bool (pb x)]), (some 11, .pointer (some ⟨f 10, 0, none⟩)), (none, undef)]) (by kernel_rfl) (by kernel_rfl) (by kernel_rfl) (by kernel_rfl) (fun _ => by kernel_rfl) ?_ ?_
  · intro ix hix
    match ix, hix with
    | 0, _ => exact ob_val [(5, .pointer (some ⟨w.heap.size + 1, 0, none⟩))] rfl rfl (fun _ => by kernel_rfl) (fun A w ⟨e0, _⟩ hB => ld_cp e0 (keepC a0 hB) (keepC a1 hB) (keepC a2 hB))
    | 1, _ => exact ob_val [(7, .pointer (some ⟨w.heap.size + 1 + 1 + 1, 0, none⟩))] rfl rfl (fun _ => by kernel_rfl) (fun A w ⟨e0, _⟩ hB => fa_nN1 e0)
    | 2, _ => exact ob_val [(19, .pointer (some ⟨w.heap.size + 1 + 1 + 1, 0, none⟩))] rfl rfl (fun _ => by kernel_rfl) (fun A w ⟨e0, _⟩ hB => ld_u64 e0 (keepC ss hB))
    | 3, _ => exact ob_val [(18, .agg #[.int .u64 (px a), .int .u64 (py a), .bool (pb a)]), (20, .int .u64 (s : Int))] rfl rfl (fun _ => by kernel_rfl) (fun A w ⟨e0, e1, _⟩ hB => cl2 cf_impl_curvePoint_times e0 e1 (T1 w))
    | 4, _ => exact ob_val [(4, .pointer (some ⟨w.heap.size, 0, none⟩))] rfl rfl (fun _ => by kernel_rfl) (fun A w ⟨e0, _⟩ hB => fa_bat1 e0)
    | 5, _ => exact ob_val [(22, .pointer (some ⟨w.heap.size, 1, none⟩))] rfl rfl (fun _ => by kernel_rfl) (fun A w ⟨e0, _⟩ hB => ld_cp e0 (keepC s1 hB) (keepC s2 hB) (keepC s3 hB))
    | 6, _ => exact ob_val [(6, .pointer (some ⟨w.heap.size + 1 + 1, 0, none⟩))] rfl rfl (fun _ => by kernel_rfl) (fun A w ⟨e0, _⟩ hB => fa_nN1 e0)
    | 7, _ => exact ob_val [(24, .pointer (some ⟨w.heap.size + 1 + 1, 0, none⟩))] rfl rfl (fun _ => by kernel_rfl) (fun A w ⟨e0, _⟩ hB => ld_u64 e0 (keepC cc hB))
    | 8, _ => exact ob_val [(23, .agg #[.int .u64 (px b), .int .u64 (py b), .bool (pb b)]), (25, .int .u64 (c : Int))] rfl rfl (fun _ => by kernel_rfl) (fun A w ⟨e0, e1, _⟩ hB => cl2 cf_impl_curvePoint_times e0 e1 (T2 w))
    | 9, _ => exact ob_val [(21, .agg #[.int .u64 (px sa), .int .u64 (py sa), .bool (pb sa)]), (26, .agg #[.int .u64 (px cb), .int .u64 (py cb), .bool (pb cb)])] rfl rfl (fun _ => by kernel_rfl) (fun A w ⟨e0, e1, _⟩ hB => cl2 cf_impl_curvePoint_plus e0 e1 (A1 w))
    | 10, _ => exact ob_new rfl rfl (fun A w => al_cp)
    | 11, _ => exact ob_put 11 (fun f => [(11, .pointer (some ⟨f 10, 0, none⟩)), (27, .agg #[.int .u64 (px x), .int .u64 (py x), .bool (pb x)])]) rfl rfl rfl (by decide) (by kernel_rfl) rfl (fun _ => by kernel_rfl) (fun f A w ⟨e0, e1, _⟩ hr => pu_cp e0 e1 hr)
    | ix + 12, h => exact absurd h (by simp)
  intro f W2 hb2 hnew _
  have hb2' : Below W1.heap.size W1 W2 := (Below.refl _ W1).drew.trans hb2
  have rx : K3 W2 62 (f 10) (px x) (py x) (pb x) := (hnew 10 _ _ _ rfl (by decide)).2
  generalize f 10 = BX at *
  replace r0 := r0.keep hb2'
  replace rm := rm.keep hb2'
  replace rz := rz.keep hb2'
  replace rc := rc.keep hb2'
  replace rs := rs.keep hb2'
  replace hb := hb.trans (hb2'.mono hb.size)
  clear s1 s2 s3 a0 a1 a2 cc ss hb2 hb2' hnew T1 T2 A1 ra
  simp only [puts, List.foldl, Act.put, List.setIfInBounds_toArray, List.set_cons_zero, List.set_cons_succ]
  go_wp2
  have m0 : W2.drew.cell? ⟨H1, 0, none⟩ = _ := rm.c0
  have m1 : W2.drew.cell? ⟨H1, 1, none⟩ = _ := rm.c1
  have m2 : W2.drew.cell? ⟨H1, 2, none⟩ = _ := rm.c2
  have z0 : W2.drew.cell? ⟨H1 + 1, 0, none⟩ = _ := rz.c0
  have z1 : W2.drew.cell? ⟨H1 + 1, 1, none⟩ = _ := rz.c1
  have z2 : W2.drew.cell? ⟨H1 + 1, 2, none⟩ = _ := rz.c2
  have cc : W2.drew.cell? ⟨w.heap.size + 1 + 1, 0, none⟩ = some (.int .u64 (c : Int)) := rc.cell
  have ss : W2.drew.cell? ⟨w.heap.size + 1 + 1 + 1, 0, none⟩ = some (.int .u64 (s : Int)) := rs.cell
  refine pool_list [.val (.agg #[.int .u64 (px m), .int .u64 (py m), .bool (pb m)]),
      .val (.pointer (some ⟨w.heap.size + 1 + 1 + 1, 0, none⟩)),
      .val (.int .u64 (s : Int)),
      .val (.agg #[.int .u64 (px sm), .int .u64 (py sm), .bool (pb sm)]),
      .val (.agg #[.int .u64 (px z), .int .u64 (py z), .bool (pb z)]),
      .val (.pointer (some ⟨w.heap.size + 1 + 1, 0, none⟩)),
      .val (.int .u64 (c : Int)),
      .val (.agg #[.int .u64 (px cz), .int .u64 (py cz), .bool (pb cz)]),
      .val (.agg #[.int .u64 (px y), .int .u64 (py y), .bool (pb y)]),
      .new (.cells #[.int .u64 0, .int .u64 0, .bool false] 62) (.cells #[.int .u64 (px y), .int .u64 (py y), .bool (pb y)] 62) 10,
      .put 9] [[9], [7], [29], [28, 30], [10], [6], [33], [32, 34], [31, 35], [], [12, 36]] (fun f => [(some 28, .agg #[.int .u64 (px m), .int .u64 (py m), .bool (pb m)]), (some 29, .pointer (some ⟨w.heap.size + 1 + 1 + 1, 0, none⟩)), (some 30, .int .u64 (s : Int)), (some 31, .agg #[.int .u64 (px sm), .int .u64 (py sm), .bool (pb sm)]), (some 32, .agg #[.int .u64 (px z), .int .u64 (py z), .bool (pb z)]), (some 33, .pointer (some ⟨w.heap.size + 1 + 1, 0, none⟩)), (some 34, .int .u64 (c : Int)), (some 35, .agg #[.int .u64 (px cz), .int .u64 (py cz), .bool (pb cz)]), (some 36, .agg #[.int .u64 (px y), .int .u64 (py y), .bool (pb y)]), (some 12, .pointer (some ⟨f 9, 0, none⟩)), (none, undef)]) (by kernel_rfl) (by kernel_rfl) (by kernel_rfl) (by kernel_rfl) (fun _ => by kernel_rfl) ?_ ?_
  · intro ix hix
    match ix, hix with
    | 0, _ => exact ob_val [(9, .pointer (some ⟨H1, 0, none⟩))] rfl rfl (fun _ => by kernel_rfl) (fun A w ⟨e0, _⟩ hB => ld_cp e0 (keepC m0 hB) (keepC m1 hB) (keepC m2 hB))
    | 1, _ => exact ob_val [(7, .pointer (some ⟨w.heap.size + 1 + 1 + 1, 0, none⟩))] rfl rfl (fun _ => by kernel_rfl) (fun A w ⟨e0, _⟩ hB => fa_nN1 e0)
    | 2, _ => exact ob_val [(29, .pointer (some ⟨w.heap.size + 1 + 1 + 1, 0, none⟩))] rfl rfl (fun _ => by kernel_rfl) (fun A w ⟨e0, _⟩ hB => ld_u64 e0 (keepC ss hB))
    | 3, _ => exact ob_val [(28, .agg #[.int .u64 (px m), .int .u64 (py m), .bool (pb m)]), (30, .int .u64 (s : Int))] rfl rfl (fun _ => by kernel_rfl) (fun A w ⟨e0, e1, _⟩ hB => cl2 cf_impl_curvePoint_times e0 e1 (T3' w))
    | 4, _ => exact ob_val [(10, .pointer (some ⟨H1 + 1, 0, none⟩))] rfl rfl (fun _ => by kernel_rfl) (fun A w ⟨e0, _⟩ hB => ld_cp e0 (keepC z0 hB) (keepC z1 hB) (keepC z2 hB))
    | 5, _ => exact ob_val [(6, .pointer (some ⟨w.heap.size + 1 + 1, 0, none⟩))] rfl rfl (fun _ => by kernel_rfl) (fun A w ⟨e0, _⟩ hB => fa_nN1 e0)
    | 6, _ => exact ob_val [(33, .pointer (some ⟨w.heap.size + 1 + 1, 0, none⟩))] rfl rfl (fun _ => by kernel_rfl) (fun A w ⟨e0, _⟩ hB => ld_u64 e0 (keepC cc hB))
    | 7, _ => exact ob_val [(32, .agg #[.int .u64 (px z), .int .u64 (py z), .bool (pb z)]), (34, .int .u64 (c : Int))] rfl rfl (fun _ => by kernel_rfl) (fun A w ⟨e0, e1, _⟩ hB => cl2 cf_impl_curvePoint_times e0 e1 (T4 w))
    | 8, _ => exact ob_val [(31, .agg #[.int .u64 (px sm), .int .u64 (py sm), .bool (pb sm)]), (35, .agg #[.int .u64 (px cz), .int .u64 (py cz), .bool (pb cz)])] rfl rfl (fun _ => by kernel_rfl) (fun A w ⟨e0, e1, _⟩ hB => cl2 cf_impl_curvePoint_plus e0 e1 (A2 w))
    | 9, _ => exact ob_new rfl rfl (fun A w => al_cp)
    | 10, _ => exact ob_put 12 (fun f => [(12, .pointer (some ⟨f 9, 0, none⟩)), (36, .agg #[.int .u64 (px y), .int .u64 (py y), .bool (pb y)])]) rfl rfl rfl (by decide) (by kernel_rfl) rfl (fun _ => by kernel_rfl) (fun f A w ⟨e0, e1, _⟩ hr => pu_cp e0 e1 hr)
    | ix + 11, h => exact absurd h (by simp)
  intro f W3 hb3 hnew _
  have hb3' : Below W2.heap.size W2 W3 := (Below.refl _ W2).drew.trans hb3
  have ry : K3 W3 62 (f 9) (px y) (py y) (pb y) := (hnew 9 _ _ _ rfl (by decide)).2
  generalize f 9 = BY at *
  replace r0 := r0.keep hb3'
  replace rm := rm.keep hb3'
  replace rz := rz.keep hb3'
  replace rx := rx.keep hb3'
  replace rc := rc.keep hb3'
  replace hb := hb.trans (hb3'.mono hb.size)
  clear m0 m1 m2 z0 z1 z2 cc ss hb3 hb3' hnew T3' T4 A2 rs
  simp only [puts, List.foldl, Act.put, List.setIfInBounds_toArray, List.set_cons_zero, List.set_cons_succ]
  go_wp2
  have hT3 : TabK W3.drew := fun i hi => (hb.cell (p := ⟨3, i, none⟩) hgw).trans (hT i hi)
  have hg3 : 3 < W3.drew.heap.size := Nat.lt_of_lt_of_le hgw hb.size
  have s0 : W3.drew.cell? ⟨w.heap.size, 0, none⟩ = _ := r0.c0
  have s1 : W3.drew.cell? ⟨w.heap.size, 1, none⟩ = _ := r0.c1
  have s2 : W3.drew.cell? ⟨w.heap.size, 2, none⟩ = _ := r0.c2
  have s3 : W3.drew.cell? ⟨w.heap.size, 3, none⟩ = _ := r0.c3
  have s4 : W3.drew.cell? ⟨w.heap.size, 4, none⟩ = _ := r0.c4
  have s5 : W3.drew.cell? ⟨w.heap.size, 5, none⟩ = _ := r0.c5
  have m0 : W3.drew.cell? ⟨H1, 0, none⟩ = _ := rm.c0
  have m1 : W3.drew.cell? ⟨H1, 1, none⟩ = _ := rm.c1
  have m2 : W3.drew.cell? ⟨H1, 2, none⟩ = _ := rm.c2
  have z0 : W3.drew.cell? ⟨H1 + 1, 0, none⟩ = _ := rz.c0
  have z1 : W3.drew.cell? ⟨H1 + 1, 1, none⟩ = _ := rz.c1
  have z2 : W3.drew.cell? ⟨H1 + 1, 2, none⟩ = _ := rz.c2
  have x0 : W3.drew.cell? ⟨BX, 0, none⟩ = _ := rx.c0
  have x1 : W3.drew.cell? ⟨BX, 1, none⟩ = _ := rx.c1
  have x2 : W3.drew.cell? ⟨BX, 2, none⟩ = _ := rx.c2
  have y0 : W3.drew.cell? ⟨BY, 0, none⟩ = _ := ry.c0
  have y1 : W3.drew.cell? ⟨BY, 1, none⟩ = _ := ry.c1
  have y2 : W3.drew.cell? ⟨BY, 2, none⟩ = _ := ry.c2
  have cc : W3.drew.cell? ⟨w.heap.size + 1 + 1, 0, none⟩ = some (.int .u64 (c : Int)) := rc.cell
  refine pool_list [.val (.agg #[.string (ctxB md), .int .u64 (px b), .int .u64 (py b), .bool (pb b), .slice (some ⟨g1, 0, none⟩) n k1, .slice (some ⟨g2, 0, none⟩) n k2]),
      .val (.agg #[.int .u64 (px m), .int .u64 (py m), .bool (pb m)]),
      .val (.agg #[.int .u64 (px z), .int .u64 (py z), .bool (pb z)]),
      .val (.agg #[.int .u64 (px x), .int .u64 (py x), .bool (pb x)]),
      .val (.agg #[.int .u64 (px y), .int .u64 (py y), .bool (pb y)]),
      .val (.agg #[.int .u64 (h : Int)]),
      .val (.agg #[.int .u64 (c : Int)]),
      .val (.bool ((h : Int) == (c : Int))),
      .val (.bool ((h : Int) == (c : Int)))] [[4], [9], [10], [11], [12], [37, 38, 39, 40, 41], [6], [42, 43], [44]] (fun f => [(some 37, .agg #[.string (ctxB md), .int .u64 (px b), .int .u64 (py b), .bool (pb b), .slice (some ⟨g1, 0, none⟩) n k1, .slice (some ⟨g2, 0, none⟩) n k2]), (some 38, .agg #[.int .u64 (px m), .int .u64 (py m), .bool (pb m)]), (some 39, .agg #[.int .u64 (px z), .int .u64 (py z), .bool (pb z)]), (some 40, .agg #[.int .u64 (px x), .int .u64 (py x), .bool (pb x)]), (some 41, .agg #[.int .u64 (px y), .int .u64 (py y), .bool (pb y)]), (some 42, .agg #[.int .u64 (h : Int)]), (some 43, .agg #[.int .u64 (c : Int)]), (some 44, .bool ((h : Int) == (c : Int))), (some 8, .bool ((h : Int) == (c : Int)))]) (by kernel_rfl) (by kernel_rfl) (by kernel_rfl) (by kernel_rfl) (fun _ => by kernel_rfl) ?_ ?_
  · intro ix hix
    match ix, hix with
    | 0, _ => exact ob_val [(4, .pointer (some ⟨w.heap.size, 0, none⟩))] rfl rfl (fun _ => by kernel_rfl) (fun A w ⟨e0, _⟩ hB => ld_bat e0 (keepC s0 hB) (keepC s1 hB) (keepC s2 hB) (keepC s3 hB) (keepC s4 hB) (keepC s5 hB))
    | 1, _ => exact ob_val [(9, .pointer (some ⟨H1, 0, none⟩))] rfl rfl (fun _ => by kernel_rfl) (fun A w ⟨e0, _⟩ hB => ld_cp e0 (keepC m0 hB) (keepC m1 hB) (keepC m2 hB))
    | 2, _ => exact ob_val [(10, .pointer (some ⟨H1 + 1, 0, none⟩))] rfl rfl (fun _ => by kernel_rfl) (fun A w ⟨e0, _⟩ hB => ld_cp e0 (keepC z0 hB) (keepC z1 hB) (keepC z2 hB))
    | 3, _ => exact ob_val [(11, .pointer (some ⟨BX, 0, none⟩))] rfl rfl (fun _ => by kernel_rfl) (fun A w ⟨e0, _⟩ hB => ld_cp e0 (keepC x0 hB) (keepC x1 hB) (keepC x2 hB))
    | 4, _ => exact ob_val [(12, .pointer (some ⟨BY, 0, none⟩))] rfl rfl (fun _ => by kernel_rfl) (fun A w ⟨e0, _⟩ hB => ld_cp e0 (keepC y0 hB) (keepC y1 hB) (keepC y2 hB))
    | 5, _ => exact ob_val [(37, .agg #[.string (ctxB md), .int .u64 (px b), .int .u64 (py b), .bool (pb b), .slice (some ⟨g1, 0, none⟩) n k1, .slice (some ⟨g2, 0, none⟩) n k2]), (38, .agg #[.int .u64 (px m), .int .u64 (py m), .bool (pb m)]), (39, .agg #[.int .u64 (px z), .int .u64 (py z), .bool (pb z)]), (40, .agg #[.int .u64 (px x), .int .u64 (py x), .bool (pb x)]), (41, .agg #[.int .u64 (px y), .int .u64 (py y), .bool (pb y)])] rfl rfl (fun _ => by kernel_rfl) (fun A w ⟨e0, e1, e2, e3, e4, _⟩ hB => cl5 cf_impl_batch_challenge e0 e1 e2 e3 e4 (CH w (keepT hT3 hg3 hB)))
    | 6, _ => exact ob_val [(6, .pointer (some ⟨w.heap.size + 1 + 1, 0, none⟩))] rfl rfl (fun _ => by kernel_rfl) (fun A w ⟨e0, _⟩ hB => ld_nN e0 (keepC cc hB))
    | 7, _ => exact ob_val [(42, .agg #[.int .u64 (h : Int)]), (43, .agg #[.int .u64 (c : Int)])] rfl rfl (fun _ => by kernel_rfl) (fun A w ⟨e0, e1, _⟩ hB => eq_nN e0 e1)
    | 8, _ => exact ob_val [(44, .bool ((h : Int) == (c : Int)))] rfl rfl (fun _ => by kernel_rfl) (fun A w ⟨e0, _⟩ hB => doV_assign e0)
    | ix + 9, h => exact absurd h (by simp)
  intro f W4 hb4 _ _
  have hb5 := hb.drew.trans (hb4.mono hb.size)
  simp only [puts, List.foldl, Act.put, List.setIfInBounds_toArray, List.set_cons_zero, List.set_cons_succ]
  go_wp2
  go_ret
  exact ⟨rfl, hb5⟩
end Go.Proofs.YtagnikeaellbiaaGreatDoor
