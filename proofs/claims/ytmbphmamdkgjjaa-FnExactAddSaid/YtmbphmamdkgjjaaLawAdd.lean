import Derived.Test.YtmbphmamdkgjjaaTopP
import Derived.Test.YtmbphmamdkgjjaaExeL
import Derived.Test.YtmbphmamdkgjjaaLawP
import Derived.Test.YtmbphmamdkgjjaaBase0
namespace Go.Proofs.Ytmbphmamdkgjjaa.fnExactAdd
open Go.ChangeShapes Go.WideShapes Go.ChangeAt Go.RowKit
open Go.ChangeMaps (open_string shut_string)
set_option linter.unusedVariables false

theorem cf_toP (args : Array Value) (w : World) : (callFunc 10 args).run Try.prog w = .ok (.enter 10 args) w := by kernel_rfl
theorem cf_addS (args : Array Value) (w : World) : (callFunc 17 args).run Try.prog w = .ok (.enter 17 args) w := by kernel_rfl
theorem cf_addI (args : Array Value) (w : World) : (callFunc 18 args).run Try.prog w = .ok (.enter 18 args) w := by kernel_rfl
set_option maxRecDepth 100000 in
set_option maxHeartbeats 2000000 in
theorem walk_of (x y u v X Y : Int) (c d C : Bool) (w : World)
    (L : ∀ w, Calls Try.prog 17 #[.agg #[.int .u64 x, .int .u64 y, .bool c], .agg #[.int .u64 u, .int .u64 v, .bool d]] w fun e w' => e = .returned (.agg #[.int .u64 X, .int .u64 Y, .bool C]) ∧ Below w.heap.size w w')
    (M : ∀ w, Calls Try.prog 18 #[.agg #[.int .u64 x, .int .u64 y, .bool c], .agg #[.int .u64 u, .int .u64 v, .bool d]] w fun e w' => e = .returned (.agg #[.int .u64 X, .int .u64 Y, .bool C]) ∧ Below w.heap.size w w') :
    Calls Try.prog 6 #[.agg #[.int .u64 x, .int .u64 y, .bool c], .agg #[.int .u64 u, .int .u64 v, .bool d]] w fun e w' => e = .returned (.bool true) ∧ Below w.heap.size w w' := by
  have hp := (K3.new w 24 x y c).alloc (Obj.cells #[.int .u64 u, .int .u64 v, .bool d] 24)
  have hq := (K3.new (w.alloc (Obj.cells #[.int .u64 x, .int .u64 y, .bool c] 24)) 24 u v d).at (b' := w.heap.size + 1) (by simp)
  have hb := ((Below.refl _ w).alloc (Nat.le_refl _) (Obj.cells #[.int .u64 x, .int .u64 y, .bool c] 24)).alloc (by simp) (Obj.cells #[.int .u64 u, .int .u64 v, .bool d] 24)
  go_enter Try.func6, Try.ntmps6
  go_wp2
  refine pool_list [.val (.agg #[.int .u64 x, .int .u64 y, .bool c]),
    .val (.agg #[.int .u64 x, .int .u64 y, .bool c]),
    .val (.agg #[.int .u64 u, .int .u64 v, .bool d]),
    .val (.agg #[.int .u64 u, .int .u64 v, .bool d]),
    .val (.agg #[.int .u64 X, .int .u64 Y, .bool C]),
    .new (.cells #[.int .u64 0, .int .u64 0, .bool false] 26) (.cells #[.int .u64 X, .int .u64 Y, .bool C] 26) 6,
    .put 5] [[2], [7], [3], [9], [8, 10], [], [5, 11]] (fun f => [(some 7, .agg #[.int .u64 x, .int .u64 y, .bool c]), (some 8, .agg #[.int .u64 x, .int .u64 y, .bool c]), (some 9, .agg #[.int .u64 u, .int .u64 v, .bool d]), (some 10, .agg #[.int .u64 u, .int .u64 v, .bool d]), (some 11, .agg #[.int .u64 X, .int .u64 Y, .bool C]), (some 5, .pointer (some ⟨f 5, 0, none⟩)), (none, undef)]) (by kernel_rfl) (by kernel_rfl) (by kernel_rfl) (by kernel_rfl) (fun _ => by kernel_rfl) ?_ ?_
  · intro ix hix
    match ix, hix with
    | 0, _ => exact ob_val [(2, .pointer (some ⟨w.heap.size, 0, none⟩))] rfl rfl (fun _ => by kernel_rfl) (fun A w ⟨e0, _⟩ hB => do_loadL e0 hp.drew hB)
    | 1, _ => exact ob_val [(7, .agg #[.int .u64 x, .int .u64 y, .bool c])] rfl rfl (fun _ => by kernel_rfl) (fun A w ⟨e0, _⟩ hB => do_call1 cf_toP e0 (toP x y c w))
    | 2, _ => exact ob_val [(3, .pointer (some ⟨w.heap.size + 1, 0, none⟩))] rfl rfl (fun _ => by kernel_rfl) (fun A w ⟨e0, _⟩ hB => do_loadL e0 hq.drew hB)
    | 3, _ => exact ob_val [(9, .agg #[.int .u64 u, .int .u64 v, .bool d])] rfl rfl (fun _ => by kernel_rfl) (fun A w ⟨e0, _⟩ hB => do_call1 cf_toP e0 (toP u v d w))
    | 4, _ => exact ob_val [(8, .agg #[.int .u64 x, .int .u64 y, .bool c]), (10, .agg #[.int .u64 u, .int .u64 v, .bool d])] rfl rfl (fun _ => by kernel_rfl) (fun A w ⟨e0, e1, _⟩ hB => do_call2 cf_addS e0 e1 (L w))
    | 5, _ => exact ob_new rfl rfl (fun A w => do_newP)
    | 6, _ => exact ob_put 5 (fun f => [(5, .pointer (some ⟨f 5, 0, none⟩)), (11, .agg #[.int .u64 X, .int .u64 Y, .bool C])]) rfl rfl rfl (by decide) (by kernel_rfl) rfl (fun _ => by kernel_rfl) (fun f A w ⟨e0, e1, _⟩ hr => do_putP e0 e1 hr)
    | ix + 7, h => exact absurd h (by simp)
  intro f w1 hB hN _
  have n5 := (hN 5 _ _ _ rfl (by simp)).2
  rw [if_pos (by simp)] at n5
  replace hp := (hp.drew).keep hB
  replace hq := (hq.drew).keep hB
  replace hb := keepB hb.drew hb.size hB
  clear hN hB
  generalize f 5 = q5 at *
  replace n5 : K3 w1 26 q5 X Y C := n5
  simp only [puts, List.foldl, Act.put, List.setIfInBounds_toArray, List.set_cons_zero, List.set_cons_succ]
  go_wp2
  refine pool_list [.val (.agg #[.int .u64 x, .int .u64 y, .bool c]),
    .val (.agg #[.int .u64 x, .int .u64 y, .bool c]),
    .val (.agg #[.int .u64 u, .int .u64 v, .bool d]),
    .val (.agg #[.int .u64 u, .int .u64 v, .bool d]),
    .val (.agg #[.int .u64 X, .int .u64 Y, .bool C]),
    .new (.cells #[.int .u64 0, .int .u64 0, .bool false] 26) (.cells #[.int .u64 X, .int .u64 Y, .bool C] 26) 6,
    .put 5] [[2], [12], [3], [14], [13, 15], [], [6, 16]] (fun f => [(some 12, .agg #[.int .u64 x, .int .u64 y, .bool c]), (some 13, .agg #[.int .u64 x, .int .u64 y, .bool c]), (some 14, .agg #[.int .u64 u, .int .u64 v, .bool d]), (some 15, .agg #[.int .u64 u, .int .u64 v, .bool d]), (some 16, .agg #[.int .u64 X, .int .u64 Y, .bool C]), (some 6, .pointer (some ⟨f 5, 0, none⟩)), (none, undef)]) (by kernel_rfl) (by kernel_rfl) (by kernel_rfl) (by kernel_rfl) (fun _ => by kernel_rfl) ?_ ?_
  · intro ix hix
    match ix, hix with
    | 0, _ => exact ob_val [(2, .pointer (some ⟨w.heap.size, 0, none⟩))] rfl rfl (fun _ => by kernel_rfl) (fun A w ⟨e0, _⟩ hB => do_loadL e0 hp.drew hB)
    | 1, _ => exact ob_val [(12, .agg #[.int .u64 x, .int .u64 y, .bool c])] rfl rfl (fun _ => by kernel_rfl) (fun A w ⟨e0, _⟩ hB => do_call1 cf_toP e0 (toP x y c w))
    | 2, _ => exact ob_val [(3, .pointer (some ⟨w.heap.size + 1, 0, none⟩))] rfl rfl (fun _ => by kernel_rfl) (fun A w ⟨e0, _⟩ hB => do_loadL e0 hq.drew hB)
    | 3, _ => exact ob_val [(14, .agg #[.int .u64 u, .int .u64 v, .bool d])] rfl rfl (fun _ => by kernel_rfl) (fun A w ⟨e0, _⟩ hB => do_call1 cf_toP e0 (toP u v d w))
    | 4, _ => exact ob_val [(13, .agg #[.int .u64 x, .int .u64 y, .bool c]), (15, .agg #[.int .u64 u, .int .u64 v, .bool d])] rfl rfl (fun _ => by kernel_rfl) (fun A w ⟨e0, e1, _⟩ hB => do_call2 cf_addI e0 e1 (M w))
    | 5, _ => exact ob_new rfl rfl (fun A w => do_newP)
    | 6, _ => exact ob_put 6 (fun f => [(6, .pointer (some ⟨f 5, 0, none⟩)), (16, .agg #[.int .u64 X, .int .u64 Y, .bool C])]) rfl rfl rfl (by decide) (by kernel_rfl) rfl (fun _ => by kernel_rfl) (fun f A w ⟨e0, e1, _⟩ hr => do_putP e0 e1 hr)
    | ix + 7, h => exact absurd h (by simp)
  intro f w2 hB hN _
  have n6 := (hN 5 _ _ _ rfl (by simp)).2
  rw [if_pos (by simp)] at n6
  replace n5 := (n5.drew).keep hB
  replace hb := keepB hb.drew hb.size hB
  clear hN hB
  generalize f 5 = q6 at *
  replace n6 : K3 w2 26 q6 X Y C := n6
  simp only [puts, List.foldl, Act.put, List.setIfInBounds_toArray, List.set_cons_zero, List.set_cons_succ]
  have c0 := n5.c0
  have c1 := n5.c1
  have c2 := n5.c2
  have d0 := n6.c0
  have d1 := n6.c1
  have d2 := n6.c2
  go_wp2_with fail
  refine (eqP _ _ _ _).mono ?_
  rintro e w7 ⟨rfl, b1⟩
  replace hb := keepB hb hb.size b1
  go_wp2
  go_ret
  exact ⟨rfl, hb⟩
theorem walk (x y : Nat) (c : Bool) (u v : Nat) (d : Bool) (hx : x < 18446744073709551616) (hy : y < 18446744073709551616) (hu : u < 18446744073709551616) (hv : v < 18446744073709551616) (w : World) :
    Calls Try.prog 6 #[.agg #[.int .u64 x, .int .u64 y, .bool c], .agg #[.int .u64 u, .int .u64 v, .bool d]] w fun e w' => e = .returned (.bool true) ∧ Below w.heap.size w w' := by
  have L := addS_any x y c u v d
  have M := addI_any x y c u v d
  rw [ptW_eq] at L M
  exact walk_of _ _ _ _ _ _ _ _ _ w L M

set_option maxRecDepth 100000 in
theorem lifted (os : Os) (started : os.Started) (H : Type) (enc : TypeId × Value → H) :
    ReturnsInHanded {} Try.checked os 6 .any (Rows.fnExactAddSpec.pre6 enc Try.prog Try.f6 Rows.fnExactAddRow.domain false) (Rows.fnExactAddSpec.post enc Try.prog Try.f6 false true false false) := by
  refine returnsInHanded_of_change (C := Try.checked) own started (by kernel_rfl) Try.func6
    (ChangeSpec.witness6 (enc := enc) (C := Try.checked) false ⟨#[], #[.agg #[.int .u64 0, .int .u64 0, .bool false], .agg #[.int .u64 0, .int .u64 0, .bool false]], []⟩ 8 (by kernel_rfl) (by kernel_rfl) (by kernel_rfl) (by kernel_rfl)) ?_
  intro W base args ds gs before hval0 hW hcnd _
  have hval : ∀ (j : Nat) t v, Try.f6.params[j]? = some t → args[j]? = some v → Value.okWide Try.prog W .any base t v := hval0
  have hW' := hW
  obtain ⟨p, q, hA0, hV, rfl, hfz, hnd⟩ := hW
  have hA : DataW.TrodAll enc Try.prog W 0 (fun _ => true) true Try.f6.params.toList args.toList ds p := hA0
  rw [Try.params6] at hA hval
  obtain ⟨v0, vs0, d0, ds0, p0, q0, hargs, rfl, rfl, h0, r0⟩ := trodAll_cons hA
  obtain ⟨v1, vs1, d1, ds1, p1, q1, rfl, rfl, rfl, h1, r1⟩ := trodAll_cons r0
  obtain ⟨rfl, rfl, rfl⟩ := trodAll_nil r1
  obtain rfl : args = #[v0, v1] := by cases args; simp_all
  obtain ⟨x0, y0, c0, rfl, rfl, rfl, wx0, wy0, lx0, ly0⟩ := open_pt (hval 0 24 v0 rfl rfl) h0
  obtain ⟨x1, y1, c1, rfl, rfl, rfl, wx1, wy1, lx1, ly1⟩ := open_pt (hval 1 24 v1 rfl rfl) h1
  clear hA0 hval0
  have hV2 := hV
  obtain ⟨rfl, rfl⟩ := trodVars_none hV
  refine (walk x0 y0 c0 x1 y1 c1 lx0 ly0 lx1 ly1 W).mono fun e W' ⟨he, bel⟩ => ?_
  subst he
  exact ⟨_, rfl, _, _, _, [], [], [], hW', trodAll_mk1 (shut_bool Try.underlying4 _), trodAll_cons_mk (shut_pt c0 wx0 wy0) (trodAll_cons_mk (shut_pt c1 wx1 wy1) (trodAll_mk0)), Below.trodVars laidOut bel varsR0 hV2, bel.frame _, fun h => by cases h⟩

theorem over : Rows.fnExactAddRow.holds Try.pinned (OpenSpec.ofChange Rows.fnExactAddSpec) :=
  OpenClaim.holds_of_wide 6 Try.f6 rfl rfl rfl rfl rfl rfl rfl ⟨rfl, rfl, rfl, rfl, rfl⟩ rfl rfl rfl rfl rfl (by kernel_rfl) Try.func6 (by kernel_rfl)
    (of_decide_eq_true (by kernel_rfl)) (by unfold Func.isWrapper; first | (rw [if_pos (by decide +kernel)]; kernel_rfl) | (rw [if_neg (by decide +kernel)]; exact ⟨rfl, rfl⟩))
    (fun os started H enc _ => lifted os started H enc)
end Go.Proofs.Ytmbphmamdkgjjaa.fnExactAdd
namespace Go.Proofs.Ytmbphmamdkgjjaa
/-- ████ THE STATEMENT ████ -/
theorem fnExactAdd_said : Rows.FnExactAddSaid := fnExactAdd.over
#print axioms fnExactAdd_said
end Go.Proofs.Ytmbphmamdkgjjaa
