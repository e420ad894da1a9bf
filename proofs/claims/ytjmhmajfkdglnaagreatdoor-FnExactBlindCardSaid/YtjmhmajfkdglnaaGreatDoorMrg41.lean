import Derived.Test.YtjmhmajfkdglnaaGreatDoorMrg40
import Derived.Test.YtjmhmajfkdglnaaGreatDoorMrg20
/-
  The program's outputs.
-/
namespace Go.Proofs.YtjmhmajfkdglnaaGreatDoor
open Go.RowKit M
set_option linter.unusedVariables false

set_option maxRecDepth 100000 in
set_option maxHeartbeats 2000000 in
/-- a transcript goes on with no part -/
theorem wth0 (t : ByteArray) (w : World) (hz : t.size ≤ 300000) :
    Calls Tryz.prog 123 #[.string t, .slice none 0 0] w fun e w' => e = .returned (.string t) ∧ Below w.heap.size w w' := by
  have hB0 : Lib.IsBuilder 249 5 w.heap.size w.heap.size [] (w.alloc (.cells #[.pointer none, .slice none 0 0] 249)) :=
    .inl ⟨Nat.le_refl _, .slice none 0 0, heap_alloc_new w _, ⟨rfl, .inl ⟨rfl, rfl⟩⟩, by simp [Value.ownBlock]⟩
  have hb0 := (Below.refl _ w).alloc (Nat.le_refl _) (Obj.cells #[.pointer none, .slice none 0 0] 249)
  have W1 := Any.Builder_WriteString (P := Tryz.prog) (ρ := renRepeat) { laysRepeat with } extraRepeat w.heap.size w.heap.size [] t (w.alloc (.cells #[.pointer none, .slice none 0 0] 249)) hB0 (by simp; omega) (by simp)
  go_enter Tryz.func123, Tryz.ntmps123
  go_wp2_with fail
  refine W1.mono ?_
  rintro e w1 ⟨rfl, hB1, b1⟩
  replace hb0 := hb0.trans b1
  clear W1 hB0 b1
  have hB1' : Lib.BuilderAt 249 5 w.heap.size w.heap.size (.pointer (some ⟨w.heap.size, 0, none⟩)) (Lib.byteCells t.data.toList) w1 := by
    have : [] ++ Lib.strCells t = Lib.byteCells t.data.toList := by simp [strCells_byt]
    rw [← this]; exact hB1
  clear hB1
  have S1 := Any.Builder_String_any (P := Tryz.prog) (ρ := renRepeat) { laysRepeat with } extraRepeat w.heap.size w.heap.size t.data.toList w1 (.inr hB1') hb0.size
  rw [mk_data] at S1
  go_wp2
  refine wp_loop_rounds 1 ?_
  rw [rounds_succ]
  go_wp2_with fail
  refine S1.mono ?_
  rintro e w2 ⟨rfl, b2⟩
  go_wp2
  go_ret
  exact ⟨rfl, hb0.trans b2⟩
theorem wth2 (t : ByteArray) (u : Pt) (i : Nat) (w : World) (h : t.size ≤ 200000) (hr : w.heap[i]? = some (.cells #[.iface 106 (.agg #[.int .u64 (px u), .int .u64 (py u), .bool (pb u)]), .iface 210 (.string finW)] 253)) :
    Calls Tryz.prog 123 #[.string t, .slice (some ⟨i, 0, none⟩) 2 2] w fun e w' => e = .returned (.string (t ++ sizB (ptB u) ++ finW)) ∧ Below w.heap.size w w' := by
  have := with_blk t [(.iface 106 (.agg #[.int .u64 (px u), .int .u64 (py u), .bool (pb u)]), sizB (ptB u)), (.iface 210 (.string finW), finW)] i 2 _ _ w hr rfl rfl (by omega) (by
    intro vs hvs
    simp only [List.mem_cons, List.not_mem_nil, or_false] at hvs
    rcases hvs with rfl | rfl
    · exact writC u
    · exact writP finW) (by
      show (t ++ sizB (ptB u) ++ finW).size ≤ _
      rw [ByteArray.size_append, ByteArray.size_append, sizB_size, ptB_size, show finW.size = 8 from rfl]; omega)
  exact this
set_option maxRecDepth 100000 in
theorem nopI (info : ByteArray) (w : World) :
    Calls Tryz.prog 156 #[.string info] w fun e w' => e = .returned (.slice none 0 0) ∧ Below w.heap.size w w' := by
  go_enter Tryz.func156, Tryz.ntmps156
  go_wp2
  go_ret
  exact ⟨rfl, Below.refl _ _⟩
set_option maxRecDepth 100000 in
theorem ipaI (info : ByteArray) (w : World) :
    Calls Tryz.prog 164 #[.string info] w fun e w' => ∃ x, e = .returned (.slice (some ⟨x, 0, none⟩) 1 1) ∧ w'.heap[x]? = some (.cells #[.iface 208 (.string info)] 253) ∧ Below w.heap.size w w' := by
  go_enter Tryz.func164, Tryz.ntmps164
  go_wp2
  go_ret
  exact ⟨_, rfl, heap_alloc_new w _, (Below.refl _ w).alloc (Nat.le_refl _) _⟩
theorem G.last_same {kinds : List G.Knd} (obs : List Obj) (h : ∀ F R, G.Knd.got F R ∈ kinds → G.Lasts R obs ∧ ∀ x (w w' : World), R x w → (∀ k : Nat, w'.heap[k]? = w.heap[k]?) → R x w') (ho : ∀ ob ob' k, G.Knd.new ob ob' k ∈ kinds → ob = ob' ∨ ob ∈ obs) (ho2 : ∀ b ob ob', G.Knd.set b ob ob' ∈ kinds → ob ∈ obs) : G.Last (G.kindOf kinds) := by
  intro i F R hk
  obtain ⟨h1, h2⟩ := h F R (G.kind_mem hk (by simp))
  refine ⟨h1.below, fun x w w' b j ob ob' hj hR hb hT => ?_⟩
  rcases hj with ⟨k, hj⟩ | hj
  · rcases ho ob ob' k (G.kind_mem hj (by simp)) with e | e
    · subst e
      refine h2 x w w' hR (fun k => ?_)
      by_cases hkb : k = b
      · subst hkb; rw [hT.self, hb]
      · exact hT.other k hkb
    · exact h1.turned x w w' b ob ob' hR e hb hT
  · exact h1.turned x w w' b ob ob' hR (ho2 b ob ob' (G.kind_mem hj (by simp))) hb hT
abbrev slP (x : Nat) : Value := .slice (some ⟨x, 0, none⟩) 1 1
abbrev cePart (info : ByteArray) (x : Nat) (w : World) : Prop := w.heap[x]? = some (.cells #[.iface 208 (.string info)] 253)
theorem cePart_lasts (info : ByteArray) (obs : List Obj) (h : ∀ ob ∈ obs, ∃ cs t, ob = .cells cs t ∧ t ≠ 253) : G.Lasts (cePart info) obs :=
  ⟨fun x w w' hx hb => (hb.block x (Array.getElem?_eq_some_iff.1 hx).1).trans hx, fun x w w' b ob ob' hx hm hb hT => by
    by_cases e : x = b
    · subst e
      obtain ⟨cs, t, rfl, ht⟩ := h ob hm
      unfold cePart at hx
      rw [hb] at hx
      cases hx
      exact absurd rfl ht
    · exact (hT.other x e).trans hx⟩
section
variable (cx info input T1 T2 TX R : ByteArray) (u : Pt) (F0 F1 F2 F3 F4 F5 F6 : FuncId) (w : World) (hT : TabK w)
    (E6 : ∀ (args : Array Value) (w : World), (callFunc F6 args).run Tryz.prog w = .ok (.enter F6 args) w)
    (Q1 : ∀ i (w : World), w.heap[i]? = some (.cells #[.iface 208 (.string input)] 253) → Calls Tryz.prog 123 #[.string ⟨#[]⟩, .slice (some ⟨i, 0, none⟩) 1 1] w fun e w' => e = .returned (.string T1) ∧ Below w.heap.size w w')
    (QH : ∀ g w, TabK w → w.heap[g]? = some (.cells #[.string TX] 9) → Calls Tryz.prog 124 #[.slice (some ⟨g, 0, none⟩) 1 1] w fun e w' => e = .returned (.string R) ∧ Below w.heap.size w w')
include hT E6 Q1 QH
set_option maxRecDepth 100000 in
set_option maxHeartbeats 4000000 in
theorem outI_noof
    (HS : ∀ w, Calls Tryz.prog F6 #[.string info] w fun e w' => e = .returned (.slice none 0 0) ∧ Below w.heap.size w w')
    (Q2 : ∀ w, Calls Tryz.prog 123 #[.string T1, .slice none 0 0] w fun e w' => e = .returned (.string T1) ∧ Below w.heap.size w w')
    (Q3 : ∀ i (w : World), w.heap[i]? = some (.cells #[.iface 106 (.agg #[.int .u64 (px u), .int .u64 (py u), .bool (pb u)]), .iface 210 (.string finW)] 253) → Calls Tryz.prog 123 #[.string T1, .slice (some ⟨i, 0, none⟩) 2 2] w fun e w' => e = .returned (.string TX) ∧ Below w.heap.size w w') :
    Calls Tryz.prog 81 #[.agg #[.string cx, .string info, .func (.func F0) #[] #[], .func (.func F1) #[] #[], .func (.func F2) #[] #[], .func (.func F3) #[] #[], .func (.func F4) #[] #[], .func (.func F5) #[] #[], .func (.func F6) #[] #[]], .string input, .agg #[.int .u64 (px u), .int .u64 (py u), .bool (pb u)]] w fun e w' => e = .returned (.string R) ∧ Below w.heap.size w w' := by
  have hgw : 6 < w.heap.size := World.block_lt_of_cell? w _ (hT 0 (by omega))
  obtain ⟨X, hX⟩ : ∃ X, X = (w.alloc (Obj.cells #[.string cx, .string info, .func (.func F0) #[] #[], .func (.func F1) #[] #[], .func (.func F2) #[] #[], .func (.func F3) #[] #[], .func (.func F4) #[] #[], .func (.func F5) #[] #[], .func (.func F6) #[] #[]] 144)).alloc (Obj.cells #[.int .u64 (px u), .int .u64 (py u), .bool (pb u)] 106) := ⟨_, rfl⟩
  have r0 : Bk X 144 w.heap.size #[.string cx, .string info, .func (.func F0) #[] #[], .func (.func F1) #[] #[], .func (.func F2) #[] #[], .func (.func F3) #[] #[], .func (.func F4) #[] #[], .func (.func F5) #[] #[], .func (.func F6) #[] #[]] := by rw [hX]; exact (Bk.new _ _ _).alloc _
  have r1 : K3 X 106 (w.heap.size + 1) (px u) (py u) (pb u) := by rw [hX]; exact (K3.new _ _ _ _ _).at (by simp)
  have hb : Below w.heap.size w X := by rw [hX]; exact ((Below.refl _ w).alloc (Nat.le_refl _) _).alloc (by simp) _
  go_enter Tryz.func81, Tryz.ntmps81
  go_wp2
  rw [← hX]
  clear hX
  have s1 : X.drew.cell? ⟨w.heap.size, 1, none⟩ = _ := r0.cell (k := 1) rfl
  have s8 : X.drew.cell? ⟨w.heap.size, 8, none⟩ = _ := r0.cell (k := 8) rfl
  have u0 : X.drew.cell? ⟨w.heap.size + 1, 0, none⟩ = _ := r1.c0
  have u1 : X.drew.cell? ⟨w.heap.size + 1, 1, none⟩ = _ := r1.c1
  have u2 : X.drew.cell? ⟨w.heap.size + 1, 2, none⟩ = _ := r1.c2
  refine G.pool_list (W := X) [] [.val (.string input),
      .val (.iface 208 (.string input)),
      .new (.cells #[.iface 208 (.string input)] 253) (.cells #[.iface 208 (.string input)] 253) 1001,
      .val (.string T1),
      .val (.pointer (some ⟨w.heap.size, 2, none⟩)),
      .val (.pointer (some ⟨w.heap.size, 8, none⟩)),
      .val (.func (.func F6) #[] #[]),
      .val (.pointer (some ⟨w.heap.size, 0, none⟩)),
      .val (.pointer (some ⟨w.heap.size, 1, none⟩)),
      .val (.string info),
      .val (.slice none 0 0),
      .val (.string T1),
      .val (.agg #[.int .u64 (px u), .int .u64 (py u), .bool (pb u)]),
      .val (.iface 106 (.agg #[.int .u64 (px u), .int .u64 (py u), .bool (pb u)])),
      .val (.iface 210 (.string finW)),
      .new (.cells #[.iface 106 (.agg #[.int .u64 (px u), .int .u64 (py u), .bool (pb u)]), .iface 210 (.string finW)] 253) (.cells #[.iface 106 (.agg #[.int .u64 (px u), .int .u64 (py u), .bool (pb u)]), .iface 210 (.string finW)] 253) 1002,
      .val (.string TX),
      .val (.string TX)] [[1], [8], [9], [10], [3], [12], [13], [3], [15], [16], [14, 17], [11, 18], [5], [20], [], [21, 22], [19, 23], [24]] (fun f => [(some 8, .string input), (some 9, .iface 208 (.string input)), (some 10, .slice (some ⟨f 2, 0, none⟩) 1 1), (some 11, .string T1), (some 12, .pointer (some ⟨w.heap.size, 2, none⟩)), (some 13, .pointer (some ⟨w.heap.size, 8, none⟩)), (some 14, .func (.func F6) #[] #[]), (some 15, .pointer (some ⟨w.heap.size, 0, none⟩)), (some 16, .pointer (some ⟨w.heap.size, 1, none⟩)), (some 17, .string info), (some 18, .slice none 0 0), (some 19, .string T1), (some 20, .agg #[.int .u64 (px u), .int .u64 (py u), .bool (pb u)]), (some 21, .iface 106 (.agg #[.int .u64 (px u), .int .u64 (py u), .bool (pb u)])), (some 22, .iface 210 (.string finW)), (some 23, .slice (some ⟨f 15, 0, none⟩) 2 2), (some 24, .string TX), (some 7, .string TX)]) (by kernel_rfl) (by kernel_rfl) (by kernel_rfl) (by kernel_rfl) (fun _ => by kernel_rfl) (G.last_of [.cells #[.iface 208 (.string input)] 253, .cells #[.iface 106 (.agg #[.int .u64 (px u), .int .u64 (py u), .bool (pb u)]), .iface 210 (.string finW)] 253] (fun F R hm => by simp at hm) (fun ob ob' k hm => by simp at hm; rcases hm with h | h <;> simp [h]) (fun b ob ob' hm => by simp at hm)) (fun b ob ob' hm => by simp at hm) ?_ ?_
  · intro ix hix
    match ix, hix with
    | 0, _ => exact G.ob_val [(1, .string input)] rfl rfl (fun _ => by kernel_rfl) (fun A w ⟨e0, _⟩ hB => doV_move e0)
    | 1, _ => exact G.ob_val [(8, .string input)] rfl rfl (fun _ => by kernel_rfl) (fun A w ⟨e0, _⟩ hB => mi_sized e0)
    | 2, _ => exact G.ob_slc 1 [(9, .iface 208 (.string input))] rfl rfl (fun _ => by kernel_rfl) (fun A w ⟨e0, _⟩ => sl_parts1 e0)
    | 3, _ => exact G.ob_use 10 2 1001 (.cells #[.iface 208 (.string input)] 253) (fun f => [(10, .slice (some ⟨f 2, 0, none⟩) 1 1)]) rfl rfl (by decide) (by kernel_rfl) rfl (fun _ => by kernel_rfl) (fun f A w ⟨e0, _⟩ hB hr => cl2 cf_impl_transcript_with rfl e0 (Q1 _ w hr))
    | 4, _ => exact G.ob_val [(3, .pointer (some ⟨w.heap.size, 0, none⟩))] rfl rfl (fun _ => by kernel_rfl) (fun A w ⟨e0, _⟩ hB => fa_pro1 e0)
    | 5, _ => exact G.ob_val [(12, .pointer (some ⟨w.heap.size, 2, none⟩))] rfl rfl (fun _ => by kernel_rfl) (fun A w ⟨e0, _⟩ hB => fa_rul6 e0)
    | 6, _ => exact G.ob_val [(13, .pointer (some ⟨w.heap.size, 8, none⟩))] rfl rfl (fun _ => by kernel_rfl) (fun A w ⟨e0, _⟩ hB => ld_fn6 e0 (hB.cell s8 (by simp)))
    | 7, _ => exact G.ob_val [(3, .pointer (some ⟨w.heap.size, 0, none⟩))] rfl rfl (fun _ => by kernel_rfl) (fun A w ⟨e0, _⟩ hB => fa_pro0 e0)
    | 8, _ => exact G.ob_val [(15, .pointer (some ⟨w.heap.size, 0, none⟩))] rfl rfl (fun _ => by kernel_rfl) (fun A w ⟨e0, _⟩ hB => fa_set1 e0)
    | 9, _ => exact G.ob_val [(16, .pointer (some ⟨w.heap.size, 1, none⟩))] rfl rfl (fun _ => by kernel_rfl) (fun A w ⟨e0, _⟩ hB => ld_str e0 (hB.cell s1 (by simp)))
    | 10, _ => exact G.ob_val [(14, .func (.func F6) #[] #[]), (17, .string info)] rfl rfl (fun _ => by kernel_rfl) (fun A w ⟨e0, e1, _⟩ hB => cv1 E6 e0 e1 (HS w))
    | 11, _ => exact G.ob_val [(11, .string T1), (18, .slice none 0 0)] rfl rfl (fun _ => by kernel_rfl) (fun A w ⟨e0, e1, _⟩ hB => cl2 cf_impl_transcript_with e0 e1 (Q2 w))
    | 12, _ => exact G.ob_val [(5, .pointer (some ⟨w.heap.size + 1, 0, none⟩))] rfl rfl (fun _ => by kernel_rfl) (fun A w ⟨e0, _⟩ hB => ld_cp e0 (hB.cell u0 (by simp)) (hB.cell u1 (by simp)) (hB.cell u2 (by simp)))
    | 13, _ => exact G.ob_val [(20, .agg #[.int .u64 (px u), .int .u64 (py u), .bool (pb u)])] rfl rfl (fun _ => by kernel_rfl) (fun A w ⟨e0, _⟩ hB => mi_cp e0)
    | 14, _ => exact G.ob_val [] rfl rfl (fun _ => by kernel_rfl) (fun A w _ hB => mi_plain rfl)
    | 15, _ => exact G.ob_slc 2 [(21, .iface 106 (.agg #[.int .u64 (px u), .int .u64 (py u), .bool (pb u)])), (22, .iface 210 (.string finW))] rfl rfl (fun _ => by kernel_rfl) (fun A w ⟨e0, e1, _⟩ => sl_parts2 e0 e1)
    | 16, _ => exact G.ob_use 23 15 1002 (.cells #[.iface 106 (.agg #[.int .u64 (px u), .int .u64 (py u), .bool (pb u)]), .iface 210 (.string finW)] 253) (fun f => [(19, .string T1), (23, .slice (some ⟨f 15, 0, none⟩) 2 2)]) rfl rfl (by decide) (by kernel_rfl) rfl (fun _ => by kernel_rfl) (fun f A w ⟨e0, e1, _⟩ hB hr => cl2 cf_impl_transcript_with e0 e1 (Q3 _ w hr))
    | 17, _ => exact G.ob_val [(24, .string TX)] rfl rfl (fun _ => by kernel_rfl) (fun A w ⟨e0, _⟩ hB => doV_assign e0)
    | ix + 18, h => exact absurd h (by simp)
  intro f W3 hS _ _ _ _
  have b3 : Below X.heap.size X W3 := (Below.refl _ X).drew.trans hS.below
  replace hb := hb.trans (b3.mono hb.size)
  have hT3 : TabK W3 := fun i hi => (hb.cell (p := ⟨6, i, none⟩) hgw).trans (hT i hi)
  clear hS b3 s1 s8 u0 u1 u2 r0 r1 Q1 Q2 Q3 HS
  simp only [puts, List.foldl, Act.put, List.setIfInBounds_toArray, List.set_cons_zero, List.set_cons_succ]
  have hal := (Below.refl _ W3).alloc (Nat.le_refl _) (Obj.cells #[.string TX] 9)
  have hT4 : TabK (W3.alloc (Obj.cells #[.string TX] 9)) := fun i hi => (hal.cell (p := ⟨6, i, none⟩) (Nat.lt_of_lt_of_le hgw hb.size)).trans (hT3 i hi)
  go_wp2_with fail
  refine (QH _ _ hT4 (heap_alloc_new W3 _)).mono ?_
  rintro e w4 ⟨rfl, b4⟩
  replace hb := hb.trans (hal.mono hb.size)
  replace hb := hb.trans (b4.mono hb.size)
  go_wp2
  go_ret
  exact ⟨rfl, hb⟩
set_option maxRecDepth 100000 in
set_option maxHeartbeats 4000000 in
theorem outI_twoof
    (HS : ∀ w, Calls Tryz.prog F6 #[.string info] w fun e w' => ∃ x, e = .returned (slP x) ∧ cePart info x w' ∧ Below w.heap.size w w')
    (Q2 : ∀ x w, cePart info x w → Calls Tryz.prog 123 #[.string T1, slP x] w fun e w' => e = .returned (.string T2) ∧ Below w.heap.size w w')
    (Q3 : ∀ i (w : World), w.heap[i]? = some (.cells #[.iface 106 (.agg #[.int .u64 (px u), .int .u64 (py u), .bool (pb u)]), .iface 210 (.string finW)] 253) → Calls Tryz.prog 123 #[.string T2, .slice (some ⟨i, 0, none⟩) 2 2] w fun e w' => e = .returned (.string TX) ∧ Below w.heap.size w w') :
    Calls Tryz.prog 81 #[.agg #[.string cx, .string info, .func (.func F0) #[] #[], .func (.func F1) #[] #[], .func (.func F2) #[] #[], .func (.func F3) #[] #[], .func (.func F4) #[] #[], .func (.func F5) #[] #[], .func (.func F6) #[] #[]], .string input, .agg #[.int .u64 (px u), .int .u64 (py u), .bool (pb u)]] w fun e w' => e = .returned (.string R) ∧ Below w.heap.size w w' := by
  have hgw : 6 < w.heap.size := World.block_lt_of_cell? w _ (hT 0 (by omega))
  obtain ⟨X, hX⟩ : ∃ X, X = (w.alloc (Obj.cells #[.string cx, .string info, .func (.func F0) #[] #[], .func (.func F1) #[] #[], .func (.func F2) #[] #[], .func (.func F3) #[] #[], .func (.func F4) #[] #[], .func (.func F5) #[] #[], .func (.func F6) #[] #[]] 144)).alloc (Obj.cells #[.int .u64 (px u), .int .u64 (py u), .bool (pb u)] 106) := ⟨_, rfl⟩
  have r0 : Bk X 144 w.heap.size #[.string cx, .string info, .func (.func F0) #[] #[], .func (.func F1) #[] #[], .func (.func F2) #[] #[], .func (.func F3) #[] #[], .func (.func F4) #[] #[], .func (.func F5) #[] #[], .func (.func F6) #[] #[]] := by rw [hX]; exact (Bk.new _ _ _).alloc _
  have r1 : K3 X 106 (w.heap.size + 1) (px u) (py u) (pb u) := by rw [hX]; exact (K3.new _ _ _ _ _).at (by simp)
  have hb : Below w.heap.size w X := by rw [hX]; exact ((Below.refl _ w).alloc (Nat.le_refl _) _).alloc (by simp) _
  go_enter Tryz.func81, Tryz.ntmps81
  go_wp2
  rw [← hX]
  clear hX
  have s1 : X.drew.cell? ⟨w.heap.size, 1, none⟩ = _ := r0.cell (k := 1) rfl
  have s8 : X.drew.cell? ⟨w.heap.size, 8, none⟩ = _ := r0.cell (k := 8) rfl
  have u0 : X.drew.cell? ⟨w.heap.size + 1, 0, none⟩ = _ := r1.c0
  have u1 : X.drew.cell? ⟨w.heap.size + 1, 1, none⟩ = _ := r1.c1
  have u2 : X.drew.cell? ⟨w.heap.size + 1, 2, none⟩ = _ := r1.c2
  refine G.pool_list (W := X) [] [.val (.string input),
      .val (.iface 208 (.string input)),
      .new (.cells #[.iface 208 (.string input)] 253) (.cells #[.iface 208 (.string input)] 253) 1001,
      .val (.string T1),
      .val (.pointer (some ⟨w.heap.size, 2, none⟩)),
      .val (.pointer (some ⟨w.heap.size, 8, none⟩)),
      .val (.func (.func F6) #[] #[]),
      .val (.pointer (some ⟨w.heap.size, 0, none⟩)),
      .val (.pointer (some ⟨w.heap.size, 1, none⟩)),
      .val (.string info),
      .got (slP) (cePart info),
      .val (.string T2),
      .val (.agg #[.int .u64 (px u), .int .u64 (py u), .bool (pb u)]),
      .val (.iface 106 (.agg #[.int .u64 (px u), .int .u64 (py u), .bool (pb u)])),
      .val (.iface 210 (.string finW)),
      .new (.cells #[.iface 106 (.agg #[.int .u64 (px u), .int .u64 (py u), .bool (pb u)]), .iface 210 (.string finW)] 253) (.cells #[.iface 106 (.agg #[.int .u64 (px u), .int .u64 (py u), .bool (pb u)]), .iface 210 (.string finW)] 253) 1002,
      .val (.string TX),
      .val (.string TX)] [[1], [8], [9], [10], [3], [12], [13], [3], [15], [16], [14, 17], [11, 18], [5], [20], [], [21, 22], [19, 23], [24]] (fun f => [(some 8, .string input), (some 9, .iface 208 (.string input)), (some 10, .slice (some ⟨f 2, 0, none⟩) 1 1), (some 11, .string T1), (some 12, .pointer (some ⟨w.heap.size, 2, none⟩)), (some 13, .pointer (some ⟨w.heap.size, 8, none⟩)), (some 14, .func (.func F6) #[] #[]), (some 15, .pointer (some ⟨w.heap.size, 0, none⟩)), (some 16, .pointer (some ⟨w.heap.size, 1, none⟩)), (some 17, .string info), (some 18, slP (f 10)), (some 19, .string T2), (some 20, .agg #[.int .u64 (px u), .int .u64 (py u), .bool (pb u)]), (some 21, .iface 106 (.agg #[.int .u64 (px u), .int .u64 (py u), .bool (pb u)])), (some 22, .iface 210 (.string finW)), (some 23, .slice (some ⟨f 15, 0, none⟩) 2 2), (some 24, .string TX), (some 7, .string TX)]) (by kernel_rfl) (by kernel_rfl) (by kernel_rfl) (by kernel_rfl) (fun _ => by kernel_rfl) (G.last_same [] (fun F R hm => by simp only [List.mem_cons, List.not_mem_nil, or_false, reduceCtorEq, false_or, G.Knd.got.injEq] at hm; obtain ⟨-, rfl⟩ := hm; exact ⟨cePart_lasts info _ (fun ob hm => by simp at hm), fun x w w' hx hk => (hk x).trans hx⟩) (fun ob ob' k hm => by simp at hm; rcases hm with ⟨rfl, rfl, -⟩ | ⟨rfl, rfl, -⟩ <;> exact .inl rfl) (fun b ob ob' hm => by simp at hm)) (fun b ob ob' hm => by simp at hm) ?_ ?_
  · intro ix hix
    match ix, hix with
    | 0, _ => exact G.ob_val [(1, .string input)] rfl rfl (fun _ => by kernel_rfl) (fun A w ⟨e0, _⟩ hB => doV_move e0)
    | 1, _ => exact G.ob_val [(8, .string input)] rfl rfl (fun _ => by kernel_rfl) (fun A w ⟨e0, _⟩ hB => mi_sized e0)
    | 2, _ => exact G.ob_slc 1 [(9, .iface 208 (.string input))] rfl rfl (fun _ => by kernel_rfl) (fun A w ⟨e0, _⟩ => sl_parts1 e0)
    | 3, _ => exact G.ob_use 10 2 1001 (.cells #[.iface 208 (.string input)] 253) (fun f => [(10, .slice (some ⟨f 2, 0, none⟩) 1 1)]) rfl rfl (by decide) (by kernel_rfl) rfl (fun _ => by kernel_rfl) (fun f A w ⟨e0, _⟩ hB hr => cl2 cf_impl_transcript_with rfl e0 (Q1 _ w hr))
    | 4, _ => exact G.ob_val [(3, .pointer (some ⟨w.heap.size, 0, none⟩))] rfl rfl (fun _ => by kernel_rfl) (fun A w ⟨e0, _⟩ hB => fa_pro1 e0)
    | 5, _ => exact G.ob_val [(12, .pointer (some ⟨w.heap.size, 2, none⟩))] rfl rfl (fun _ => by kernel_rfl) (fun A w ⟨e0, _⟩ hB => fa_rul6 e0)
    | 6, _ => exact G.ob_val [(13, .pointer (some ⟨w.heap.size, 8, none⟩))] rfl rfl (fun _ => by kernel_rfl) (fun A w ⟨e0, _⟩ hB => ld_fn6 e0 (hB.cell s8 (by simp)))
    | 7, _ => exact G.ob_val [(3, .pointer (some ⟨w.heap.size, 0, none⟩))] rfl rfl (fun _ => by kernel_rfl) (fun A w ⟨e0, _⟩ hB => fa_pro0 e0)
    | 8, _ => exact G.ob_val [(15, .pointer (some ⟨w.heap.size, 0, none⟩))] rfl rfl (fun _ => by kernel_rfl) (fun A w ⟨e0, _⟩ hB => fa_set1 e0)
    | 9, _ => exact G.ob_val [(16, .pointer (some ⟨w.heap.size, 1, none⟩))] rfl rfl (fun _ => by kernel_rfl) (fun A w ⟨e0, _⟩ hB => ld_str e0 (hB.cell s1 (by simp)))
    | 10, _ => exact G.ob_got (fun f => [(14, .func (.func F6) #[] #[]), (17, .string info)]) rfl rfl (fun _ => by kernel_rfl) (fun f A w ⟨e0, e1, _⟩ hB hh => cw1 E6 e0 e1 (HS w))
    | 11, _ => exact G.ob_had (fun f => [(11, .string T1), (18, slP (f 10))]) rfl rfl (fun _ => by kernel_rfl) (fun f A w ⟨e0, e1, _⟩ hB hh => cl2 cf_impl_transcript_with e0 e1 (Q2 _ w (hh 18 (by decide) 10 rfl (by decide) _ _ rfl)))
    | 12, _ => exact G.ob_val [(5, .pointer (some ⟨w.heap.size + 1, 0, none⟩))] rfl rfl (fun _ => by kernel_rfl) (fun A w ⟨e0, _⟩ hB => ld_cp e0 (hB.cell u0 (by simp)) (hB.cell u1 (by simp)) (hB.cell u2 (by simp)))
    | 13, _ => exact G.ob_val [(20, .agg #[.int .u64 (px u), .int .u64 (py u), .bool (pb u)])] rfl rfl (fun _ => by kernel_rfl) (fun A w ⟨e0, _⟩ hB => mi_cp e0)
    | 14, _ => exact G.ob_val [] rfl rfl (fun _ => by kernel_rfl) (fun A w _ hB => mi_plain rfl)
    | 15, _ => exact G.ob_slc 2 [(21, .iface 106 (.agg #[.int .u64 (px u), .int .u64 (py u), .bool (pb u)])), (22, .iface 210 (.string finW))] rfl rfl (fun _ => by kernel_rfl) (fun A w ⟨e0, e1, _⟩ => sl_parts2 e0 e1)
    | 16, _ => exact G.ob_use 23 15 1002 (.cells #[.iface 106 (.agg #[.int .u64 (px u), .int .u64 (py u), .bool (pb u)]), .iface 210 (.string finW)] 253) (fun f => [(19, .string T2), (23, .slice (some ⟨f 15, 0, none⟩) 2 2)]) rfl rfl (by decide) (by kernel_rfl) rfl (fun _ => by kernel_rfl) (fun f A w ⟨e0, e1, _⟩ hB hr => cl2 cf_impl_transcript_with e0 e1 (Q3 _ w hr))
    | 17, _ => exact G.ob_val [(24, .string TX)] rfl rfl (fun _ => by kernel_rfl) (fun A w ⟨e0, _⟩ hB => doV_assign e0)
    | ix + 18, h => exact absurd h (by simp)
  intro f W3 hS _ _ _ _
  have b3 : Below X.heap.size X W3 := (Below.refl _ X).drew.trans hS.below
  replace hb := hb.trans (b3.mono hb.size)
  have hT3 : TabK W3 := fun i hi => (hb.cell (p := ⟨6, i, none⟩) hgw).trans (hT i hi)
  clear hS b3 s1 s8 u0 u1 u2 r0 r1 Q1 Q2 Q3 HS
  simp only [puts, List.foldl, Act.put, List.setIfInBounds_toArray, List.set_cons_zero, List.set_cons_succ]
  have hal := (Below.refl _ W3).alloc (Nat.le_refl _) (Obj.cells #[.string TX] 9)
  have hT4 : TabK (W3.alloc (Obj.cells #[.string TX] 9)) := fun i hi => (hal.cell (p := ⟨6, i, none⟩) (Nat.lt_of_lt_of_le hgw hb.size)).trans (hT3 i hi)
  go_wp2_with fail
  refine (QH _ _ hT4 (heap_alloc_new W3 _)).mono ?_
  rintro e w4 ⟨rfl, b4⟩
  replace hb := hb.trans (hal.mono hb.size)
  replace hb := hb.trans (b4.mono hb.size)
  go_wp2
  go_ret
  exact ⟨rfl, hb⟩
end
section
variable (cx info input : ByteArray) (u : Pt) (F0 F1 F2 F3 F4 F5 F6 : FuncId) (w : World) (hT : TabK w) (h1 : input.size ≤ 65535) (h2 : info.size ≤ 60000)
    (E6 : ∀ (args : Array Value) (w : World), (callFunc F6 args).run Tryz.prog w = .ok (.enter F6 args) w)
include hT h1 h2 E6
set_option maxRecDepth 100000 in
theorem outI_no (mode : Int) (hm : ¬ mode = 2)
    (HS : ∀ w, Calls Tryz.prog F6 #[.string info] w fun e w' => e = .returned (.slice none 0 0) ∧ Below w.heap.size w w') :
    Calls Tryz.prog 81 #[.agg #[.string cx, .string info, .func (.func F0) #[] #[], .func (.func F1) #[] #[], .func (.func F2) #[] #[], .func (.func F3) #[] #[], .func (.func F4) #[] #[], .func (.func F5) #[] #[], .func (.func F6) #[] #[]], .string input, .agg #[.int .u64 (px u), .int .u64 (py u), .bool (pb u)]] w fun e w' => e = .returned (.string (outB mode input info u)) ∧ Below w.heap.size w w' := by
  have hz1 : (⟨#[]⟩ ++ sizB input : ByteArray).size ≤ 200000 := by rw [ByteArray.size_append, sizB_size]; show 0 + _ ≤ _; omega
  have eT : (⟨#[]⟩ ++ sizB input : ByteArray) ++ sizB (ptB u) ++ finW = outT mode input info u := by unfold outT; rw [if_neg hm, eml]
  have hzo := outT_size mode input info u h1 h2
  have A1 : ∀ i (w : World), w.heap[i]? = some (.cells #[.iface 208 (.string input)] 253) → Calls Tryz.prog 123 #[.string ⟨#[]⟩, .slice (some ⟨i, 0, none⟩) 1 1] w fun e w' => e = .returned (.string (⟨#[]⟩ ++ sizB input)) ∧ Below w.heap.size w w' := fun i w hr => wth1 ⟨#[]⟩ input i w (by decide) h1 hr
  have A2 := fun w => wth0 (⟨#[]⟩ ++ sizB input) w (by omega)
  have A3 := fun i w hr => wth2 (⟨#[]⟩ ++ sizB input) u i w hz1 hr
  rw [eT] at A3
  have A4 := fun g w hT hr => hash_blk (outT mode input info u) g 9 w hT hr (by omega)
  clear eT hz1 hzo
  generalize (⟨#[]⟩ ++ sizB input : ByteArray) = T1 at A1 A2 A3
  exact outI_noof cx info input T1 (outT mode input info u) (outB mode input info u) u F0 F1 F2 F3 F4 F5 F6 w hT E6 A1 A4 HS A2 A3
set_option maxRecDepth 100000 in
theorem outI_two
    (HS : ∀ w, Calls Tryz.prog F6 #[.string info] w fun e w' => ∃ x, e = .returned (slP x) ∧ cePart info x w' ∧ Below w.heap.size w w') :
    Calls Tryz.prog 81 #[.agg #[.string cx, .string info, .func (.func F0) #[] #[], .func (.func F1) #[] #[], .func (.func F2) #[] #[], .func (.func F3) #[] #[], .func (.func F4) #[] #[], .func (.func F5) #[] #[], .func (.func F6) #[] #[]], .string input, .agg #[.int .u64 (px u), .int .u64 (py u), .bool (pb u)]] w fun e w' => e = .returned (.string (outB 2 input info u)) ∧ Below w.heap.size w w' := by
  have e0 := eml (sizB input)
  have hzo := outT_size 2 input info u h1 h2
  have A4 := fun g w hT hr => hash_blk (outT 2 input info u) g 9 w hT hr (by omega)
  have eO : outB 2 input info u = strOfNums (shaF (byt (outT 2 input info u))) := rfl
  have eX : outT 2 input info u = sizB input ++ sizB info ++ sizB (ptB u) ++ finW := by unfold outT; rw [if_pos rfl]
  rw [eO]
  clear eO
  have A1 : ∀ i (w : World), w.heap[i]? = some (.cells #[.iface 208 (.string input)] 253) → Calls Tryz.prog 123 #[.string ⟨#[]⟩, .slice (some ⟨i, 0, none⟩) 1 1] w fun e w' => e = .returned (.string (sizB input)) ∧ Below w.heap.size w w' := fun i w hr => by
    have := wth1 ⟨#[]⟩ input i w (by decide) h1 hr
    rw [e0] at this
    exact this
  clear e0
  have z1 := sizB_size input
  have z2 := sizB_size info
  obtain ⟨T1, hT1⟩ : ∃ T1, T1 = sizB input := ⟨_, rfl⟩
  rw [← hT1] at A1 eX z1
  have A2 : ∀ x w, cePart info x w → Calls Tryz.prog 123 #[.string T1, slP x] w fun e w' => e = .returned (.string (T1 ++ sizB info)) ∧ Below w.heap.size w w' := fun x w hr => wth1 T1 info x w (by omega) (by omega) hr
  obtain ⟨T2, hT2⟩ : ∃ T2, T2 = T1 ++ sizB info := ⟨_, rfl⟩
  have z3 : T2.size ≤ 200000 := by rw [hT2, ByteArray.size_append]; omega
  rw [← hT2] at A2 eX
  have A3 := fun i w hr => wth2 T2 u i w z3 hr
  rw [← eX] at A3
  generalize outT 2 input info u = TX at *
  exact outI_twoof cx info input T1 T2 TX _ u F0 F1 F2 F3 F4 F5 F6 w hT E6 A1 A4 HS A2 A3
end
end Go.Proofs.YtjmhmajfkdglnaaGreatDoor

/-
  The program's Direct.
-/
namespace Go.Proofs.YtjmhmajfkdglnaaGreatDoor
open Go.RowKit M
set_option linter.unusedVariables false

section
variable (mode k s g : Int) (input info cx R : ByteArray) (p u : Pt) (F0 F1 F2 F3 F4 F5 F6 : FuncId) (T : TypeId) (x : Value) (a0 a2 : Addr) (w : World)
set_option maxRecDepth 100000 in
set_option maxHeartbeats 4000000 in
theorem hdI_a
    (FP : ∀ w', Below w.heap.size w w' → Calls Tryz.prog 78 #[.int .i64 mode, .string info] w' fun e w'' => e = .returned (.tuple #[.agg zPro, .iface T x]) ∧ Below w'.heap.size w' w'') :
    Calls Tryz.prog 39 #[.int .i64 mode, .int .u64 k, .string input, .string info] w fun e w' => e = .returned (.tuple #[.string ⟨#[]⟩, .iface T x]) ∧ Below w.heap.size w w' := by
  unfold zPro at FP
  have hb := Below.refl w.heap.size w
  go_enter Tryz.func39, Tryz.ntmps39
  go_wp2_with fail
  refine (FP _ hb).mono ?_
  rintro e w1 ⟨rfl, b1⟩
  have hal := (Below.refl _ w1).alloc (Nat.le_refl _) (Obj.cells #[.string ⟨#[]⟩, .string ⟨#[]⟩, .nilFunc, .nilFunc, .nilFunc, .nilFunc, .nilFunc, .nilFunc, .nilFunc] 144)
  replace hb := hb.trans (b1.mono hb.size)
  replace hb := hb.trans (hal.mono hb.size)
  clear FP b1 hal
  go_wp2
  go_ret2
  exact ⟨rfl, hb⟩

variable (FP : ∀ w', Below w.heap.size w w' → Calls Tryz.prog 78 #[.int .i64 mode, .string info] w' fun e w'' => e = .returned (.tuple #[.agg #[.string cx, .string info, .func (.func F0) #[] #[], .func (.func F1) #[] #[], .func (.func F2) #[] #[], .func (.func F3) #[] #[], .func (.func F4) #[] #[], .func (.func F5) #[] #[], .func (.func F6) #[] #[]], .nilIface]) ∧ Below w'.heap.size w' w'')
include FP
set_option maxRecDepth 100000 in
set_option maxHeartbeats 4000000 in
theorem hdI_b
    (FF : ∀ w', Below w.heap.size w w' → Calls Tryz.prog 79 #[.int .u64 k] w' fun e w'' => e = .returned (.tuple #[.agg #[.int .u64 0], sen a0]) ∧ Below w'.heap.size w' w'') :
    Calls Tryz.prog 39 #[.int .i64 mode, .int .u64 k, .string input, .string info] w fun e w' => e = .returned (.tuple #[.string ⟨#[]⟩, flt ⟨#[107, 101, 121]⟩ (sen a0)]) ∧ Below w.heap.size w w' := by
  unfold flt sen at *
  have hb := Below.refl w.heap.size w
  go_enter Tryz.func39, Tryz.ntmps39
  go_wp2_with fail
  refine (FP _ hb).mono ?_
  rintro e w1 ⟨rfl, b1⟩
  have hal := (Below.refl _ w1).alloc (Nat.le_refl _) (Obj.cells #[.string cx, .string info, .func (.func F0) #[] #[], .func (.func F1) #[] #[], .func (.func F2) #[] #[], .func (.func F3) #[] #[], .func (.func F4) #[] #[], .func (.func F5) #[] #[], .func (.func F6) #[] #[]] 144)
  have r10 := Bk.new w1 144 #[.string cx, .string info, .func (.func F0) #[] #[], .func (.func F1) #[] #[], .func (.func F2) #[] #[], .func (.func F3) #[] #[], .func (.func F4) #[] #[], .func (.func F5) #[] #[], .func (.func F6) #[] #[]]
  replace hb := hb.trans (b1.mono hb.size)
  replace hb := hb.trans (hal.mono hb.size)
  clear FP b1 hal
  go_wp2_with fail
  refine (FF _ hb).mono ?_
  rintro e w2 ⟨rfl, b1⟩
  have hal := (Below.refl _ w2).alloc (Nat.le_refl _) (Obj.cells #[.int .u64 0] 117)
  replace hb := hb.trans (b1.mono hb.size)
  replace hb := hb.trans (hal.mono hb.size)
  clear FF b1 hal
  go_wp2
  go_ret2
  exact ⟨rfl, hb⟩

variable (FF : ∀ w', Below w.heap.size w w' → Calls Tryz.prog 79 #[.int .u64 k] w' fun e w'' => e = .returned (.tuple #[.agg #[.int .u64 k], .nilIface]) ∧ Below w'.heap.size w' w'')
include FF
set_option maxRecDepth 100000 in
set_option maxHeartbeats 4000000 in
theorem hdI_c
    (GR : ∀ w', Below w.heap.size w w' → Calls Tryz.prog 80 #[.agg #[.string cx, .string info, .func (.func F0) #[] #[], .func (.func F1) #[] #[], .func (.func F2) #[] #[], .func (.func F3) #[] #[], .func (.func F4) #[] #[], .func (.func F5) #[] #[], .func (.func F6) #[] #[]], .string input] w' fun e w'' => e = .returned (.tuple #[.agg #[.int .u64 (px p), .int .u64 (py p), .bool (pb p)], .iface T x]) ∧ Below w'.heap.size w' w'') :
    Calls Tryz.prog 39 #[.int .i64 mode, .int .u64 k, .string input, .string info] w fun e w' => e = .returned (.tuple #[.string ⟨#[]⟩, .iface T x]) ∧ Below w.heap.size w w' := by
  have hb := Below.refl w.heap.size w
  go_enter Tryz.func39, Tryz.ntmps39
  go_wp2_with fail
  refine (FP _ hb).mono ?_
  rintro e w1 ⟨rfl, b1⟩
  have hal := (Below.refl _ w1).alloc (Nat.le_refl _) (Obj.cells #[.string cx, .string info, .func (.func F0) #[] #[], .func (.func F1) #[] #[], .func (.func F2) #[] #[], .func (.func F3) #[] #[], .func (.func F4) #[] #[], .func (.func F5) #[] #[], .func (.func F6) #[] #[]] 144)
  have r10 := Bk.new w1 144 #[.string cx, .string info, .func (.func F0) #[] #[], .func (.func F1) #[] #[], .func (.func F2) #[] #[], .func (.func F3) #[] #[], .func (.func F4) #[] #[], .func (.func F5) #[] #[], .func (.func F6) #[] #[]]
  replace hb := hb.trans (b1.mono hb.size)
  replace hb := hb.trans (hal.mono hb.size)
  clear FP b1 hal
  go_wp2_with fail
  refine (FF _ hb).mono ?_
  rintro e w2 ⟨rfl, b1⟩
  have hal := (Below.refl _ w2).alloc (Nat.le_refl _) (Obj.cells #[.int .u64 k] 117)
  have r12 := Bk.new w2 117 #[.int .u64 k]
  replace r10 := (r10.keep b1).keep hal
  replace hb := hb.trans (b1.mono hb.size)
  replace hb := hb.trans (hal.mono hb.size)
  clear FF b1 hal
  have d0 := r10.cell (k := 0) rfl
  have d1 := r10.cell (k := 1) rfl
  have d2 := r10.cell (k := 2) rfl
  have d3 := r10.cell (k := 3) rfl
  have d4 := r10.cell (k := 4) rfl
  have d5 := r10.cell (k := 5) rfl
  have d6 := r10.cell (k := 6) rfl
  have d7 := r10.cell (k := 7) rfl
  have d8 := r10.cell (k := 8) rfl
  go_wp2_with fail
  refine (GR _ hb).mono ?_
  rintro e w3 ⟨rfl, b1⟩
  have hal := (Below.refl _ w3).alloc (Nat.le_refl _) (Obj.cells #[.int .u64 (px p), .int .u64 (py p), .bool (pb p)] 106)
  replace hb := hb.trans (b1.mono hb.size)
  replace hb := hb.trans (hal.mono hb.size)
  clear GR d0 d1 d2 d3 d4 d5 d6 d7 d8 b1 hal
  go_wp2
  go_ret2
  exact ⟨rfl, hb⟩

variable (GR : ∀ w', Below w.heap.size w w' → Calls Tryz.prog 80 #[.agg #[.string cx, .string info, .func (.func F0) #[] #[], .func (.func F1) #[] #[], .func (.func F2) #[] #[], .func (.func F3) #[] #[], .func (.func F4) #[] #[], .func (.func F5) #[] #[], .func (.func F6) #[] #[]], .string input] w' fun e w'' => e = .returned (.tuple #[.agg #[.int .u64 (px p), .int .u64 (py p), .bool (pb p)], .nilIface]) ∧ Below w'.heap.size w' w'')
    (E1 : ∀ (args : Array Value) (w : World), (callFunc F1 args).run Tryz.prog w = .ok (.enter F1 args) w)
include GR E1
set_option maxRecDepth 100000 in
set_option maxHeartbeats 4000000 in
theorem hdI_d
    (SE : ∀ w', Below w.heap.size w w' → Calls Tryz.prog F1 #[.agg #[.string cx, .string info], .agg #[.int .u64 k]] w' fun e w'' => e = .returned (.tuple #[.agg #[.int .u64 s], sen a2]) ∧ Below w'.heap.size w' w'') :
    Calls Tryz.prog 39 #[.int .i64 mode, .int .u64 k, .string input, .string info] w fun e w' => e = .returned (.tuple #[.string ⟨#[]⟩, flt ⟨#[107, 101, 121, 32, 97, 110, 100, 32, 105, 110, 102, 111]⟩ (sen a2)]) ∧ Below w.heap.size w w' := by
  unfold flt sen at *
  have hb := Below.refl w.heap.size w
  go_enter Tryz.func39, Tryz.ntmps39
  go_wp2_with fail
  refine (FP _ hb).mono ?_
  rintro e w1 ⟨rfl, b1⟩
  have hal := (Below.refl _ w1).alloc (Nat.le_refl _) (Obj.cells #[.string cx, .string info, .func (.func F0) #[] #[], .func (.func F1) #[] #[], .func (.func F2) #[] #[], .func (.func F3) #[] #[], .func (.func F4) #[] #[], .func (.func F5) #[] #[], .func (.func F6) #[] #[]] 144)
  have r10 := Bk.new w1 144 #[.string cx, .string info, .func (.func F0) #[] #[], .func (.func F1) #[] #[], .func (.func F2) #[] #[], .func (.func F3) #[] #[], .func (.func F4) #[] #[], .func (.func F5) #[] #[], .func (.func F6) #[] #[]]
  replace hb := hb.trans (b1.mono hb.size)
  replace hb := hb.trans (hal.mono hb.size)
  clear FP b1 hal
  go_wp2_with fail
  refine (FF _ hb).mono ?_
  rintro e w2 ⟨rfl, b1⟩
  have hal := (Below.refl _ w2).alloc (Nat.le_refl _) (Obj.cells #[.int .u64 k] 117)
  have r12 := Bk.new w2 117 #[.int .u64 k]
  replace r10 := (r10.keep b1).keep hal
  replace hb := hb.trans (b1.mono hb.size)
  replace hb := hb.trans (hal.mono hb.size)
  clear FF b1 hal
  have d0 := r10.cell (k := 0) rfl
  have d1 := r10.cell (k := 1) rfl
  have d2 := r10.cell (k := 2) rfl
  have d3 := r10.cell (k := 3) rfl
  have d4 := r10.cell (k := 4) rfl
  have d5 := r10.cell (k := 5) rfl
  have d6 := r10.cell (k := 6) rfl
  have d7 := r10.cell (k := 7) rfl
  have d8 := r10.cell (k := 8) rfl
  go_wp2_with fail
  refine (GR _ hb).mono ?_
  rintro e w3 ⟨rfl, b1⟩
  have hal := (Below.refl _ w3).alloc (Nat.le_refl _) (Obj.cells #[.int .u64 (px p), .int .u64 (py p), .bool (pb p)] 106)
  have r13 := Bk.new w3 106 #[.int .u64 (px p), .int .u64 (py p), .bool (pb p)]
  replace r10 := (r10.keep b1).keep hal
  replace r12 := (r12.keep b1).keep hal
  replace hb := hb.trans (b1.mono hb.size)
  replace hb := hb.trans (hal.mono hb.size)
  clear GR d0 d1 d2 d3 d4 d5 d6 d7 d8 b1 hal
  have d0 := r10.cell (k := 0) rfl
  have d1 := r10.cell (k := 1) rfl
  have d3 := r10.cell (k := 3) rfl
  have e0 := r12.cell (k := 0) rfl
  go_wp2_with fail
  refine (SE _ hb).mono ?_
  rintro e w4 ⟨rfl, b1⟩
  have hal := (Below.refl _ w4).alloc (Nat.le_refl _) (Obj.cells #[.int .u64 s] 117)
  replace hb := hb.trans (b1.mono hb.size)
  replace hb := hb.trans (hal.mono hb.size)
  clear SE d0 d1 d3 e0 b1 hal
  go_wp2
  go_ret2
  exact ⟨rfl, hb⟩

set_option maxRecDepth 100000 in
set_option maxHeartbeats 4000000 in
theorem hdI_e
    (SE : ∀ w', Below w.heap.size w w' → Calls Tryz.prog F1 #[.agg #[.string cx, .string info], .agg #[.int .u64 k]] w' fun e w'' => e = .returned (.tuple #[.agg #[.int .u64 s], .nilIface]) ∧ Below w'.heap.size w' w'')
    (E2 : ∀ (args : Array Value) (w : World), (callFunc F2 args).run Tryz.prog w = .ok (.enter F2 args) w)
    (FA : ∀ w, Calls Tryz.prog F2 #[.agg #[.int .u64 s]] w fun e w' => e = .returned (.agg #[.int .u64 g]) ∧ Below w.heap.size w w')
    (TM : ∀ w, Calls Tryz.prog 68 #[.agg #[.int .u64 (px p), .int .u64 (py p), .bool (pb p)], .int .u64 g] w fun e w' => e = .returned (.agg #[.int .u64 (px u), .int .u64 (py u), .bool (pb u)]) ∧ Below w.heap.size w w')
    (OU : ∀ w', Below w.heap.size w w' → Calls Tryz.prog 81 #[.agg #[.string cx, .string info, .func (.func F0) #[] #[], .func (.func F1) #[] #[], .func (.func F2) #[] #[], .func (.func F3) #[] #[], .func (.func F4) #[] #[], .func (.func F5) #[] #[], .func (.func F6) #[] #[]], .string input, .agg #[.int .u64 (px u), .int .u64 (py u), .bool (pb u)]] w' fun e w'' => e = .returned (.string R) ∧ Below w'.heap.size w' w'') :
    Calls Tryz.prog 39 #[.int .i64 mode, .int .u64 k, .string input, .string info] w fun e w' => e = .returned (.tuple #[.string R, .nilIface]) ∧ Below w.heap.size w w' := by
  have hb := Below.refl w.heap.size w
  go_enter Tryz.func39, Tryz.ntmps39
  go_wp2_with fail
  refine (FP _ hb).mono ?_
  rintro e w1 ⟨rfl, b1⟩
  have hal := (Below.refl _ w1).alloc (Nat.le_refl _) (Obj.cells #[.string cx, .string info, .func (.func F0) #[] #[], .func (.func F1) #[] #[], .func (.func F2) #[] #[], .func (.func F3) #[] #[], .func (.func F4) #[] #[], .func (.func F5) #[] #[], .func (.func F6) #[] #[]] 144)
  have r10 := Bk.new w1 144 #[.string cx, .string info, .func (.func F0) #[] #[], .func (.func F1) #[] #[], .func (.func F2) #[] #[], .func (.func F3) #[] #[], .func (.func F4) #[] #[], .func (.func F5) #[] #[], .func (.func F6) #[] #[]]
  replace hb := hb.trans (b1.mono hb.size)
  replace hb := hb.trans (hal.mono hb.size)
  clear FP b1 hal
  go_wp2_with fail
  refine (FF _ hb).mono ?_
  rintro e w2 ⟨rfl, b1⟩
  have hal := (Below.refl _ w2).alloc (Nat.le_refl _) (Obj.cells #[.int .u64 k] 117)
  have r12 := Bk.new w2 117 #[.int .u64 k]
  replace r10 := (r10.keep b1).keep hal
  replace hb := hb.trans (b1.mono hb.size)
  replace hb := hb.trans (hal.mono hb.size)
  clear FF b1 hal
  have d0 := r10.cell (k := 0) rfl
  have d1 := r10.cell (k := 1) rfl
  have d2 := r10.cell (k := 2) rfl
  have d3 := r10.cell (k := 3) rfl
  have d4 := r10.cell (k := 4) rfl
  have d5 := r10.cell (k := 5) rfl
  have d6 := r10.cell (k := 6) rfl
  have d7 := r10.cell (k := 7) rfl
  have d8 := r10.cell (k := 8) rfl
  go_wp2_with fail
  refine (GR _ hb).mono ?_
  rintro e w3 ⟨rfl, b1⟩
  have hal := (Below.refl _ w3).alloc (Nat.le_refl _) (Obj.cells #[.int .u64 (px p), .int .u64 (py p), .bool (pb p)] 106)
  have r13 := Bk.new w3 106 #[.int .u64 (px p), .int .u64 (py p), .bool (pb p)]
  replace r10 := (r10.keep b1).keep hal
  replace r12 := (r12.keep b1).keep hal
  replace hb := hb.trans (b1.mono hb.size)
  replace hb := hb.trans (hal.mono hb.size)
  clear GR d0 d1 d2 d3 d4 d5 d6 d7 d8 b1 hal
  have d0 := r10.cell (k := 0) rfl
  have d1 := r10.cell (k := 1) rfl
  have d3 := r10.cell (k := 3) rfl
  have e0 := r12.cell (k := 0) rfl
  go_wp2_with fail
  refine (SE _ hb).mono ?_
  rintro e w4 ⟨rfl, b1⟩
  have hal := (Below.refl _ w4).alloc (Nat.le_refl _) (Obj.cells #[.int .u64 s] 117)
  have r14 := Bk.new w4 117 #[.int .u64 s]
  replace r10 := (r10.keep b1).keep hal
  replace r13 := (r13.keep b1).keep hal
  replace hb := hb.trans (b1.mono hb.size)
  replace hb := hb.trans (hal.mono hb.size)
  clear SE d0 d1 d3 e0 b1 hal
  have d0 := r10.cell (k := 0) rfl
  have d1 := r10.cell (k := 1) rfl
  have d2 := r10.cell (k := 2) rfl
  have d3 := r10.cell (k := 3) rfl
  have d4 := r10.cell (k := 4) rfl
  have d5 := r10.cell (k := 5) rfl
  have d6 := r10.cell (k := 6) rfl
  have d7 := r10.cell (k := 7) rfl
  have d8 := r10.cell (k := 8) rfl
  have q0 := r13.cell (k := 0) rfl
  have q1 := r13.cell (k := 1) rfl
  have q2 := r13.cell (k := 2) rfl
  have z0 := r14.cell (k := 0) rfl
  go_wp2
  clear d0 d1 d2 d3 d4 d5 d6 d7 d8 q0 q1 q2 z0
  generalize w4.alloc _ = W5 at *
  generalize w1.heap.size = BP at *
  generalize w3.heap.size = BG at *
  generalize w4.heap.size = BS at *
  have d0 : W5.drew.cell? ⟨BP, 0, none⟩ = _ := r10.cell (k := 0) rfl
  have d1 : W5.drew.cell? ⟨BP, 1, none⟩ = _ := r10.cell (k := 1) rfl
  have d2 : W5.drew.cell? ⟨BP, 2, none⟩ = _ := r10.cell (k := 2) rfl
  have d3 : W5.drew.cell? ⟨BP, 3, none⟩ = _ := r10.cell (k := 3) rfl
  have d4 : W5.drew.cell? ⟨BP, 4, none⟩ = _ := r10.cell (k := 4) rfl
  have d5 : W5.drew.cell? ⟨BP, 5, none⟩ = _ := r10.cell (k := 5) rfl
  have d6 : W5.drew.cell? ⟨BP, 6, none⟩ = _ := r10.cell (k := 6) rfl
  have d7 : W5.drew.cell? ⟨BP, 7, none⟩ = _ := r10.cell (k := 7) rfl
  have d8 : W5.drew.cell? ⟨BP, 8, none⟩ = _ := r10.cell (k := 8) rfl
  have q0 : W5.drew.cell? ⟨BG, 0, none⟩ = _ := r13.cell (k := 0) rfl
  have q1 : W5.drew.cell? ⟨BG, 1, none⟩ = _ := r13.cell (k := 1) rfl
  have q2 : W5.drew.cell? ⟨BG, 2, none⟩ = _ := r13.cell (k := 2) rfl
  have z0 : W5.drew.cell? ⟨BS, 0, none⟩ = _ := r14.cell (k := 0) rfl
  have hbD : ∀ w', G.Sides [] W5.drew w' → Below w.heap.size w w' := fun w' h => hb.drew.trans (h.below.mono hb.size)
  refine G.pool_list (W := W5) [] [.val (.agg #[.string cx, .string info, .func (.func F0) #[] #[], .func (.func F1) #[] #[], .func (.func F2) #[] #[], .func (.func F3) #[] #[], .func (.func F4) #[] #[], .func (.func F5) #[] #[], .func (.func F6) #[] #[]]),
      .val (.string input),
      .val (.agg #[.int .u64 (px p), .int .u64 (py p), .bool (pb p)]),
      .val (.pointer (some ⟨BP, 2, none⟩)),
      .val (.pointer (some ⟨BP, 4, none⟩)),
      .val (.func (.func F2) #[] #[]),
      .val (.agg #[.int .u64 s]),
      .val (.agg #[.int .u64 g]),
      .val (.int .u64 g),
      .val (.agg #[.int .u64 (px u), .int .u64 (py u), .bool (pb u)]),
      .val (.string R),
      .val (.string R),
      .val (.nilIface)] [[10], [2], [13], [10], [61], [62], [14], [63, 64], [65], [60, 66], [58, 59, 67], [68], []] (fun f => [(some 58, .agg #[.string cx, .string info, .func (.func F0) #[] #[], .func (.func F1) #[] #[], .func (.func F2) #[] #[], .func (.func F3) #[] #[], .func (.func F4) #[] #[], .func (.func F5) #[] #[], .func (.func F6) #[] #[]]), (some 59, .string input), (some 60, .agg #[.int .u64 (px p), .int .u64 (py p), .bool (pb p)]), (some 61, .pointer (some ⟨BP, 2, none⟩)), (some 62, .pointer (some ⟨BP, 4, none⟩)), (some 63, .func (.func F2) #[] #[]), (some 64, .agg #[.int .u64 s]), (some 65, .agg #[.int .u64 g]), (some 66, .int .u64 g), (some 67, .agg #[.int .u64 (px u), .int .u64 (py u), .bool (pb u)]), (some 68, .string R), (some 8, .string R), (some 9, .nilIface)]) (by kernel_rfl) (by kernel_rfl) (by kernel_rfl) (by kernel_rfl) (fun _ => by kernel_rfl) (G.last_of [] (fun F R hm => by simp at hm) (fun ob ob' k hm => by simp at hm) (fun b ob ob' hm => by simp at hm)) (fun b ob ob' hm => by simp at hm) ?_ ?_
  · intro ix hix
    match ix, hix with
    | 0, _ => exact G.ob_val [(10, .pointer (some ⟨BP, 0, none⟩))] rfl rfl (fun _ => by kernel_rfl) (fun A w ⟨e0, _⟩ hB => ld_pro e0 (hB.cell d0 (by simp)) (hB.cell d1 (by simp)) (hB.cell d2 (by simp)) (hB.cell d3 (by simp)) (hB.cell d4 (by simp)) (hB.cell d5 (by simp)) (hB.cell d6 (by simp)) (hB.cell d7 (by simp)) (hB.cell d8 (by simp)))
    | 1, _ => exact G.ob_val [(2, .string input)] rfl rfl (fun _ => by kernel_rfl) (fun A w ⟨e0, _⟩ hB => doV_move e0)
    | 2, _ => exact G.ob_val [(13, .pointer (some ⟨BG, 0, none⟩))] rfl rfl (fun _ => by kernel_rfl) (fun A w ⟨e0, _⟩ hB => ld_cp e0 (hB.cell q0 (by simp)) (hB.cell q1 (by simp)) (hB.cell q2 (by simp)))
    | 3, _ => exact G.ob_val [(10, .pointer (some ⟨BP, 0, none⟩))] rfl rfl (fun _ => by kernel_rfl) (fun A w ⟨e0, _⟩ hB => fa_pro1 e0)
    | 4, _ => exact G.ob_val [(61, .pointer (some ⟨BP, 2, none⟩))] rfl rfl (fun _ => by kernel_rfl) (fun A w ⟨e0, _⟩ hB => fa_rul2 e0)
    | 5, _ => exact G.ob_val [(62, .pointer (some ⟨BP, 4, none⟩))] rfl rfl (fun _ => by kernel_rfl) (fun A w ⟨e0, _⟩ hB => ld_fn2 e0 (hB.cell d4 (by simp)))
    | 6, _ => exact G.ob_val [(14, .pointer (some ⟨BS, 0, none⟩))] rfl rfl (fun _ => by kernel_rfl) (fun A w ⟨e0, _⟩ hB => ld_nN e0 (hB.cell z0 (by simp)))
    | 7, _ => exact G.ob_val [(63, .func (.func F2) #[] #[]), (64, .agg #[.int .u64 s])] rfl rfl (fun _ => by kernel_rfl) (fun A w ⟨e0, e1, _⟩ hB => cv1 E2 e0 e1 (FA w))
    | 8, _ => exact G.ob_val [(65, .agg #[.int .u64 g])] rfl rfl (fun _ => by kernel_rfl) (fun A w ⟨e0, _⟩ hB => fl_nN1 e0)
    | 9, _ => exact G.ob_val [(60, .agg #[.int .u64 (px p), .int .u64 (py p), .bool (pb p)]), (66, .int .u64 g)] rfl rfl (fun _ => by kernel_rfl) (fun A w ⟨e0, e1, _⟩ hB => cl2 cf_impl_curvePoint_times e0 e1 (TM w))
    | 10, _ => exact G.ob_val [(58, .agg #[.string cx, .string info, .func (.func F0) #[] #[], .func (.func F1) #[] #[], .func (.func F2) #[] #[], .func (.func F3) #[] #[], .func (.func F4) #[] #[], .func (.func F5) #[] #[], .func (.func F6) #[] #[]]), (59, .string input), (67, .agg #[.int .u64 (px u), .int .u64 (py u), .bool (pb u)])] rfl rfl (fun _ => by kernel_rfl) (fun A w ⟨e0, e1, e2, _⟩ hB => cl3 cf_impl_protocol_output e0 e1 e2 (OU w (hbD w hB)))
    | 11, _ => exact G.ob_val [(68, .string R)] rfl rfl (fun _ => by kernel_rfl) (fun A w ⟨e0, _⟩ hB => doV_assign e0)
    | 12, _ => exact G.ob_val [] rfl rfl (fun _ => by kernel_rfl) (fun A w _ hB => doV_assign rfl)
    | ix + 13, h => exact absurd h (by simp)
  intro f W6 hS _ _ _ _
  have hb6 := hbD W6 hS
  clear hS d0 d1 d2 d3 d4 d5 d6 d7 d8 q0 q1 q2 z0 hbD
  simp only [puts, List.foldl, Act.put, List.setIfInBounds_toArray, List.set_cons_zero, List.set_cons_succ]
  go_wp2
  go_ret2
  exact ⟨rfl, hb6⟩

end
end Go.Proofs.YtjmhmajfkdglnaaGreatDoor

/-
  Points of the curve as triples, in the model.
-/
namespace Go.Proofs.YtjmhmajfkdglnaaGreatDoor
open Go.RowKit M
set_option linter.unusedVariables false

theorem tiS_tri (k : Nat) (t : Tri) (w : World) (hk : k < 18446744073709551616) : Calls Tryz.prog 37 #[.int .u64 (k : Int), .agg #[.int .u64 (t.1 : Int), .int .u64 (t.2.1 : Int), .bool t.2.2]] w fun e w' => e = .returned (.agg #[.int .u64 (px (nt k (asT t))), .int .u64 (py (nt k (asT t))), .bool (pb (nt k (asT t)))]) ∧ Below w.heap.size w w' := by
  have := timS_any k t.1 t.2.1 t.2.2 w hk
  rwa [ptW_eq] at this
theorem pt_nat {p : Pt} (hp : on p) : ∃ t : Tri, asT t = p ∧ px p = (t.1 : Int) ∧ py p = (t.2.1 : Int) ∧ pb p = t.2.2 ∧ onT t = true := by
  rcases p with _ | ⟨X, Y⟩
  · refine ⟨(0, 0, true), ?_, rfl, rfl, rfl, ?_⟩
    · unfold asT asPt toPt; rw [if_pos rfl]; rfl
    · unfold onT toPt; rw [if_pos rfl]; rfl
  · have h := toPt_self hp
    refine ⟨(X.val, Y.val, false), asPt_some h, rfl, rfl, rfl, ?_⟩
    unfold onT; rw [h]; rfl
theorem puS_pt {p : Pt} (hp : on p) (w : World) : Calls Tryz.prog 75 #[.agg #[.int .u64 (px p), .int .u64 (py p), .bool (pb p)]] w fun e w' => e = .returned (.string (ptB p)) ∧ Below w.heap.size w w' := by
  obtain ⟨t, h1, h2, h3, h4, -⟩ := pt_nat hp
  rw [h2, h3, h4, ← h1]
  exact putS_any t.1 t.2.1 t.2.2 w
theorem tiS_pt {p : Pt} (hp : on p) (k : Nat) (hk : k < 18446744073709551616) (w : World) : Calls Tryz.prog 37 #[.int .u64 (k : Int), .agg #[.int .u64 (px p), .int .u64 (py p), .bool (pb p)]] w fun e w' => e = .returned (.agg #[.int .u64 (px (nt k p)), .int .u64 (py (nt k p)), .bool (pb (nt k p))]) ∧ Below w.heap.size w w' := by
  obtain ⟨t, h1, h2, h3, h4, -⟩ := pt_nat hp
  rw [h2, h3, h4]
  have := tiS_tri k t w hk
  rwa [h1] at this
set_option maxRecDepth 100000 in
theorem modS_yes (mode : Int) (w : World) (h1 : 0 ≤ mode) (h2 : mode ≤ 2) :
    Calls Tryz.prog 69 #[.int .i64 mode] w fun e w' => e = .returned (.bool true) ∧ w = w' := by
  go_enter Tryz.func69, Tryz.ntmps69
  go_wp2
  go_ret
  exact ⟨rfl, rfl⟩
set_option maxRecDepth 100000 in
theorem modS_no (mode : Int) (w : World) (h : ¬ (0 ≤ mode ∧ mode ≤ 2)) :
    Calls Tryz.prog 69 #[.int .i64 mode] w fun e w' => e = .returned (.bool false) ∧ w = w' := by
  by_cases h1 : 0 ≤ mode
  · have h2 : ¬ mode ≤ 2 := fun h' => h ⟨h1, h'⟩
    clear h
    go_enter Tryz.func69, Tryz.ntmps69
    go_wp2
    go_ret
    exact ⟨rfl, rfl⟩
  · clear h
    go_enter Tryz.func69, Tryz.ntmps69
    go_wp2
    go_ret
    exact ⟨rfl, rfl⟩
theorem onS_tri (t : Tri) (w : World) : Calls Tryz.prog 76 #[.agg #[.int .u64 (t.1 : Int), .int .u64 (t.2.1 : Int), .bool t.2.2]] w fun e w' => e = .returned (.bool (onT t)) ∧ Below w.heap.size w w' := onS_any t.1 t.2.1 t.2.2 w

end Go.Proofs.YtjmhmajfkdglnaaGreatDoor
