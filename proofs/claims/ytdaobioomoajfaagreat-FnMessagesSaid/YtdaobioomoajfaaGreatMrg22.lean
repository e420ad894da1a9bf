import Derived.Test.YtdaobioomoajfaaGreatMrg19
import Derived.Test.YtdaobioomoajfaaGreatMrg17
import Derived.Test.YtdaobioomoajfaaGreatMrg21
import Derived.Test.YtdaobioomoajfaaGreatMrg20
set_option linter.unusedVariables false
set_option maxRecDepth 100000
set_option maxHeartbeats 16000000
namespace Go.Proofs.YtdaobioomoajfaaGreat
open Go.RowKit
theorem wr_u (m : Msg) (t : ByteArray) (b : Nat) (w : World) (hb : Bk w 49 b (wrL m t).toArray) (hs : m.user.size ≤ 2097152) (hz : t.size + (sizB m.user).size ≤ 9223372036854775807) :
    Calls Tryz.prog 78 #[.pointer (some ⟨b, 0, none⟩)] w fun e w' => e = .returned (.tuple #[]) ∧ w.grownBy w' (some b) ∧ Bk w' 49 b (wrL m (t ++ sizB m.user)).toArray := by
  have H := fun w => wrtU m.user w hs
  have c12 : w.drew.cell? ⟨b, 0 + 12, none⟩ = _ := hb.cell (k := 12) rfl
  have d0 : w.drew.cell? ⟨b, 0 + 1, none⟩ = _ := hb.cell (k := 1) rfl
  go_enter Tryz.func78, Tryz.ntmps78
  refine G.pool_prT (W := w) [] 13 [.val (.pointer (some ⟨b, 0, none⟩)),
      .val (.pointer (some ⟨b, 0, none⟩)),
      .val (.pointer (some ⟨b, 0 + 12, none⟩)),
      .val (.string t),
      .val (.pointer (some ⟨b, 0, none⟩)),
      .val (.pointer (some ⟨b, 0, none⟩)),
      .val (.pointer (some ⟨b, 0, none⟩)),
      .val (.pointer (some ⟨b, 0 + 1, none⟩)),
      .val (.string m.user),
      .val (.string (sizB m.user)),
      .val (.string (t ++ sizB m.user)),
      .val (.pointer (some ⟨b, 0, none⟩)),
      .val (.pointer (some ⟨b, 0 + 12, none⟩))] [[0], [2], [3], [4], [0], [6], [7], [8], [9], [10], [5, 11], [2], [13], [14, 12]] (fun f => [(some 2, .pointer (some ⟨b, 0, none⟩)), (some 3, .pointer (some ⟨b, 0, none⟩)), (some 4, .pointer (some ⟨b, 0 + 12, none⟩)), (some 5, .string t), (some 6, .pointer (some ⟨b, 0, none⟩)), (some 7, .pointer (some ⟨b, 0, none⟩)), (some 8, .pointer (some ⟨b, 0, none⟩)), (some 9, .pointer (some ⟨b, 0 + 1, none⟩)), (some 10, .string m.user), (some 11, .string (sizB m.user)), (some 12, .string (t ++ sizB m.user)), (some 13, .pointer (some ⟨b, 0, none⟩)), (some 14, .pointer (some ⟨b, 0 + 12, none⟩))]) (by kernel_rfl) (by kernel_rfl) (by kernel_rfl) (by kernel_rfl) (by decide) (by kernel_rfl) (fun _ => by kernel_rfl) (G.last_of [] (fun F R hm => by simp at hm) (fun ob ob' k hm => by simp at hm) (fun b ob ob' hm => by simp at hm)) (fun b ob ob' hm => by simp at hm) ?_ ?_
  · intro ix hix
    match ix, hix with
    | 0, _ => exact G.ob_val [(0, .pointer (some ⟨b, 0, none⟩))] rfl rfl (fun _ => by kernel_rfl) (fun A w ⟨e0, _⟩ hB => L.move e0)
    | 1, _ => exact G.ob_val [(2, .pointer (some ⟨b, 0, none⟩))] rfl rfl (fun _ => by kernel_rfl) (fun A w ⟨e0, _⟩ hB => L.nck e0)
    | 2, _ => exact G.ob_val [(3, .pointer (some ⟨b, 0, none⟩))] rfl rfl (fun _ => by kernel_rfl) (fun A w ⟨e0, _⟩ hB => L.fa_w1 e0)
    | 3, _ => exact G.ob_val [(4, .pointer (some ⟨b, 0 + 12, none⟩))] rfl rfl (fun _ => by kernel_rfl) (fun A w ⟨e0, _⟩ hB => L.ldS e0 (hB.cell c12 (by simp)))
    | 4, _ => exact G.ob_val [(0, .pointer (some ⟨b, 0, none⟩))] rfl rfl (fun _ => by kernel_rfl) (fun A w ⟨e0, _⟩ hB => L.move e0)
    | 5, _ => exact G.ob_val [(6, .pointer (some ⟨b, 0, none⟩))] rfl rfl (fun _ => by kernel_rfl) (fun A w ⟨e0, _⟩ hB => L.nck e0)
    | 6, _ => exact G.ob_val [(7, .pointer (some ⟨b, 0, none⟩))] rfl rfl (fun _ => by kernel_rfl) (fun A w ⟨e0, _⟩ hB => L.fa_w0 e0)
    | 7, _ => exact G.ob_val [(8, .pointer (some ⟨b, 0, none⟩))] rfl rfl (fun _ => by kernel_rfl) (fun A w ⟨e0, _⟩ hB => L.fa_m1 e0)
    | 8, _ => exact G.ob_val [(9, .pointer (some ⟨b, 0 + 1, none⟩))] rfl rfl (fun _ => by kernel_rfl) (fun A w ⟨e0, _⟩ hB => L.ldS e0 (hB.cell d0 (by simp)))
    | 9, _ => exact G.ob_val [(10, .string m.user)] rfl rfl (fun _ => by kernel_rfl) (fun A w ⟨e0, _⟩ hB => L.cl1 cfW e0 (H w))
    | 10, _ => exact G.ob_val [(5, .string t), (11, .string (sizB m.user))] rfl rfl (fun _ => by kernel_rfl) (fun A w ⟨e0, e1, _⟩ hB => L.cat e0 e1 hz)
    | 11, _ => exact G.ob_val [(2, .pointer (some ⟨b, 0, none⟩))] rfl rfl (fun _ => by kernel_rfl) (fun A w ⟨e0, _⟩ hB => L.nck e0)
    | 12, _ => exact G.ob_val [(13, .pointer (some ⟨b, 0, none⟩))] rfl rfl (fun _ => by kernel_rfl) (fun A w ⟨e0, _⟩ hB => L.fa_w1 e0)
    | ix + 13, h => exact absurd h (by omega)
  intro f W1 hS _ _ _ fuel hfuel
  have b1 : Below w.heap.size w W1 := (Below.refl _ w).drew.trans hS.below
  have hb1 := hb.keep b1
  clear hS c12 d0
  simp only [puts, List.foldl, Act.put, List.setIfInBounds_toArray, List.set_cons_zero, List.set_cons_succ]
  refine last_do1 13 hfuel (by kernel_rfl) (by kernel_rfl) rfl rfl ?_
  refine fun Q K hK => L.puS rfl rfl hb1 (show 12 < 13 by decide) Q K (fun v w' hT => hK v w' ?_)
  have hb2 : Bk w' 49 b (wrL m (t ++ sizB m.user)).toArray := hT.self
  have hg : W1.grownBy w' (some b) := ⟨hT.os, hT.tape, hT.output, by rw [hT.size]; exact Nat.le_refl _, fun k _ hk => hT.other k (fun e => hk (by rw [e]))⟩
  go_end0
  exact ⟨rfl, grownT (grownB b1) hg, hb2⟩
theorem wr_e (m : Msg) (t : ByteArray) (b : Nat) (w : World) (hb : Bk w 49 b (wrL m t).toArray) (hz : t.size + (ptM m.el).size ≤ 9223372036854775807) :
    Calls Tryz.prog 74 #[.pointer (some ⟨b, 0, none⟩)] w fun e w' => e = .returned (.tuple #[]) ∧ w.grownBy w' (some b) ∧ Bk w' 49 b (wrL m (t ++ ptM m.el)).toArray := by
  have H := fun w => putI_pt m.el.1 m.el.2.1 m.el.2.2 w
  change ∀ w, Calls Tryz.prog 79 _ w fun e w' => e = .returned (.string (ptM m.el)) ∧ Below w.heap.size w w' at H
  have c12 : w.drew.cell? ⟨b, 0 + 12, none⟩ = _ := hb.cell (k := 12) rfl
  have d0 : w.drew.cell? ⟨b, 0 + 2, none⟩ = _ := hb.cell (k := 2) rfl
  have d1 : w.drew.cell? ⟨b, 0 + 2 + 1, none⟩ = _ := hb.cell (k := 3) rfl
  have d2 : w.drew.cell? ⟨b, 0 + 2 + 2, none⟩ = _ := hb.cell (k := 4) rfl
  go_enter Tryz.func74, Tryz.ntmps74
  refine G.pool_prT (W := w) [] 13 [.val (.pointer (some ⟨b, 0, none⟩)),
      .val (.pointer (some ⟨b, 0, none⟩)),
      .val (.pointer (some ⟨b, 0 + 12, none⟩)),
      .val (.string t),
      .val (.pointer (some ⟨b, 0, none⟩)),
      .val (.pointer (some ⟨b, 0, none⟩)),
      .val (.pointer (some ⟨b, 0, none⟩)),
      .val (.pointer (some ⟨b, 0 + 2, none⟩)),
      .val (.agg #[.int .u64 (m.el.1 : Int), .int .u64 (m.el.2.1 : Int), .bool m.el.2.2]),
      .val (.string (ptM m.el)),
      .val (.string (t ++ ptM m.el)),
      .val (.pointer (some ⟨b, 0, none⟩)),
      .val (.pointer (some ⟨b, 0 + 12, none⟩))] [[0], [2], [3], [4], [0], [6], [7], [8], [9], [10], [5, 11], [2], [13], [14, 12]] (fun f => [(some 2, .pointer (some ⟨b, 0, none⟩)), (some 3, .pointer (some ⟨b, 0, none⟩)), (some 4, .pointer (some ⟨b, 0 + 12, none⟩)), (some 5, .string t), (some 6, .pointer (some ⟨b, 0, none⟩)), (some 7, .pointer (some ⟨b, 0, none⟩)), (some 8, .pointer (some ⟨b, 0, none⟩)), (some 9, .pointer (some ⟨b, 0 + 2, none⟩)), (some 10, .agg #[.int .u64 (m.el.1 : Int), .int .u64 (m.el.2.1 : Int), .bool m.el.2.2]), (some 11, .string (ptM m.el)), (some 12, .string (t ++ ptM m.el)), (some 13, .pointer (some ⟨b, 0, none⟩)), (some 14, .pointer (some ⟨b, 0 + 12, none⟩))]) (by kernel_rfl) (by kernel_rfl) (by kernel_rfl) (by kernel_rfl) (by decide) (by kernel_rfl) (fun _ => by kernel_rfl) (G.last_of [] (fun F R hm => by simp at hm) (fun ob ob' k hm => by simp at hm) (fun b ob ob' hm => by simp at hm)) (fun b ob ob' hm => by simp at hm) ?_ ?_
  · intro ix hix
    match ix, hix with
    | 0, _ => exact G.ob_val [(0, .pointer (some ⟨b, 0, none⟩))] rfl rfl (fun _ => by kernel_rfl) (fun A w ⟨e0, _⟩ hB => L.move e0)
    | 1, _ => exact G.ob_val [(2, .pointer (some ⟨b, 0, none⟩))] rfl rfl (fun _ => by kernel_rfl) (fun A w ⟨e0, _⟩ hB => L.nck e0)
    | 2, _ => exact G.ob_val [(3, .pointer (some ⟨b, 0, none⟩))] rfl rfl (fun _ => by kernel_rfl) (fun A w ⟨e0, _⟩ hB => L.fa_w1 e0)
    | 3, _ => exact G.ob_val [(4, .pointer (some ⟨b, 0 + 12, none⟩))] rfl rfl (fun _ => by kernel_rfl) (fun A w ⟨e0, _⟩ hB => L.ldS e0 (hB.cell c12 (by simp)))
    | 4, _ => exact G.ob_val [(0, .pointer (some ⟨b, 0, none⟩))] rfl rfl (fun _ => by kernel_rfl) (fun A w ⟨e0, _⟩ hB => L.move e0)
    | 5, _ => exact G.ob_val [(6, .pointer (some ⟨b, 0, none⟩))] rfl rfl (fun _ => by kernel_rfl) (fun A w ⟨e0, _⟩ hB => L.nck e0)
    | 6, _ => exact G.ob_val [(7, .pointer (some ⟨b, 0, none⟩))] rfl rfl (fun _ => by kernel_rfl) (fun A w ⟨e0, _⟩ hB => L.fa_w0 e0)
    | 7, _ => exact G.ob_val [(8, .pointer (some ⟨b, 0, none⟩))] rfl rfl (fun _ => by kernel_rfl) (fun A w ⟨e0, _⟩ hB => L.fa_m2 e0)
    | 8, _ => exact G.ob_val [(9, .pointer (some ⟨b, 0 + 2, none⟩))] rfl rfl (fun _ => by kernel_rfl) (fun A w ⟨e0, _⟩ hB => L.ldP e0 (hB.cell d0 (by simp)) (hB.cell d1 (by simp)) (hB.cell d2 (by simp)))
    | 9, _ => exact G.ob_val [(10, .agg #[.int .u64 (m.el.1 : Int), .int .u64 (m.el.2.1 : Int), .bool m.el.2.2])] rfl rfl (fun _ => by kernel_rfl) (fun A w ⟨e0, _⟩ hB => L.cl1 cfP e0 (H w))
    | 10, _ => exact G.ob_val [(5, .string t), (11, .string (ptM m.el))] rfl rfl (fun _ => by kernel_rfl) (fun A w ⟨e0, e1, _⟩ hB => L.cat e0 e1 hz)
    | 11, _ => exact G.ob_val [(2, .pointer (some ⟨b, 0, none⟩))] rfl rfl (fun _ => by kernel_rfl) (fun A w ⟨e0, _⟩ hB => L.nck e0)
    | 12, _ => exact G.ob_val [(13, .pointer (some ⟨b, 0, none⟩))] rfl rfl (fun _ => by kernel_rfl) (fun A w ⟨e0, _⟩ hB => L.fa_w1 e0)
    | ix + 13, h => exact absurd h (by omega)
  intro f W1 hS _ _ _ fuel hfuel
  have b1 : Below w.heap.size w W1 := (Below.refl _ w).drew.trans hS.below
  have hb1 := hb.keep b1
  clear hS c12 d0 d1 d2
  simp only [puts, List.foldl, Act.put, List.setIfInBounds_toArray, List.set_cons_zero, List.set_cons_succ]
  refine last_do1 13 hfuel (by kernel_rfl) (by kernel_rfl) rfl rfl ?_
  refine fun Q K hK => L.puS rfl rfl hb1 (show 12 < 13 by decide) Q K (fun v w' hT => hK v w' ?_)
  have hb2 : Bk w' 49 b (wrL m (t ++ ptM m.el)).toArray := hT.self
  have hg : W1.grownBy w' (some b) := ⟨hT.os, hT.tape, hT.output, by rw [hT.size]; exact Nat.le_refl _, fun k _ hk => hT.other k (fun e => hk (by rw [e]))⟩
  go_end0
  exact ⟨rfl, grownT (grownB b1) hg, hb2⟩
theorem wr_o (m : Msg) (t : ByteArray) (b : Nat) (w : World) (hb : Bk w 49 b (wrL m t).toArray) (hz : t.size + (ptM m.ot).size ≤ 9223372036854775807) :
    Calls Tryz.prog 77 #[.pointer (some ⟨b, 0, none⟩)] w fun e w' => e = .returned (.tuple #[]) ∧ w.grownBy w' (some b) ∧ Bk w' 49 b (wrL m (t ++ ptM m.ot)).toArray := by
  have H := fun w => putI_pt m.ot.1 m.ot.2.1 m.ot.2.2 w
  change ∀ w, Calls Tryz.prog 79 _ w fun e w' => e = .returned (.string (ptM m.ot)) ∧ Below w.heap.size w w' at H
  have c12 : w.drew.cell? ⟨b, 0 + 12, none⟩ = _ := hb.cell (k := 12) rfl
  have d0 : w.drew.cell? ⟨b, 0 + 5, none⟩ = _ := hb.cell (k := 5) rfl
  have d1 : w.drew.cell? ⟨b, 0 + 5 + 1, none⟩ = _ := hb.cell (k := 6) rfl
  have d2 : w.drew.cell? ⟨b, 0 + 5 + 2, none⟩ = _ := hb.cell (k := 7) rfl
  go_enter Tryz.func77, Tryz.ntmps77
  refine G.pool_prT (W := w) [] 13 [.val (.pointer (some ⟨b, 0, none⟩)),
      .val (.pointer (some ⟨b, 0, none⟩)),
      .val (.pointer (some ⟨b, 0 + 12, none⟩)),
      .val (.string t),
      .val (.pointer (some ⟨b, 0, none⟩)),
      .val (.pointer (some ⟨b, 0, none⟩)),
      .val (.pointer (some ⟨b, 0, none⟩)),
      .val (.pointer (some ⟨b, 0 + 5, none⟩)),
      .val (.agg #[.int .u64 (m.ot.1 : Int), .int .u64 (m.ot.2.1 : Int), .bool m.ot.2.2]),
      .val (.string (ptM m.ot)),
      .val (.string (t ++ ptM m.ot)),
      .val (.pointer (some ⟨b, 0, none⟩)),
      .val (.pointer (some ⟨b, 0 + 12, none⟩))] [[0], [2], [3], [4], [0], [6], [7], [8], [9], [10], [5, 11], [2], [13], [14, 12]] (fun f => [(some 2, .pointer (some ⟨b, 0, none⟩)), (some 3, .pointer (some ⟨b, 0, none⟩)), (some 4, .pointer (some ⟨b, 0 + 12, none⟩)), (some 5, .string t), (some 6, .pointer (some ⟨b, 0, none⟩)), (some 7, .pointer (some ⟨b, 0, none⟩)), (some 8, .pointer (some ⟨b, 0, none⟩)), (some 9, .pointer (some ⟨b, 0 + 5, none⟩)), (some 10, .agg #[.int .u64 (m.ot.1 : Int), .int .u64 (m.ot.2.1 : Int), .bool m.ot.2.2]), (some 11, .string (ptM m.ot)), (some 12, .string (t ++ ptM m.ot)), (some 13, .pointer (some ⟨b, 0, none⟩)), (some 14, .pointer (some ⟨b, 0 + 12, none⟩))]) (by kernel_rfl) (by kernel_rfl) (by kernel_rfl) (by kernel_rfl) (by decide) (by kernel_rfl) (fun _ => by kernel_rfl) (G.last_of [] (fun F R hm => by simp at hm) (fun ob ob' k hm => by simp at hm) (fun b ob ob' hm => by simp at hm)) (fun b ob ob' hm => by simp at hm) ?_ ?_
  · intro ix hix
    match ix, hix with
    | 0, _ => exact G.ob_val [(0, .pointer (some ⟨b, 0, none⟩))] rfl rfl (fun _ => by kernel_rfl) (fun A w ⟨e0, _⟩ hB => L.move e0)
    | 1, _ => exact G.ob_val [(2, .pointer (some ⟨b, 0, none⟩))] rfl rfl (fun _ => by kernel_rfl) (fun A w ⟨e0, _⟩ hB => L.nck e0)
    | 2, _ => exact G.ob_val [(3, .pointer (some ⟨b, 0, none⟩))] rfl rfl (fun _ => by kernel_rfl) (fun A w ⟨e0, _⟩ hB => L.fa_w1 e0)
    | 3, _ => exact G.ob_val [(4, .pointer (some ⟨b, 0 + 12, none⟩))] rfl rfl (fun _ => by kernel_rfl) (fun A w ⟨e0, _⟩ hB => L.ldS e0 (hB.cell c12 (by simp)))
    | 4, _ => exact G.ob_val [(0, .pointer (some ⟨b, 0, none⟩))] rfl rfl (fun _ => by kernel_rfl) (fun A w ⟨e0, _⟩ hB => L.move e0)
    | 5, _ => exact G.ob_val [(6, .pointer (some ⟨b, 0, none⟩))] rfl rfl (fun _ => by kernel_rfl) (fun A w ⟨e0, _⟩ hB => L.nck e0)
    | 6, _ => exact G.ob_val [(7, .pointer (some ⟨b, 0, none⟩))] rfl rfl (fun _ => by kernel_rfl) (fun A w ⟨e0, _⟩ hB => L.fa_w0 e0)
    | 7, _ => exact G.ob_val [(8, .pointer (some ⟨b, 0, none⟩))] rfl rfl (fun _ => by kernel_rfl) (fun A w ⟨e0, _⟩ hB => L.fa_m3 e0)
    | 8, _ => exact G.ob_val [(9, .pointer (some ⟨b, 0 + 5, none⟩))] rfl rfl (fun _ => by kernel_rfl) (fun A w ⟨e0, _⟩ hB => L.ldP e0 (hB.cell d0 (by simp)) (hB.cell d1 (by simp)) (hB.cell d2 (by simp)))
    | 9, _ => exact G.ob_val [(10, .agg #[.int .u64 (m.ot.1 : Int), .int .u64 (m.ot.2.1 : Int), .bool m.ot.2.2])] rfl rfl (fun _ => by kernel_rfl) (fun A w ⟨e0, _⟩ hB => L.cl1 cfP e0 (H w))
    | 10, _ => exact G.ob_val [(5, .string t), (11, .string (ptM m.ot))] rfl rfl (fun _ => by kernel_rfl) (fun A w ⟨e0, e1, _⟩ hB => L.cat e0 e1 hz)
    | 11, _ => exact G.ob_val [(2, .pointer (some ⟨b, 0, none⟩))] rfl rfl (fun _ => by kernel_rfl) (fun A w ⟨e0, _⟩ hB => L.nck e0)
    | 12, _ => exact G.ob_val [(13, .pointer (some ⟨b, 0, none⟩))] rfl rfl (fun _ => by kernel_rfl) (fun A w ⟨e0, _⟩ hB => L.fa_w1 e0)
    | ix + 13, h => exact absurd h (by omega)
  intro f W1 hS _ _ _ fuel hfuel
  have b1 : Below w.heap.size w W1 := (Below.refl _ w).drew.trans hS.below
  have hb1 := hb.keep b1
  clear hS c12 d0 d1 d2
  simp only [puts, List.foldl, Act.put, List.setIfInBounds_toArray, List.set_cons_zero, List.set_cons_succ]
  refine last_do1 13 hfuel (by kernel_rfl) (by kernel_rfl) rfl rfl ?_
  refine fun Q K hK => L.puS rfl rfl hb1 (show 12 < 13 by decide) Q K (fun v w' hT => hK v w' ?_)
  have hb2 : Bk w' 49 b (wrL m (t ++ ptM m.ot)).toArray := hT.self
  have hg : W1.grownBy w' (some b) := ⟨hT.os, hT.tape, hT.output, by rw [hT.size]; exact Nat.le_refl _, fun k _ hk => hT.other k (fun e => hk (by rw [e]))⟩
  go_end0
  exact ⟨rfl, grownT (grownB b1) hg, hb2⟩
theorem wr_n (m : Msg) (t : ByteArray) (b : Nat) (w : World) (hb : Bk w 49 b (wrL m t).toArray) (hz : t.size + (m.nonce).size ≤ 9223372036854775807) :
    Calls Tryz.prog 76 #[.pointer (some ⟨b, 0, none⟩)] w fun e w' => e = .returned (.tuple #[]) ∧ w.grownBy w' (some b) ∧ Bk w' 49 b (wrL m (t ++ m.nonce)).toArray := by
  have c12 : w.drew.cell? ⟨b, 0 + 12, none⟩ = _ := hb.cell (k := 12) rfl
  have d0 : w.drew.cell? ⟨b, 0 + 8, none⟩ = _ := hb.cell (k := 8) rfl
  go_enter Tryz.func76, Tryz.ntmps76
  refine G.pool_prT (W := w) [] 12 [.val (.pointer (some ⟨b, 0, none⟩)),
      .val (.pointer (some ⟨b, 0, none⟩)),
      .val (.pointer (some ⟨b, 0 + 12, none⟩)),
      .val (.string t),
      .val (.pointer (some ⟨b, 0, none⟩)),
      .val (.pointer (some ⟨b, 0, none⟩)),
      .val (.pointer (some ⟨b, 0, none⟩)),
      .val (.pointer (some ⟨b, 0 + 8, none⟩)),
      .val (.string m.nonce),
      .val (.string (t ++ m.nonce)),
      .val (.pointer (some ⟨b, 0, none⟩)),
      .val (.pointer (some ⟨b, 0 + 12, none⟩))] [[0], [2], [3], [4], [0], [6], [7], [8], [9], [5, 10], [2], [12], [13, 11]] (fun f => [(some 2, .pointer (some ⟨b, 0, none⟩)), (some 3, .pointer (some ⟨b, 0, none⟩)), (some 4, .pointer (some ⟨b, 0 + 12, none⟩)), (some 5, .string t), (some 6, .pointer (some ⟨b, 0, none⟩)), (some 7, .pointer (some ⟨b, 0, none⟩)), (some 8, .pointer (some ⟨b, 0, none⟩)), (some 9, .pointer (some ⟨b, 0 + 8, none⟩)), (some 10, .string m.nonce), (some 11, .string (t ++ m.nonce)), (some 12, .pointer (some ⟨b, 0, none⟩)), (some 13, .pointer (some ⟨b, 0 + 12, none⟩))]) (by kernel_rfl) (by kernel_rfl) (by kernel_rfl) (by kernel_rfl) (by decide) (by kernel_rfl) (fun _ => by kernel_rfl) (G.last_of [] (fun F R hm => by simp at hm) (fun ob ob' k hm => by simp at hm) (fun b ob ob' hm => by simp at hm)) (fun b ob ob' hm => by simp at hm) ?_ ?_
  · intro ix hix
    match ix, hix with
    | 0, _ => exact G.ob_val [(0, .pointer (some ⟨b, 0, none⟩))] rfl rfl (fun _ => by kernel_rfl) (fun A w ⟨e0, _⟩ hB => L.move e0)
    | 1, _ => exact G.ob_val [(2, .pointer (some ⟨b, 0, none⟩))] rfl rfl (fun _ => by kernel_rfl) (fun A w ⟨e0, _⟩ hB => L.nck e0)
    | 2, _ => exact G.ob_val [(3, .pointer (some ⟨b, 0, none⟩))] rfl rfl (fun _ => by kernel_rfl) (fun A w ⟨e0, _⟩ hB => L.fa_w1 e0)
    | 3, _ => exact G.ob_val [(4, .pointer (some ⟨b, 0 + 12, none⟩))] rfl rfl (fun _ => by kernel_rfl) (fun A w ⟨e0, _⟩ hB => L.ldS e0 (hB.cell c12 (by simp)))
    | 4, _ => exact G.ob_val [(0, .pointer (some ⟨b, 0, none⟩))] rfl rfl (fun _ => by kernel_rfl) (fun A w ⟨e0, _⟩ hB => L.move e0)
    | 5, _ => exact G.ob_val [(6, .pointer (some ⟨b, 0, none⟩))] rfl rfl (fun _ => by kernel_rfl) (fun A w ⟨e0, _⟩ hB => L.nck e0)
    | 6, _ => exact G.ob_val [(7, .pointer (some ⟨b, 0, none⟩))] rfl rfl (fun _ => by kernel_rfl) (fun A w ⟨e0, _⟩ hB => L.fa_w0 e0)
    | 7, _ => exact G.ob_val [(8, .pointer (some ⟨b, 0, none⟩))] rfl rfl (fun _ => by kernel_rfl) (fun A w ⟨e0, _⟩ hB => L.fa_m4 e0)
    | 8, _ => exact G.ob_val [(9, .pointer (some ⟨b, 0 + 8, none⟩))] rfl rfl (fun _ => by kernel_rfl) (fun A w ⟨e0, _⟩ hB => L.ldS e0 (hB.cell d0 (by simp)))
    | 9, _ => exact G.ob_val [(5, .string t), (10, .string (m.nonce))] rfl rfl (fun _ => by kernel_rfl) (fun A w ⟨e0, e1, _⟩ hB => L.cat e0 e1 hz)
    | 10, _ => exact G.ob_val [(2, .pointer (some ⟨b, 0, none⟩))] rfl rfl (fun _ => by kernel_rfl) (fun A w ⟨e0, _⟩ hB => L.nck e0)
    | 11, _ => exact G.ob_val [(12, .pointer (some ⟨b, 0, none⟩))] rfl rfl (fun _ => by kernel_rfl) (fun A w ⟨e0, _⟩ hB => L.fa_w1 e0)
    | ix + 12, h => exact absurd h (by omega)
  intro f W1 hS _ _ _ fuel hfuel
  have b1 : Below w.heap.size w W1 := (Below.refl _ w).drew.trans hS.below
  have hb1 := hb.keep b1
  clear hS c12 d0
  simp only [puts, List.foldl, Act.put, List.setIfInBounds_toArray, List.set_cons_zero, List.set_cons_succ]
  refine last_do1 12 hfuel (by kernel_rfl) (by kernel_rfl) rfl rfl ?_
  refine fun Q K hK => L.puS rfl rfl hb1 (show 12 < 13 by decide) Q K (fun v w' hT => hK v w' ?_)
  have hb2 : Bk w' 49 b (wrL m (t ++ m.nonce)).toArray := hT.self
  have hg : W1.grownBy w' (some b) := ⟨hT.os, hT.tape, hT.output, by rw [hT.size]; exact Nat.le_refl _, fun k _ hk => hT.other k (fun e => hk (by rw [e]))⟩
  go_end0
  exact ⟨rfl, grownT (grownB b1) hg, hb2⟩
theorem wr_b (m : Msg) (t : ByteArray) (b : Nat) (w : World) (hb : Bk w 49 b (wrL m t).toArray) (hz : t.size + (m.box).size ≤ 9223372036854775807) :
    Calls Tryz.prog 72 #[.pointer (some ⟨b, 0, none⟩)] w fun e w' => e = .returned (.tuple #[]) ∧ w.grownBy w' (some b) ∧ Bk w' 49 b (wrL m (t ++ m.box)).toArray := by
  have c12 : w.drew.cell? ⟨b, 0 + 12, none⟩ = _ := hb.cell (k := 12) rfl
  have d0 : w.drew.cell? ⟨b, 0 + 9, none⟩ = _ := hb.cell (k := 9) rfl
  go_enter Tryz.func72, Tryz.ntmps72
  refine G.pool_prT (W := w) [] 12 [.val (.pointer (some ⟨b, 0, none⟩)),
      .val (.pointer (some ⟨b, 0, none⟩)),
      .val (.pointer (some ⟨b, 0 + 12, none⟩)),
      .val (.string t),
      .val (.pointer (some ⟨b, 0, none⟩)),
      .val (.pointer (some ⟨b, 0, none⟩)),
      .val (.pointer (some ⟨b, 0, none⟩)),
      .val (.pointer (some ⟨b, 0 + 9, none⟩)),
      .val (.string m.box),
      .val (.string (t ++ m.box)),
      .val (.pointer (some ⟨b, 0, none⟩)),
      .val (.pointer (some ⟨b, 0 + 12, none⟩))] [[0], [2], [3], [4], [0], [6], [7], [8], [9], [5, 10], [2], [12], [13, 11]] (fun f => [(some 2, .pointer (some ⟨b, 0, none⟩)), (some 3, .pointer (some ⟨b, 0, none⟩)), (some 4, .pointer (some ⟨b, 0 + 12, none⟩)), (some 5, .string t), (some 6, .pointer (some ⟨b, 0, none⟩)), (some 7, .pointer (some ⟨b, 0, none⟩)), (some 8, .pointer (some ⟨b, 0, none⟩)), (some 9, .pointer (some ⟨b, 0 + 9, none⟩)), (some 10, .string m.box), (some 11, .string (t ++ m.box)), (some 12, .pointer (some ⟨b, 0, none⟩)), (some 13, .pointer (some ⟨b, 0 + 12, none⟩))]) (by kernel_rfl) (by kernel_rfl) (by kernel_rfl) (by kernel_rfl) (by decide) (by kernel_rfl) (fun _ => by kernel_rfl) (G.last_of [] (fun F R hm => by simp at hm) (fun ob ob' k hm => by simp at hm) (fun b ob ob' hm => by simp at hm)) (fun b ob ob' hm => by simp at hm) ?_ ?_
  · intro ix hix
    match ix, hix with
    | 0, _ => exact G.ob_val [(0, .pointer (some ⟨b, 0, none⟩))] rfl rfl (fun _ => by kernel_rfl) (fun A w ⟨e0, _⟩ hB => L.move e0)
    | 1, _ => exact G.ob_val [(2, .pointer (some ⟨b, 0, none⟩))] rfl rfl (fun _ => by kernel_rfl) (fun A w ⟨e0, _⟩ hB => L.nck e0)
    | 2, _ => exact G.ob_val [(3, .pointer (some ⟨b, 0, none⟩))] rfl rfl (fun _ => by kernel_rfl) (fun A w ⟨e0, _⟩ hB => L.fa_w1 e0)
    | 3, _ => exact G.ob_val [(4, .pointer (some ⟨b, 0 + 12, none⟩))] rfl rfl (fun _ => by kernel_rfl) (fun A w ⟨e0, _⟩ hB => L.ldS e0 (hB.cell c12 (by simp)))
    | 4, _ => exact G.ob_val [(0, .pointer (some ⟨b, 0, none⟩))] rfl rfl (fun _ => by kernel_rfl) (fun A w ⟨e0, _⟩ hB => L.move e0)
    | 5, _ => exact G.ob_val [(6, .pointer (some ⟨b, 0, none⟩))] rfl rfl (fun _ => by kernel_rfl) (fun A w ⟨e0, _⟩ hB => L.nck e0)
    | 6, _ => exact G.ob_val [(7, .pointer (some ⟨b, 0, none⟩))] rfl rfl (fun _ => by kernel_rfl) (fun A w ⟨e0, _⟩ hB => L.fa_w0 e0)
    | 7, _ => exact G.ob_val [(8, .pointer (some ⟨b, 0, none⟩))] rfl rfl (fun _ => by kernel_rfl) (fun A w ⟨e0, _⟩ hB => L.fa_m5 e0)
    | 8, _ => exact G.ob_val [(9, .pointer (some ⟨b, 0 + 9, none⟩))] rfl rfl (fun _ => by kernel_rfl) (fun A w ⟨e0, _⟩ hB => L.ldS e0 (hB.cell d0 (by simp)))
    | 9, _ => exact G.ob_val [(5, .string t), (10, .string (m.box))] rfl rfl (fun _ => by kernel_rfl) (fun A w ⟨e0, e1, _⟩ hB => L.cat e0 e1 hz)
    | 10, _ => exact G.ob_val [(2, .pointer (some ⟨b, 0, none⟩))] rfl rfl (fun _ => by kernel_rfl) (fun A w ⟨e0, _⟩ hB => L.nck e0)
    | 11, _ => exact G.ob_val [(12, .pointer (some ⟨b, 0, none⟩))] rfl rfl (fun _ => by kernel_rfl) (fun A w ⟨e0, _⟩ hB => L.fa_w1 e0)
    | ix + 12, h => exact absurd h (by omega)
  intro f W1 hS _ _ _ fuel hfuel
  have b1 : Below w.heap.size w W1 := (Below.refl _ w).drew.trans hS.below
  have hb1 := hb.keep b1
  clear hS c12 d0
  simp only [puts, List.foldl, Act.put, List.setIfInBounds_toArray, List.set_cons_zero, List.set_cons_succ]
  refine last_do1 12 hfuel (by kernel_rfl) (by kernel_rfl) rfl rfl ?_
  refine fun Q K hK => L.puS rfl rfl hb1 (show 12 < 13 by decide) Q K (fun v w' hT => hK v w' ?_)
  have hb2 : Bk w' 49 b (wrL m (t ++ m.box)).toArray := hT.self
  have hg : W1.grownBy w' (some b) := ⟨hT.os, hT.tape, hT.output, by rw [hT.size]; exact Nat.le_refl _, fun k _ hk => hT.other k (fun e => hk (by rw [e]))⟩
  go_end0
  exact ⟨rfl, grownT (grownB b1) hg, hb2⟩
theorem wr_m (m : Msg) (t : ByteArray) (b : Nat) (w : World) (hb : Bk w 49 b (wrL m t).toArray) (hz : t.size + (m.mac).size ≤ 9223372036854775807) :
    Calls Tryz.prog 75 #[.pointer (some ⟨b, 0, none⟩)] w fun e w' => e = .returned (.tuple #[]) ∧ w.grownBy w' (some b) ∧ Bk w' 49 b (wrL m (t ++ m.mac)).toArray := by
  have c12 : w.drew.cell? ⟨b, 0 + 12, none⟩ = _ := hb.cell (k := 12) rfl
  have d0 : w.drew.cell? ⟨b, 0 + 10, none⟩ = _ := hb.cell (k := 10) rfl
  go_enter Tryz.func75, Tryz.ntmps75
  refine G.pool_prT (W := w) [] 12 [.val (.pointer (some ⟨b, 0, none⟩)),
      .val (.pointer (some ⟨b, 0, none⟩)),
      .val (.pointer (some ⟨b, 0 + 12, none⟩)),
      .val (.string t),
      .val (.pointer (some ⟨b, 0, none⟩)),
      .val (.pointer (some ⟨b, 0, none⟩)),
      .val (.pointer (some ⟨b, 0, none⟩)),
      .val (.pointer (some ⟨b, 0 + 10, none⟩)),
      .val (.string m.mac),
      .val (.string (t ++ m.mac)),
      .val (.pointer (some ⟨b, 0, none⟩)),
      .val (.pointer (some ⟨b, 0 + 12, none⟩))] [[0], [2], [3], [4], [0], [6], [7], [8], [9], [5, 10], [2], [12], [13, 11]] (fun f => [(some 2, .pointer (some ⟨b, 0, none⟩)), (some 3, .pointer (some ⟨b, 0, none⟩)), (some 4, .pointer (some ⟨b, 0 + 12, none⟩)), (some 5, .string t), (some 6, .pointer (some ⟨b, 0, none⟩)), (some 7, .pointer (some ⟨b, 0, none⟩)), (some 8, .pointer (some ⟨b, 0, none⟩)), (some 9, .pointer (some ⟨b, 0 + 10, none⟩)), (some 10, .string m.mac), (some 11, .string (t ++ m.mac)), (some 12, .pointer (some ⟨b, 0, none⟩)), (some 13, .pointer (some ⟨b, 0 + 12, none⟩))]) (by kernel_rfl) (by kernel_rfl) (by kernel_rfl) (by kernel_rfl) (by decide) (by kernel_rfl) (fun _ => by kernel_rfl) (G.last_of [] (fun F R hm => by simp at hm) (fun ob ob' k hm => by simp at hm) (fun b ob ob' hm => by simp at hm)) (fun b ob ob' hm => by simp at hm) ?_ ?_
  · intro ix hix
    match ix, hix with
    | 0, _ => exact G.ob_val [(0, .pointer (some ⟨b, 0, none⟩))] rfl rfl (fun _ => by kernel_rfl) (fun A w ⟨e0, _⟩ hB => L.move e0)
    | 1, _ => exact G.ob_val [(2, .pointer (some ⟨b, 0, none⟩))] rfl rfl (fun _ => by kernel_rfl) (fun A w ⟨e0, _⟩ hB => L.nck e0)
    | 2, _ => exact G.ob_val [(3, .pointer (some ⟨b, 0, none⟩))] rfl rfl (fun _ => by kernel_rfl) (fun A w ⟨e0, _⟩ hB => L.fa_w1 e0)
    | 3, _ => exact G.ob_val [(4, .pointer (some ⟨b, 0 + 12, none⟩))] rfl rfl (fun _ => by kernel_rfl) (fun A w ⟨e0, _⟩ hB => L.ldS e0 (hB.cell c12 (by simp)))
    | 4, _ => exact G.ob_val [(0, .pointer (some ⟨b, 0, none⟩))] rfl rfl (fun _ => by kernel_rfl) (fun A w ⟨e0, _⟩ hB => L.move e0)
    | 5, _ => exact G.ob_val [(6, .pointer (some ⟨b, 0, none⟩))] rfl rfl (fun _ => by kernel_rfl) (fun A w ⟨e0, _⟩ hB => L.nck e0)
    | 6, _ => exact G.ob_val [(7, .pointer (some ⟨b, 0, none⟩))] rfl rfl (fun _ => by kernel_rfl) (fun A w ⟨e0, _⟩ hB => L.fa_w0 e0)
    | 7, _ => exact G.ob_val [(8, .pointer (some ⟨b, 0, none⟩))] rfl rfl (fun _ => by kernel_rfl) (fun A w ⟨e0, _⟩ hB => L.fa_m6 e0)
    | 8, _ => exact G.ob_val [(9, .pointer (some ⟨b, 0 + 10, none⟩))] rfl rfl (fun _ => by kernel_rfl) (fun A w ⟨e0, _⟩ hB => L.ldS e0 (hB.cell d0 (by simp)))
    | 9, _ => exact G.ob_val [(5, .string t), (10, .string (m.mac))] rfl rfl (fun _ => by kernel_rfl) (fun A w ⟨e0, e1, _⟩ hB => L.cat e0 e1 hz)
    | 10, _ => exact G.ob_val [(2, .pointer (some ⟨b, 0, none⟩))] rfl rfl (fun _ => by kernel_rfl) (fun A w ⟨e0, _⟩ hB => L.nck e0)
    | 11, _ => exact G.ob_val [(12, .pointer (some ⟨b, 0, none⟩))] rfl rfl (fun _ => by kernel_rfl) (fun A w ⟨e0, _⟩ hB => L.fa_w1 e0)
    | ix + 12, h => exact absurd h (by omega)
  intro f W1 hS _ _ _ fuel hfuel
  have b1 : Below w.heap.size w W1 := (Below.refl _ w).drew.trans hS.below
  have hb1 := hb.keep b1
  clear hS c12 d0
  simp only [puts, List.foldl, Act.put, List.setIfInBounds_toArray, List.set_cons_zero, List.set_cons_succ]
  refine last_do1 12 hfuel (by kernel_rfl) (by kernel_rfl) rfl rfl ?_
  refine fun Q K hK => L.puS rfl rfl hb1 (show 12 < 13 by decide) Q K (fun v w' hT => hK v w' ?_)
  have hb2 : Bk w' 49 b (wrL m (t ++ m.mac)).toArray := hT.self
  have hg : W1.grownBy w' (some b) := ⟨hT.os, hT.tape, hT.output, by rw [hT.size]; exact Nat.le_refl _, fun k _ hk => hT.other k (fun e => hk (by rw [e]))⟩
  go_end0
  exact ⟨rfl, grownT (grownB b1) hg, hb2⟩
theorem wr_c (m : Msg) (t : ByteArray) (b : Nat) (w : World) (hb : Bk w 49 b (wrL m t).toArray) (hk0 : -9223372036854775808 ≤ m.code) (hk1 : m.code < 9223372036854775808) (hz : t.size + (byB m.code).size ≤ 9223372036854775807) :
    Calls Tryz.prog 73 #[.pointer (some ⟨b, 0, none⟩)] w fun e w' => e = .returned (.tuple #[]) ∧ w.grownBy w' (some b) ∧ Bk w' 49 b (wrL m (t ++ byB m.code)).toArray := by
  obtain ⟨k, hk, H⟩ := beK m.code hk0 hk1
  have c12 : w.drew.cell? ⟨b, 0 + 12, none⟩ = _ := hb.cell (k := 12) rfl
  have d0 : w.drew.cell? ⟨b, 0 + 11, none⟩ = _ := hb.cell (k := 11) rfl
  go_enter Tryz.func73, Tryz.ntmps73
  refine G.pool_prT (W := w) [] 14 [.val (.pointer (some ⟨b, 0, none⟩)),
      .val (.pointer (some ⟨b, 0, none⟩)),
      .val (.pointer (some ⟨b, 0 + 12, none⟩)),
      .val (.string t),
      .val (.pointer (some ⟨b, 0, none⟩)),
      .val (.pointer (some ⟨b, 0, none⟩)),
      .val (.pointer (some ⟨b, 0, none⟩)),
      .val (.pointer (some ⟨b, 0 + 11, none⟩)),
      .val (.int .i64 m.code),
      .val (.int .u64 k),
      .val (.string (byB m.code)),
      .val (.string (t ++ byB m.code)),
      .val (.pointer (some ⟨b, 0, none⟩)),
      .val (.pointer (some ⟨b, 0 + 12, none⟩))] [[0], [2], [3], [4], [0], [6], [7], [8], [9], [10], [11], [5, 12], [2], [14], [15, 13]] (fun f => [(some 2, .pointer (some ⟨b, 0, none⟩)), (some 3, .pointer (some ⟨b, 0, none⟩)), (some 4, .pointer (some ⟨b, 0 + 12, none⟩)), (some 5, .string t), (some 6, .pointer (some ⟨b, 0, none⟩)), (some 7, .pointer (some ⟨b, 0, none⟩)), (some 8, .pointer (some ⟨b, 0, none⟩)), (some 9, .pointer (some ⟨b, 0 + 11, none⟩)), (some 10, .int .i64 m.code), (some 11, .int .u64 k), (some 12, .string (byB m.code)), (some 13, .string (t ++ byB m.code)), (some 14, .pointer (some ⟨b, 0, none⟩)), (some 15, .pointer (some ⟨b, 0 + 12, none⟩))]) (by kernel_rfl) (by kernel_rfl) (by kernel_rfl) (by kernel_rfl) (by decide) (by kernel_rfl) (fun _ => by kernel_rfl) (G.last_of [] (fun F R hm => by simp at hm) (fun ob ob' k hm => by simp at hm) (fun b ob ob' hm => by simp at hm)) (fun b ob ob' hm => by simp at hm) ?_ ?_
  · intro ix hix
    match ix, hix with
    | 0, _ => exact G.ob_val [(0, .pointer (some ⟨b, 0, none⟩))] rfl rfl (fun _ => by kernel_rfl) (fun A w ⟨e0, _⟩ hB => L.move e0)
    | 1, _ => exact G.ob_val [(2, .pointer (some ⟨b, 0, none⟩))] rfl rfl (fun _ => by kernel_rfl) (fun A w ⟨e0, _⟩ hB => L.nck e0)
    | 2, _ => exact G.ob_val [(3, .pointer (some ⟨b, 0, none⟩))] rfl rfl (fun _ => by kernel_rfl) (fun A w ⟨e0, _⟩ hB => L.fa_w1 e0)
    | 3, _ => exact G.ob_val [(4, .pointer (some ⟨b, 0 + 12, none⟩))] rfl rfl (fun _ => by kernel_rfl) (fun A w ⟨e0, _⟩ hB => L.ldS e0 (hB.cell c12 (by simp)))
    | 4, _ => exact G.ob_val [(0, .pointer (some ⟨b, 0, none⟩))] rfl rfl (fun _ => by kernel_rfl) (fun A w ⟨e0, _⟩ hB => L.move e0)
    | 5, _ => exact G.ob_val [(6, .pointer (some ⟨b, 0, none⟩))] rfl rfl (fun _ => by kernel_rfl) (fun A w ⟨e0, _⟩ hB => L.nck e0)
    | 6, _ => exact G.ob_val [(7, .pointer (some ⟨b, 0, none⟩))] rfl rfl (fun _ => by kernel_rfl) (fun A w ⟨e0, _⟩ hB => L.fa_w0 e0)
    | 7, _ => exact G.ob_val [(8, .pointer (some ⟨b, 0, none⟩))] rfl rfl (fun _ => by kernel_rfl) (fun A w ⟨e0, _⟩ hB => L.fa_m7 e0)
    | 8, _ => exact G.ob_val [(9, .pointer (some ⟨b, 0 + 11, none⟩))] rfl rfl (fun _ => by kernel_rfl) (fun A w ⟨e0, _⟩ hB => L.ldI e0 (hB.cell d0 (by simp)))
    | 9, _ => exact G.ob_val [(10, .int .i64 m.code)] rfl rfl (fun _ => by kernel_rfl) (fun A w ⟨e0, _⟩ hB => L.cvU e0 hk)
    | 10, _ => exact G.ob_val [(11, .int .u64 k)] rfl rfl (fun _ => by kernel_rfl) (fun A w ⟨e0, _⟩ hB => L.cl2 cfB e0 rfl (H w))
    | 11, _ => exact G.ob_val [(5, .string t), (12, .string (byB m.code))] rfl rfl (fun _ => by kernel_rfl) (fun A w ⟨e0, e1, _⟩ hB => L.cat e0 e1 hz)
    | 12, _ => exact G.ob_val [(2, .pointer (some ⟨b, 0, none⟩))] rfl rfl (fun _ => by kernel_rfl) (fun A w ⟨e0, _⟩ hB => L.nck e0)
    | 13, _ => exact G.ob_val [(14, .pointer (some ⟨b, 0, none⟩))] rfl rfl (fun _ => by kernel_rfl) (fun A w ⟨e0, _⟩ hB => L.fa_w1 e0)
    | ix + 14, h => exact absurd h (by omega)
  intro f W1 hS _ _ _ fuel hfuel
  have b1 : Below w.heap.size w W1 := (Below.refl _ w).drew.trans hS.below
  have hb1 := hb.keep b1
  clear hS c12 d0
  simp only [puts, List.foldl, Act.put, List.setIfInBounds_toArray, List.set_cons_zero, List.set_cons_succ]
  refine last_do1 14 hfuel (by kernel_rfl) (by kernel_rfl) rfl rfl ?_
  refine fun Q K hK => L.puS rfl rfl hb1 (show 12 < 13 by decide) Q K (fun v w' hT => hK v w' ?_)
  have hb2 : Bk w' 49 b (wrL m (t ++ byB m.code)).toArray := hT.self
  have hg : W1.grownBy w' (some b) := ⟨hT.os, hT.tape, hT.output, by rw [hT.size]; exact Nat.le_refl _, fun k _ hk => hT.other k (fun e => hk (by rw [e]))⟩
  go_end0
  exact ⟨rfl, grownT (grownB b1) hg, hb2⟩
end Go.Proofs.YtdaobioomoajfaaGreat
namespace Go.Proofs.YtdaobioomoajfaaGreat
open Go.RowKit
def Fw : Lt → FuncId
  | .u => 78
  | .e => 74
  | .o => 77
  | .n => 76
  | .b => 72
  | .m => 75
  | .c => 73
theorem mtW (q : Lt) (p : Addr) (w : World) : (method 250 46 (.pointer (some p)) (mthS q)).run Tryz.prog w = .ok (Fw q, .pointer (some p)) w := by
  cases q <;> kernel_rfl
theorem cfW7 (q : Lt) (args : Array Value) (w : World) : (callFunc (Fw q) args).run Tryz.prog w = .ok (.enter (Fw q) args) w := by
  cases q <;> kernel_rfl
theorem wr_any (q : Lt) (m : Msg) (t : ByteArray) (b : Nat) (w : World) (hb : Bk w 49 b (wrL m t).toArray) (hs : m.user.size ≤ 2097152) (hk0 : -9223372036854775808 ≤ m.code) (hk1 : m.code < 9223372036854775808) (hz : t.size + (fld m q).size ≤ 9223372036854775807) :
    Calls Tryz.prog (Fw q) #[.pointer (some ⟨b, 0, none⟩)] w fun e w' => e = .returned (.tuple #[]) ∧ w.grownBy w' (some b) ∧ Bk w' 49 b (wrL m (t ++ fld m q)).toArray := by
  cases q
  · exact wr_u m t b w hb hs hz
  · exact wr_e m t b w hb hz
  · exact wr_o m t b w hb hz
  · exact wr_n m t b w hb hz
  · exact wr_b m t b w hb hz
  · exact wr_m m t b w hb hz
  · exact wr_c m t b w hb hk0 hk1 hz
theorem cat_snoc (m : Msg) (q : Lt) : ∀ l : List Lt, cat m (l ++ [q]) = cat m l ++ fld m q
  | [] => by
    show fld m q ++ (⟨#[]⟩ : ByteArray) = ⟨#[]⟩ ++ fld m q
    rw [app0, app0l]
  | a :: l => by rw [List.cons_append, cat, cat, cat_snoc m q l, ByteArray.append_assoc]
theorem cat_take (m : Msg) : ∀ (l : List Lt) (j : Nat), (cat m (l.take j)).size ≤ (cat m l).size
  | [], j => by rw [List.take_nil]; exact Nat.le_refl _
  | a :: l, 0 => Nat.zero_le _
  | a :: l, j + 1 => by
    rw [List.take_succ_cons, cat, cat, ByteArray.size_append, ByteArray.size_append]
    have := cat_take m l j
    omega
structure Fits (m : Msg) : Prop where
  k0 : -9223372036854775808 ≤ m.kind
  k1 : m.kind < 9223372036854775808
  c0 : -9223372036854775808 ≤ m.code
  c1 : m.code < 9223372036854775808
  us : m.user.size ≤ 2097152
  all : (cat m (flds m.kind)).size ≤ 4611686018427387904
theorem putI_yes (m : Msg) (w : World) (hf : Fits m) (hkn : kindB m.kind = true) :
    Calls Tryz.prog 5 #[.agg (msgL m).toArray] w fun e w' => e = .returned (.string (putM m)) ∧ Below w.heap.size w w' := by
  rw [putM_by]
  have GM := fun w => getI (byB m.kind ++ cat m (flds m.kind)) w (by have := hf.all; rw [ByteArray.size_append]; unfold byB; rw [strOfNums_size]; unfold maxLen; simp only [List.length_cons, List.length_nil]; omega)
  obtain ⟨kn, hkw, HBE⟩ := beK m.kind hf.k0 hf.k1
  obtain ⟨T, hT⟩ : ∃ T, Hid (T = byB m.kind ++ cat m (flds m.kind)) := ⟨_, rfl⟩
  rw [← hT.out] at GM ⊢
  have hr0 := Bk.new w 27 (msgL m).toArray
  have hB := (Below.refl _ w).alloc (Nat.le_refl _) (.cells (msgL m).toArray 27)
  simp only [msgL] at hr0 hB ⊢
  go_enter Tryz.func5, Tryz.ntmps5
  go_wp2
  generalize w.alloc _ = W1 at *
  obtain ⟨r0, hr0e⟩ : ∃ r, r = w.heap.size := ⟨_, rfl⟩
  rw [← hr0e] at hr0 ⊢
  have hrg : w.heap.size ≤ r0 := by omega
  clear hr0e
  have ck : W1.drew.cell? ⟨r0, 0, none⟩ = some (.int .i64 m.kind) := hr0.cell (k := 0) rfl
  have hkn' := hkn
  clear hkn
  have hkn := hkw
  refine G.pool_prT (W := W1) [] 7 [.val (.agg #[.int .i64 m.kind, .string m.user, .int .u64 (m.el.1 : Int), .int .u64 (m.el.2.1 : Int), .bool m.el.2.2, .int .u64 (m.ot.1 : Int), .int .u64 (m.ot.2.1 : Int), .bool m.ot.2.2, .string m.nonce, .string m.box, .string m.mac, .int .i64 m.code]),
      .val (.pointer (some ⟨r0, 0, none⟩)),
      .val (.int .i64 m.kind),
      .val (.int .u64 kn),
      .val (.string (byB m.kind)),
      .val (.agg #[.int .i64 m.kind, .string m.user, .int .u64 (m.el.1 : Int), .int .u64 (m.el.2.1 : Int), .bool m.el.2.2, .int .u64 (m.ot.1 : Int), .int .u64 (m.ot.2.1 : Int), .bool m.ot.2.2, .string m.nonce, .string m.box, .string m.mac, .int .i64 m.code, .string (byB m.kind)]),
      .new (.cells #[.int .i64 m.kind, .string m.user, .int .u64 (m.el.1 : Int), .int .u64 (m.el.2.1 : Int), .bool m.el.2.2, .int .u64 (m.ot.1 : Int), .int .u64 (m.ot.2.1 : Int), .bool m.ot.2.2, .string m.nonce, .string m.box, .string m.mac, .int .i64 m.code, .string (byB m.kind)] 49) (.cells #[.int .i64 m.kind, .string m.user, .int .u64 (m.el.1 : Int), .int .u64 (m.el.2.1 : Int), .bool m.el.2.2, .int .u64 (m.ot.1 : Int), .int .u64 (m.ot.2.1 : Int), .bool m.ot.2.2, .string m.nonce, .string m.box, .string m.mac, .int .i64 m.code, .string (byB m.kind)] 49) 900] [[1], [1], [9], [10], [11], [8, 12], [13], [14]] (fun f => [(some 8, .agg #[.int .i64 m.kind, .string m.user, .int .u64 (m.el.1 : Int), .int .u64 (m.el.2.1 : Int), .bool m.el.2.2, .int .u64 (m.ot.1 : Int), .int .u64 (m.ot.2.1 : Int), .bool m.ot.2.2, .string m.nonce, .string m.box, .string m.mac, .int .i64 m.code]), (some 9, .pointer (some ⟨r0, 0, none⟩)), (some 10, .int .i64 m.kind), (some 11, .int .u64 kn), (some 12, .string (byB m.kind)), (some 13, .agg #[.int .i64 m.kind, .string m.user, .int .u64 (m.el.1 : Int), .int .u64 (m.el.2.1 : Int), .bool m.el.2.2, .int .u64 (m.ot.1 : Int), .int .u64 (m.ot.2.1 : Int), .bool m.ot.2.2, .string m.nonce, .string m.box, .string m.mac, .int .i64 m.code, .string (byB m.kind)]), (some 14, .pointer (some ⟨f 6, 0, none⟩))]) (by kernel_rfl) (by kernel_rfl) (by kernel_rfl) (by kernel_rfl) (by decide) (by kernel_rfl) (fun _ => by kernel_rfl) (G.last_of [.cells #[.int .i64 m.kind, .string m.user, .int .u64 (m.el.1 : Int), .int .u64 (m.el.2.1 : Int), .bool m.el.2.2, .int .u64 (m.ot.1 : Int), .int .u64 (m.ot.2.1 : Int), .bool m.ot.2.2, .string m.nonce, .string m.box, .string m.mac, .int .i64 m.code, .string (byB m.kind)] 49] (fun F R hm => by simp at hm) (fun ob ob' k hm => by simp at hm; simp [hm]) (fun b ob ob' hm => by simp at hm)) (fun b ob ob' hm => by simp at hm) ?_ ?_
  · intro ix hix
    match ix, hix with
    | 0, _ => exact G.ob_val [(1, .pointer (some ⟨r0, 0, none⟩))] rfl rfl (fun _ => by kernel_rfl) (fun A w ⟨e0, _⟩ hB => L.ldM e0 (sideBk hB hr0) rfl)
    | 1, _ => exact G.ob_val [(1, .pointer (some ⟨r0, 0, none⟩))] rfl rfl (fun _ => by kernel_rfl) (fun A w ⟨e0, _⟩ hB => L.fa_m0 e0)
    | 2, _ => exact G.ob_val [(9, .pointer (some ⟨r0, 0, none⟩))] rfl rfl (fun _ => by kernel_rfl) (fun A w ⟨e0, _⟩ hB => L.ldI e0 (hB.cell ck (by simp)))
    | 3, _ => exact G.ob_val [(10, .int .i64 m.kind)] rfl rfl (fun _ => by kernel_rfl) (fun A w ⟨e0, _⟩ hB => L.cvU e0 hkn)
    | 4, _ => exact G.ob_val [(11, .int .u64 kn)] rfl rfl (fun _ => by kernel_rfl) (fun A w ⟨e0, _⟩ hB => L.cl2 cfB e0 rfl (HBE w))
    | 5, _ => exact G.ob_val [(8, .agg #[.int .i64 m.kind, .string m.user, .int .u64 (m.el.1 : Int), .int .u64 (m.el.2.1 : Int), .bool m.el.2.2, .int .u64 (m.ot.1 : Int), .int .u64 (m.ot.2.1 : Int), .bool m.ot.2.2, .string m.nonce, .string m.box, .string m.mac, .int .i64 m.code]), (12, .string (byB m.kind))] rfl rfl (fun _ => by kernel_rfl) (fun A w ⟨e0, e1, _⟩ hB => L.buW e0 e1)
    | 6, _ => exact ob_newi [(13, .agg #[.int .i64 m.kind, .string m.user, .int .u64 (m.el.1 : Int), .int .u64 (m.el.2.1 : Int), .bool m.el.2.2, .int .u64 (m.ot.1 : Int), .int .u64 (m.ot.2.1 : Int), .bool m.ot.2.2, .string m.nonce, .string m.box, .string m.mac, .int .i64 m.code, .string (byB m.kind)])] rfl rfl (fun _ => by kernel_rfl) (fun A w ⟨e0, _⟩ => L.bxW e0)
    | ix + 7, h => exact absurd h (by omega)
  intro f W2 hS hnew y1 y2 fuel hfuel
  obtain ⟨hb0, hbn⟩ := hnew 6 _ _ _ rfl (by decide)
  have hbw : Bk W2 49 (f 6) (wrL m (byB m.kind)).toArray := hbn
  have b2 : Below W1.heap.size W1 W2 := (Below.refl _ W1).drew.trans hS.below
  replace hr0 := hr0.keep b2
  have hlo : W1.heap.size ≤ f 6 := hb0
  have hlo2 : w.heap.size ≤ f 6 := Nat.le_trans hB.size hlo
  replace hB := hB.trans (b2.mono hB.size)
  clear hS hnew y1 y2 ck b2 hbn hb0 HBE hkw hkn hlo
  simp only [puts, List.foldl, Act.put, List.setIfInBounds_toArray, List.set_cons_zero, List.set_cons_succ]
  refine last_do1 7 hfuel (by kernel_rfl) (by kernel_rfl) rfl rfl ?_
  refine fun Q K hK => doV_as (u := .pointer (some ⟨f 6, 0, none⟩)) rfl Q K (fun v w' e => hK v w' ?_)
  obtain ⟨rfl, rfl⟩ := e
  have hkn := hkn'
  clear hkn'
  obtain ⟨b, hbe⟩ : ∃ b, b = f 6 := ⟨_, rfl⟩
  rw [← hbe] at hbw hlo2
  go_wp2
  simp only [← hbe]
  clear hbe
  have ck : w'.drew.cell? ⟨r0, 0, none⟩ = some (.int .i64 m.kind) := hr0.cell (k := 0) rfl
  obtain ⟨v, hv⟩ : ∃ v, v = (.iface 46 (.pointer (some ⟨b, 0, none⟩)) : Value) := ⟨_, rfl⟩
  obtain ⟨n, hn⟩ : ∃ n, (flds m.kind).length = n := ⟨_, rfl⟩
  obtain ⟨cs, hcs⟩ : ∃ cs, ((flds m.kind).map (fnV v)).toArray = cs := ⟨_, rfl⟩
  have HS : ∀ w'', G.Sides [] w'.drew w'' → Calls Tryz.prog 18 #[.iface 46 (.pointer (some ⟨b, 0, none⟩))] w'' fun e w3 => ∃ g, e = .returned (.map (some g)) ∧ RS v 0 g w3 ∧ Below w''.heap.size w'' w3 := fun w'' _ =>
    (stpI _ _ w'').mono fun e w3 ⟨g, h1, h2, h3⟩ => ⟨g, h1, by rw [hv]; exact h3.mono (Nat.zero_le _), h2⟩
  refine G.pool_list (W := w') [] [.val (.pointer (some ⟨b, 0, none⟩)),
      .val (.iface 46 (.pointer (some ⟨b, 0, none⟩))),
      .got (fun g => .map (some g)) (RS v 0),
      .val (.pointer (some ⟨r0, 0, none⟩)),
      .val (.int .i64 m.kind),
      .got (fun x => .slice (some ⟨x, 0, none⟩) n n) (RB cs),
      .val (.int .i64 (n : Int)),
      .val (.int .i64 0)] [[3], [15], [16], [1], [18], [17, 19], [20], []] (fun f => [(some 15, .pointer (some ⟨b, 0, none⟩)), (some 16, .iface 46 (.pointer (some ⟨b, 0, none⟩))), (some 17, (fun g => .map (some g)) (f 2)), (some 18, .pointer (some ⟨r0, 0, none⟩)), (some 19, .int .i64 m.kind), (some 20, (fun x => .slice (some ⟨x, 0, none⟩) n n) (f 5)), (some 21, .int .i64 (n : Int)), (some 22, .int .i64 0)]) (by kernel_rfl) (by kernel_rfl) (by kernel_rfl) (by kernel_rfl) (fun _ => by kernel_rfl) (G.last_of [] (fun F R hm => by simp only [List.mem_cons, List.not_mem_nil, or_false, reduceCtorEq, false_or, G.Knd.got.injEq] at hm; rcases hm with ⟨-, rfl⟩ | ⟨-, rfl⟩ <;> first | exact RS_lasts | exact RB_lasts) (fun ob ob' k hm => by simp at hm) (fun b ob ob' hm => by simp at hm)) (fun b ob ob' hm => by simp at hm) ?_ ?_
  · intro ix hix
    match ix, hix with
    | 0, _ => exact G.ob_val [(3, .pointer (some ⟨b, 0, none⟩))] rfl rfl (fun _ => by kernel_rfl) (fun A w ⟨e0, _⟩ hB => L.move e0)
    | 1, _ => exact G.ob_val [(15, .pointer (some ⟨b, 0, none⟩))] rfl rfl (fun _ => by kernel_rfl) (fun A w ⟨e0, _⟩ hB => L.miW e0)
    | 2, _ => exact G.ob_got (fun f => [(16, .iface 46 (.pointer (some ⟨b, 0, none⟩)))]) rfl rfl (fun _ => by kernel_rfl) (fun f A w ⟨e0, _⟩ hB hh => L.cg1 cfS e0 (HS w hB))
    | 3, _ => exact G.ob_val [(1, .pointer (some ⟨r0, 0, none⟩))] rfl rfl (fun _ => by kernel_rfl) (fun A w ⟨e0, _⟩ hB => L.fa_m0 e0)
    | 4, _ => exact G.ob_val [(18, .pointer (some ⟨r0, 0, none⟩))] rfl rfl (fun _ => by kernel_rfl) (fun A w ⟨e0, _⟩ hB => L.ldI e0 (hB.cell ck (by simp)))
    | 5, _ => exact G.ob_got (fun f => [(17, .map (some (f 2))), (19, .int .i64 m.kind)]) rfl rfl (fun _ => by kernel_rfl) (fun f A w ⟨e0, e1, _⟩ hB hh => L.lk1 hkn hn hcs e0 e1 (hh 17 (by decide) 2 rfl (by decide) _ _ rfl))
    | 6, _ => exact G.ob_had (fun f => [(20, .slice (some ⟨f 5, 0, none⟩) n n)]) rfl rfl (fun _ => by kernel_rfl) (fun f A w ⟨e0, _⟩ hB hh => L.lenS e0)
    | 7, _ => exact G.ob_val [] rfl rfl (fun _ => by kernel_rfl) (fun A w _ hB => L.move rfl)
    | ix + 8, h => exact absurd h (by simp)
  intro f2 W3 hS y1 y2 hgot y3
  have hrb := hgot 5 _ _ rfl (by decide)
  have b3 : Below w'.heap.size w' W3 := (Below.refl _ w').drew.trans hS.below
  replace hr0 := hr0.keep b3
  replace hbw := hbw.keep b3
  replace hB := hB.trans (b3.mono hB.size)
  clear hS hgot HS ck b3 y1 y2 y3
  simp only [puts, List.foldl, Act.put, List.setIfInBounds_toArray, List.set_cons_zero, List.set_cons_succ]
  have hL : Hid (∀ j, j < n → ∃ q, (flds m.kind)[j]? = some q ∧ (∀ x, RB cs (f2 5) x → x.cell? ⟨f2 5, j, none⟩ = some (.func (.method (mthS q)) #[.iface 46 (.pointer (some ⟨b, 0, none⟩))] #[]))) := by
    intro j hj
    have hj' : j < (flds m.kind).length := by omega
    refine ⟨(flds m.kind)[j], List.getElem?_eq_getElem hj', fun x hx => ?_⟩
    unfold RB at hx
    rw [cell_of_row _ _ _ _ _ _ hx, ← hcs, List.getElem?_toArray, List.getElem?_map, List.getElem?_eq_getElem hj', hv]
    rfl
  have hne : b ≠ f2 5 := bk_ne hbw (show Bk W3 1 (f2 5) cs from hrb) (by decide)
  have hne0 : r0 ≠ b := bk_ne hr0 hbw (by decide)
  obtain ⟨bb, hbb⟩ : ∃ bb, bb = f2 5 := ⟨_, rfl⟩
  rw [← hbb] at hL hne hrb ⊢
  have hn8 : n ≤ 8 := by
    rw [← hn]
    rcases kind_cases hkn with h | h | h | h | h | h | h | h <;> (rw [h]; decide)
  clear hcs hbb hv hkn hfuel
  go_wp2
  go_loopw [22] (fun iv wr => ∃ j : Nat, j ≤ n ∧ iv = .int .i64 (j : Int) ∧ Bk wr 49 b (wrL m (byB m.kind ++ cat m ((flds m.kind).take j))).toArray ∧ RB cs bb wr ∧ Bk wr 27 r0 #[.int .i64 m.kind, .string m.user, .int .u64 (m.el.1 : Int), .int .u64 (m.el.2.1 : Int), .bool m.el.2.2, .int .u64 (m.ot.1 : Int), .int .u64 (m.ot.2.1 : Int), .bool m.ot.2.2, .string m.nonce, .string m.box, .string m.mac, .int .i64 m.code] ∧ Below w.heap.size w wr) (fun i _ => n - (intOf i).toNat)
  case atStart => exact ⟨0, by omega, rfl, by rw [List.take_zero]; show Bk _ _ _ (wrL m (byB m.kind ++ (⟨#[]⟩ : ByteArray))).toArray; rw [app0]; exact hbw, hrb, hr0, hB⟩
  case round =>
    clear hbw hrb hr0 hB
    obtain ⟨j, hj, rfl, hbj, hrj, hMj, hBj⟩ := hrel
    by_cases hlt : j < n
    · have hli : (j : Int) < (n : Int) := by omega
      obtain ⟨q, hq, hx⟩ := hL.out j hlt
      have hc := hx _ hrj
      have hmt := mtW q
      have hcf := cfW7 q
      have htk : byB m.kind ++ cat m ((flds m.kind).take (j + 1)) = byB m.kind ++ cat m ((flds m.kind).take j) ++ fld m q := by
        rw [List.take_add_one, hq, ByteArray.append_assoc, ← cat_snoc]; rfl
      have hzz := cat_take m (flds m.kind) (j + 1)
      have hza := hf.all
      have hz2 : (byB m.kind ++ cat m ((flds m.kind).take j)).size + (fld m q).size ≤ 9223372036854775807 := by
        have h1 := congrArg ByteArray.size htk
        rw [ByteArray.size_append, ByteArray.size_append] at h1
        have h2 : (byB m.kind).size = 1 := by unfold byB; rw [strOfNums_size]; rfl
        omega
      have R := fun W h => wr_any q m (byB m.kind ++ cat m ((flds m.kind).take j)) b W h hf.us hf.c0 hf.c1 hz2
      rw [← htk] at R
      generalize byB m.kind ++ cat m ((flds m.kind).take j) = tj at *
      clear hx hq hzz hza hz2 htk
      go_wp2_with fail
      refine (R _ hbj).mono ?_
      rintro e w4 ⟨rfl, g4, hb4⟩
      have hr4 : RB cs bb w4 := Bk.keptBy (t := 1) hrj g4 (by simpa using Ne.symm hne)
      have hM4 := hMj.keptBy g4 (by simpa using hne0)
      have hB4 := belowG hBj g4 hlo2 hBj.size
      clear R hmt hcf g4 hrj hMj hBj hbj hc
      go_wp2
      go_round
      case rel => exact ⟨j + 1, by omega, by go_num, hb4, hr4, hM4, hB4⟩
      case measure => simp [intOf]; omega
    · obtain rfl : j = n := by omega
      rw [List.take_of_length_le (by omega), ← hT.out] at hbj
      clear hL hrj
      have c12 : wr.cell? ⟨b, 12, none⟩ = some (.string T) := hbj.cell (k := 12) rfl
      cases hg : getM T with
      | none =>
        rw [hg] at GM
        simp only [Option.getD_none, Option.isSome_none, msgL] at GM
        go_wp2_with fail
        refine (GM _).mono ?_
        rintro e w5 ⟨rfl, b5⟩
        have hB5 := (hBj.trans (b5.mono hBj.size)).alloc (Nat.le_trans hBj.size b5.size) (Obj.cells #[.int .i64 0, .string ⟨#[]⟩, .int .u64 ((0 : Nat) : Int), .int .u64 ((0 : Nat) : Int), .bool false, .int .u64 ((0 : Nat) : Int), .int .u64 ((0 : Nat) : Int), .bool false, .string ⟨#[]⟩, .string ⟨#[]⟩, .string ⟨#[]⟩, .int .i64 0] 27)
        clear GM b5 hBj hMj hbj c12
        go_wp2
        all_goals go_ret
        all_goals exact ⟨rfl, hB5⟩
      | some bk =>
        rw [hg] at GM
        simp only [Option.getD_some, Option.isSome_some, msgL] at GM
        have hq : ∀ w, (Go.binOp .neq 27 (.agg #[.int .i64 bk.kind, .string bk.user, .int .u64 (bk.el.1 : Int), .int .u64 (bk.el.2.1 : Int), .bool bk.el.2.2, .int .u64 (bk.ot.1 : Int), .int .u64 (bk.ot.2.1 : Int), .bool bk.ot.2.2, .string bk.nonce, .string bk.box, .string bk.mac, .int .i64 bk.code]) (.agg #[.int .i64 m.kind, .string m.user, .int .u64 (m.el.1 : Int), .int .u64 (m.el.2.1 : Int), .bool m.el.2.2, .int .u64 (m.ot.1 : Int), .int .u64 (m.ot.2.1 : Int), .bool m.ot.2.2, .string m.nonce, .string m.box, .string m.mac, .int .i64 m.code])).run Tryz.prog w = .ok (.bool (!decide (bk = m))) w := fun w => neqM bk m w
        by_cases hm : bk = m
        · rw [decide_eq_true hm] at hq
          obtain rfl := hm
          go_wp2_with fail
          refine (GM _).mono ?_
          rintro e w5 ⟨rfl, b5⟩
          have hM5 := (hMj.keep b5).alloc (Obj.cells #[.int .i64 bk.kind, .string bk.user, .int .u64 (bk.el.1 : Int), .int .u64 (bk.el.2.1 : Int), .bool bk.el.2.2, .int .u64 (bk.ot.1 : Int), .int .u64 (bk.ot.2.1 : Int), .bool bk.ot.2.2, .string bk.nonce, .string bk.box, .string bk.mac, .int .i64 bk.code] 27)
          have hK5 := Bk.new w5 27 #[.int .i64 bk.kind, .string bk.user, .int .u64 (bk.el.1 : Int), .int .u64 (bk.el.2.1 : Int), .bool bk.el.2.2, .int .u64 (bk.ot.1 : Int), .int .u64 (bk.ot.2.1 : Int), .bool bk.ot.2.2, .string bk.nonce, .string bk.box, .string bk.mac, .int .i64 bk.code]
          have hB5 := (hBj.trans (b5.mono hBj.size)).alloc (Nat.le_trans hBj.size b5.size) (Obj.cells #[.int .i64 bk.kind, .string bk.user, .int .u64 (bk.el.1 : Int), .int .u64 (bk.el.2.1 : Int), .bool bk.el.2.2, .int .u64 (bk.ot.1 : Int), .int .u64 (bk.ot.2.1 : Int), .bool bk.ot.2.2, .string bk.nonce, .string bk.box, .string bk.mac, .int .i64 bk.code] 27)
          have c12' : (w5.alloc (Obj.cells #[.int .i64 bk.kind, .string bk.user, .int .u64 (bk.el.1 : Int), .int .u64 (bk.el.2.1 : Int), .bool bk.el.2.2, .int .u64 (bk.ot.1 : Int), .int .u64 (bk.ot.2.1 : Int), .bool bk.ot.2.2, .string bk.nonce, .string bk.box, .string bk.mac, .int .i64 bk.code] 27)).cell? ⟨b, 12, none⟩ = some (.string T) := ((hbj.keep b5).alloc _).cell (k := 12) rfl
          clear GM b5 hBj hMj hbj c12
          have m0 : (w5.alloc (Obj.cells #[.int .i64 bk.kind, .string bk.user, .int .u64 (bk.el.1 : Int), .int .u64 (bk.el.2.1 : Int), .bool bk.el.2.2, .int .u64 (bk.ot.1 : Int), .int .u64 (bk.ot.2.1 : Int), .bool bk.ot.2.2, .string bk.nonce, .string bk.box, .string bk.mac, .int .i64 bk.code] 27)).cell? ⟨r0, 0, none⟩ = some (.int .i64 bk.kind) := hM5.cell (k := 0) rfl
          have m1 : (w5.alloc (Obj.cells #[.int .i64 bk.kind, .string bk.user, .int .u64 (bk.el.1 : Int), .int .u64 (bk.el.2.1 : Int), .bool bk.el.2.2, .int .u64 (bk.ot.1 : Int), .int .u64 (bk.ot.2.1 : Int), .bool bk.ot.2.2, .string bk.nonce, .string bk.box, .string bk.mac, .int .i64 bk.code] 27)).cell? ⟨r0, 1, none⟩ = some (.string bk.user) := hM5.cell (k := 1) rfl
          have m2 : (w5.alloc (Obj.cells #[.int .i64 bk.kind, .string bk.user, .int .u64 (bk.el.1 : Int), .int .u64 (bk.el.2.1 : Int), .bool bk.el.2.2, .int .u64 (bk.ot.1 : Int), .int .u64 (bk.ot.2.1 : Int), .bool bk.ot.2.2, .string bk.nonce, .string bk.box, .string bk.mac, .int .i64 bk.code] 27)).cell? ⟨r0, 2, none⟩ = some (.int .u64 (bk.el.1 : Int)) := hM5.cell (k := 2) rfl
          have m3 : (w5.alloc (Obj.cells #[.int .i64 bk.kind, .string bk.user, .int .u64 (bk.el.1 : Int), .int .u64 (bk.el.2.1 : Int), .bool bk.el.2.2, .int .u64 (bk.ot.1 : Int), .int .u64 (bk.ot.2.1 : Int), .bool bk.ot.2.2, .string bk.nonce, .string bk.box, .string bk.mac, .int .i64 bk.code] 27)).cell? ⟨r0, 3, none⟩ = some (.int .u64 (bk.el.2.1 : Int)) := hM5.cell (k := 3) rfl
          have m4 : (w5.alloc (Obj.cells #[.int .i64 bk.kind, .string bk.user, .int .u64 (bk.el.1 : Int), .int .u64 (bk.el.2.1 : Int), .bool bk.el.2.2, .int .u64 (bk.ot.1 : Int), .int .u64 (bk.ot.2.1 : Int), .bool bk.ot.2.2, .string bk.nonce, .string bk.box, .string bk.mac, .int .i64 bk.code] 27)).cell? ⟨r0, 4, none⟩ = some (.bool bk.el.2.2) := hM5.cell (k := 4) rfl
          have m5 : (w5.alloc (Obj.cells #[.int .i64 bk.kind, .string bk.user, .int .u64 (bk.el.1 : Int), .int .u64 (bk.el.2.1 : Int), .bool bk.el.2.2, .int .u64 (bk.ot.1 : Int), .int .u64 (bk.ot.2.1 : Int), .bool bk.ot.2.2, .string bk.nonce, .string bk.box, .string bk.mac, .int .i64 bk.code] 27)).cell? ⟨r0, 5, none⟩ = some (.int .u64 (bk.ot.1 : Int)) := hM5.cell (k := 5) rfl
          have m6 : (w5.alloc (Obj.cells #[.int .i64 bk.kind, .string bk.user, .int .u64 (bk.el.1 : Int), .int .u64 (bk.el.2.1 : Int), .bool bk.el.2.2, .int .u64 (bk.ot.1 : Int), .int .u64 (bk.ot.2.1 : Int), .bool bk.ot.2.2, .string bk.nonce, .string bk.box, .string bk.mac, .int .i64 bk.code] 27)).cell? ⟨r0, 6, none⟩ = some (.int .u64 (bk.ot.2.1 : Int)) := hM5.cell (k := 6) rfl
          have m7 : (w5.alloc (Obj.cells #[.int .i64 bk.kind, .string bk.user, .int .u64 (bk.el.1 : Int), .int .u64 (bk.el.2.1 : Int), .bool bk.el.2.2, .int .u64 (bk.ot.1 : Int), .int .u64 (bk.ot.2.1 : Int), .bool bk.ot.2.2, .string bk.nonce, .string bk.box, .string bk.mac, .int .i64 bk.code] 27)).cell? ⟨r0, 7, none⟩ = some (.bool bk.ot.2.2) := hM5.cell (k := 7) rfl
          have m8 : (w5.alloc (Obj.cells #[.int .i64 bk.kind, .string bk.user, .int .u64 (bk.el.1 : Int), .int .u64 (bk.el.2.1 : Int), .bool bk.el.2.2, .int .u64 (bk.ot.1 : Int), .int .u64 (bk.ot.2.1 : Int), .bool bk.ot.2.2, .string bk.nonce, .string bk.box, .string bk.mac, .int .i64 bk.code] 27)).cell? ⟨r0, 8, none⟩ = some (.string bk.nonce) := hM5.cell (k := 8) rfl
          have m9 : (w5.alloc (Obj.cells #[.int .i64 bk.kind, .string bk.user, .int .u64 (bk.el.1 : Int), .int .u64 (bk.el.2.1 : Int), .bool bk.el.2.2, .int .u64 (bk.ot.1 : Int), .int .u64 (bk.ot.2.1 : Int), .bool bk.ot.2.2, .string bk.nonce, .string bk.box, .string bk.mac, .int .i64 bk.code] 27)).cell? ⟨r0, 9, none⟩ = some (.string bk.box) := hM5.cell (k := 9) rfl
          have m10 : (w5.alloc (Obj.cells #[.int .i64 bk.kind, .string bk.user, .int .u64 (bk.el.1 : Int), .int .u64 (bk.el.2.1 : Int), .bool bk.el.2.2, .int .u64 (bk.ot.1 : Int), .int .u64 (bk.ot.2.1 : Int), .bool bk.ot.2.2, .string bk.nonce, .string bk.box, .string bk.mac, .int .i64 bk.code] 27)).cell? ⟨r0, 10, none⟩ = some (.string bk.mac) := hM5.cell (k := 10) rfl
          have m11 : (w5.alloc (Obj.cells #[.int .i64 bk.kind, .string bk.user, .int .u64 (bk.el.1 : Int), .int .u64 (bk.el.2.1 : Int), .bool bk.el.2.2, .int .u64 (bk.ot.1 : Int), .int .u64 (bk.ot.2.1 : Int), .bool bk.ot.2.2, .string bk.nonce, .string bk.box, .string bk.mac, .int .i64 bk.code] 27)).cell? ⟨r0, 11, none⟩ = some (.int .i64 bk.code) := hM5.cell (k := 11) rfl
          have n0 : (w5.alloc (Obj.cells #[.int .i64 bk.kind, .string bk.user, .int .u64 (bk.el.1 : Int), .int .u64 (bk.el.2.1 : Int), .bool bk.el.2.2, .int .u64 (bk.ot.1 : Int), .int .u64 (bk.ot.2.1 : Int), .bool bk.ot.2.2, .string bk.nonce, .string bk.box, .string bk.mac, .int .i64 bk.code] 27)).cell? ⟨w5.heap.size, 0, none⟩ = some (.int .i64 bk.kind) := hK5.cell (k := 0) rfl
          have n1 : (w5.alloc (Obj.cells #[.int .i64 bk.kind, .string bk.user, .int .u64 (bk.el.1 : Int), .int .u64 (bk.el.2.1 : Int), .bool bk.el.2.2, .int .u64 (bk.ot.1 : Int), .int .u64 (bk.ot.2.1 : Int), .bool bk.ot.2.2, .string bk.nonce, .string bk.box, .string bk.mac, .int .i64 bk.code] 27)).cell? ⟨w5.heap.size, 1, none⟩ = some (.string bk.user) := hK5.cell (k := 1) rfl
          have n2 : (w5.alloc (Obj.cells #[.int .i64 bk.kind, .string bk.user, .int .u64 (bk.el.1 : Int), .int .u64 (bk.el.2.1 : Int), .bool bk.el.2.2, .int .u64 (bk.ot.1 : Int), .int .u64 (bk.ot.2.1 : Int), .bool bk.ot.2.2, .string bk.nonce, .string bk.box, .string bk.mac, .int .i64 bk.code] 27)).cell? ⟨w5.heap.size, 2, none⟩ = some (.int .u64 (bk.el.1 : Int)) := hK5.cell (k := 2) rfl
          have n3 : (w5.alloc (Obj.cells #[.int .i64 bk.kind, .string bk.user, .int .u64 (bk.el.1 : Int), .int .u64 (bk.el.2.1 : Int), .bool bk.el.2.2, .int .u64 (bk.ot.1 : Int), .int .u64 (bk.ot.2.1 : Int), .bool bk.ot.2.2, .string bk.nonce, .string bk.box, .string bk.mac, .int .i64 bk.code] 27)).cell? ⟨w5.heap.size, 3, none⟩ = some (.int .u64 (bk.el.2.1 : Int)) := hK5.cell (k := 3) rfl
          have n4 : (w5.alloc (Obj.cells #[.int .i64 bk.kind, .string bk.user, .int .u64 (bk.el.1 : Int), .int .u64 (bk.el.2.1 : Int), .bool bk.el.2.2, .int .u64 (bk.ot.1 : Int), .int .u64 (bk.ot.2.1 : Int), .bool bk.ot.2.2, .string bk.nonce, .string bk.box, .string bk.mac, .int .i64 bk.code] 27)).cell? ⟨w5.heap.size, 4, none⟩ = some (.bool bk.el.2.2) := hK5.cell (k := 4) rfl
          have n5 : (w5.alloc (Obj.cells #[.int .i64 bk.kind, .string bk.user, .int .u64 (bk.el.1 : Int), .int .u64 (bk.el.2.1 : Int), .bool bk.el.2.2, .int .u64 (bk.ot.1 : Int), .int .u64 (bk.ot.2.1 : Int), .bool bk.ot.2.2, .string bk.nonce, .string bk.box, .string bk.mac, .int .i64 bk.code] 27)).cell? ⟨w5.heap.size, 5, none⟩ = some (.int .u64 (bk.ot.1 : Int)) := hK5.cell (k := 5) rfl
          have n6 : (w5.alloc (Obj.cells #[.int .i64 bk.kind, .string bk.user, .int .u64 (bk.el.1 : Int), .int .u64 (bk.el.2.1 : Int), .bool bk.el.2.2, .int .u64 (bk.ot.1 : Int), .int .u64 (bk.ot.2.1 : Int), .bool bk.ot.2.2, .string bk.nonce, .string bk.box, .string bk.mac, .int .i64 bk.code] 27)).cell? ⟨w5.heap.size, 6, none⟩ = some (.int .u64 (bk.ot.2.1 : Int)) := hK5.cell (k := 6) rfl
          have n7 : (w5.alloc (Obj.cells #[.int .i64 bk.kind, .string bk.user, .int .u64 (bk.el.1 : Int), .int .u64 (bk.el.2.1 : Int), .bool bk.el.2.2, .int .u64 (bk.ot.1 : Int), .int .u64 (bk.ot.2.1 : Int), .bool bk.ot.2.2, .string bk.nonce, .string bk.box, .string bk.mac, .int .i64 bk.code] 27)).cell? ⟨w5.heap.size, 7, none⟩ = some (.bool bk.ot.2.2) := hK5.cell (k := 7) rfl
          have n8 : (w5.alloc (Obj.cells #[.int .i64 bk.kind, .string bk.user, .int .u64 (bk.el.1 : Int), .int .u64 (bk.el.2.1 : Int), .bool bk.el.2.2, .int .u64 (bk.ot.1 : Int), .int .u64 (bk.ot.2.1 : Int), .bool bk.ot.2.2, .string bk.nonce, .string bk.box, .string bk.mac, .int .i64 bk.code] 27)).cell? ⟨w5.heap.size, 8, none⟩ = some (.string bk.nonce) := hK5.cell (k := 8) rfl
          have n9 : (w5.alloc (Obj.cells #[.int .i64 bk.kind, .string bk.user, .int .u64 (bk.el.1 : Int), .int .u64 (bk.el.2.1 : Int), .bool bk.el.2.2, .int .u64 (bk.ot.1 : Int), .int .u64 (bk.ot.2.1 : Int), .bool bk.ot.2.2, .string bk.nonce, .string bk.box, .string bk.mac, .int .i64 bk.code] 27)).cell? ⟨w5.heap.size, 9, none⟩ = some (.string bk.box) := hK5.cell (k := 9) rfl
          have n10 : (w5.alloc (Obj.cells #[.int .i64 bk.kind, .string bk.user, .int .u64 (bk.el.1 : Int), .int .u64 (bk.el.2.1 : Int), .bool bk.el.2.2, .int .u64 (bk.ot.1 : Int), .int .u64 (bk.ot.2.1 : Int), .bool bk.ot.2.2, .string bk.nonce, .string bk.box, .string bk.mac, .int .i64 bk.code] 27)).cell? ⟨w5.heap.size, 10, none⟩ = some (.string bk.mac) := hK5.cell (k := 10) rfl
          have n11 : (w5.alloc (Obj.cells #[.int .i64 bk.kind, .string bk.user, .int .u64 (bk.el.1 : Int), .int .u64 (bk.el.2.1 : Int), .bool bk.el.2.2, .int .u64 (bk.ot.1 : Int), .int .u64 (bk.ot.2.1 : Int), .bool bk.ot.2.2, .string bk.nonce, .string bk.box, .string bk.mac, .int .i64 bk.code] 27)).cell? ⟨w5.heap.size, 11, none⟩ = some (.int .i64 bk.code) := hK5.cell (k := 11) rfl
          go_wp2
          all_goals go_ret
          all_goals exact ⟨rfl, hB5⟩
        · rw [decide_eq_false hm] at hq
          go_wp2_with fail
          refine (GM _).mono ?_
          rintro e w5 ⟨rfl, b5⟩
          have hM5 := (hMj.keep b5).alloc (Obj.cells #[.int .i64 bk.kind, .string bk.user, .int .u64 (bk.el.1 : Int), .int .u64 (bk.el.2.1 : Int), .bool bk.el.2.2, .int .u64 (bk.ot.1 : Int), .int .u64 (bk.ot.2.1 : Int), .bool bk.ot.2.2, .string bk.nonce, .string bk.box, .string bk.mac, .int .i64 bk.code] 27)
          have hK5 := Bk.new w5 27 #[.int .i64 bk.kind, .string bk.user, .int .u64 (bk.el.1 : Int), .int .u64 (bk.el.2.1 : Int), .bool bk.el.2.2, .int .u64 (bk.ot.1 : Int), .int .u64 (bk.ot.2.1 : Int), .bool bk.ot.2.2, .string bk.nonce, .string bk.box, .string bk.mac, .int .i64 bk.code]
          have hB5 := (hBj.trans (b5.mono hBj.size)).alloc (Nat.le_trans hBj.size b5.size) (Obj.cells #[.int .i64 bk.kind, .string bk.user, .int .u64 (bk.el.1 : Int), .int .u64 (bk.el.2.1 : Int), .bool bk.el.2.2, .int .u64 (bk.ot.1 : Int), .int .u64 (bk.ot.2.1 : Int), .bool bk.ot.2.2, .string bk.nonce, .string bk.box, .string bk.mac, .int .i64 bk.code] 27)
          clear GM b5 hBj hMj hbj c12
          have m0 : (w5.alloc (Obj.cells #[.int .i64 bk.kind, .string bk.user, .int .u64 (bk.el.1 : Int), .int .u64 (bk.el.2.1 : Int), .bool bk.el.2.2, .int .u64 (bk.ot.1 : Int), .int .u64 (bk.ot.2.1 : Int), .bool bk.ot.2.2, .string bk.nonce, .string bk.box, .string bk.mac, .int .i64 bk.code] 27)).cell? ⟨r0, 0, none⟩ = some (.int .i64 m.kind) := hM5.cell (k := 0) rfl
          have m1 : (w5.alloc (Obj.cells #[.int .i64 bk.kind, .string bk.user, .int .u64 (bk.el.1 : Int), .int .u64 (bk.el.2.1 : Int), .bool bk.el.2.2, .int .u64 (bk.ot.1 : Int), .int .u64 (bk.ot.2.1 : Int), .bool bk.ot.2.2, .string bk.nonce, .string bk.box, .string bk.mac, .int .i64 bk.code] 27)).cell? ⟨r0, 1, none⟩ = some (.string m.user) := hM5.cell (k := 1) rfl
          have m2 : (w5.alloc (Obj.cells #[.int .i64 bk.kind, .string bk.user, .int .u64 (bk.el.1 : Int), .int .u64 (bk.el.2.1 : Int), .bool bk.el.2.2, .int .u64 (bk.ot.1 : Int), .int .u64 (bk.ot.2.1 : Int), .bool bk.ot.2.2, .string bk.nonce, .string bk.box, .string bk.mac, .int .i64 bk.code] 27)).cell? ⟨r0, 2, none⟩ = some (.int .u64 (m.el.1 : Int)) := hM5.cell (k := 2) rfl
          have m3 : (w5.alloc (Obj.cells #[.int .i64 bk.kind, .string bk.user, .int .u64 (bk.el.1 : Int), .int .u64 (bk.el.2.1 : Int), .bool bk.el.2.2, .int .u64 (bk.ot.1 : Int), .int .u64 (bk.ot.2.1 : Int), .bool bk.ot.2.2, .string bk.nonce, .string bk.box, .string bk.mac, .int .i64 bk.code] 27)).cell? ⟨r0, 3, none⟩ = some (.int .u64 (m.el.2.1 : Int)) := hM5.cell (k := 3) rfl
          have m4 : (w5.alloc (Obj.cells #[.int .i64 bk.kind, .string bk.user, .int .u64 (bk.el.1 : Int), .int .u64 (bk.el.2.1 : Int), .bool bk.el.2.2, .int .u64 (bk.ot.1 : Int), .int .u64 (bk.ot.2.1 : Int), .bool bk.ot.2.2, .string bk.nonce, .string bk.box, .string bk.mac, .int .i64 bk.code] 27)).cell? ⟨r0, 4, none⟩ = some (.bool m.el.2.2) := hM5.cell (k := 4) rfl
          have m5 : (w5.alloc (Obj.cells #[.int .i64 bk.kind, .string bk.user, .int .u64 (bk.el.1 : Int), .int .u64 (bk.el.2.1 : Int), .bool bk.el.2.2, .int .u64 (bk.ot.1 : Int), .int .u64 (bk.ot.2.1 : Int), .bool bk.ot.2.2, .string bk.nonce, .string bk.box, .string bk.mac, .int .i64 bk.code] 27)).cell? ⟨r0, 5, none⟩ = some (.int .u64 (m.ot.1 : Int)) := hM5.cell (k := 5) rfl
          have m6 : (w5.alloc (Obj.cells #[.int .i64 bk.kind, .string bk.user, .int .u64 (bk.el.1 : Int), .int .u64 (bk.el.2.1 : Int), .bool bk.el.2.2, .int .u64 (bk.ot.1 : Int), .int .u64 (bk.ot.2.1 : Int), .bool bk.ot.2.2, .string bk.nonce, .string bk.box, .string bk.mac, .int .i64 bk.code] 27)).cell? ⟨r0, 6, none⟩ = some (.int .u64 (m.ot.2.1 : Int)) := hM5.cell (k := 6) rfl
          have m7 : (w5.alloc (Obj.cells #[.int .i64 bk.kind, .string bk.user, .int .u64 (bk.el.1 : Int), .int .u64 (bk.el.2.1 : Int), .bool bk.el.2.2, .int .u64 (bk.ot.1 : Int), .int .u64 (bk.ot.2.1 : Int), .bool bk.ot.2.2, .string bk.nonce, .string bk.box, .string bk.mac, .int .i64 bk.code] 27)).cell? ⟨r0, 7, none⟩ = some (.bool m.ot.2.2) := hM5.cell (k := 7) rfl
          have m8 : (w5.alloc (Obj.cells #[.int .i64 bk.kind, .string bk.user, .int .u64 (bk.el.1 : Int), .int .u64 (bk.el.2.1 : Int), .bool bk.el.2.2, .int .u64 (bk.ot.1 : Int), .int .u64 (bk.ot.2.1 : Int), .bool bk.ot.2.2, .string bk.nonce, .string bk.box, .string bk.mac, .int .i64 bk.code] 27)).cell? ⟨r0, 8, none⟩ = some (.string m.nonce) := hM5.cell (k := 8) rfl
          have m9 : (w5.alloc (Obj.cells #[.int .i64 bk.kind, .string bk.user, .int .u64 (bk.el.1 : Int), .int .u64 (bk.el.2.1 : Int), .bool bk.el.2.2, .int .u64 (bk.ot.1 : Int), .int .u64 (bk.ot.2.1 : Int), .bool bk.ot.2.2, .string bk.nonce, .string bk.box, .string bk.mac, .int .i64 bk.code] 27)).cell? ⟨r0, 9, none⟩ = some (.string m.box) := hM5.cell (k := 9) rfl
          have m10 : (w5.alloc (Obj.cells #[.int .i64 bk.kind, .string bk.user, .int .u64 (bk.el.1 : Int), .int .u64 (bk.el.2.1 : Int), .bool bk.el.2.2, .int .u64 (bk.ot.1 : Int), .int .u64 (bk.ot.2.1 : Int), .bool bk.ot.2.2, .string bk.nonce, .string bk.box, .string bk.mac, .int .i64 bk.code] 27)).cell? ⟨r0, 10, none⟩ = some (.string m.mac) := hM5.cell (k := 10) rfl
          have m11 : (w5.alloc (Obj.cells #[.int .i64 bk.kind, .string bk.user, .int .u64 (bk.el.1 : Int), .int .u64 (bk.el.2.1 : Int), .bool bk.el.2.2, .int .u64 (bk.ot.1 : Int), .int .u64 (bk.ot.2.1 : Int), .bool bk.ot.2.2, .string bk.nonce, .string bk.box, .string bk.mac, .int .i64 bk.code] 27)).cell? ⟨r0, 11, none⟩ = some (.int .i64 m.code) := hM5.cell (k := 11) rfl
          have n0 : (w5.alloc (Obj.cells #[.int .i64 bk.kind, .string bk.user, .int .u64 (bk.el.1 : Int), .int .u64 (bk.el.2.1 : Int), .bool bk.el.2.2, .int .u64 (bk.ot.1 : Int), .int .u64 (bk.ot.2.1 : Int), .bool bk.ot.2.2, .string bk.nonce, .string bk.box, .string bk.mac, .int .i64 bk.code] 27)).cell? ⟨w5.heap.size, 0, none⟩ = some (.int .i64 bk.kind) := hK5.cell (k := 0) rfl
          have n1 : (w5.alloc (Obj.cells #[.int .i64 bk.kind, .string bk.user, .int .u64 (bk.el.1 : Int), .int .u64 (bk.el.2.1 : Int), .bool bk.el.2.2, .int .u64 (bk.ot.1 : Int), .int .u64 (bk.ot.2.1 : Int), .bool bk.ot.2.2, .string bk.nonce, .string bk.box, .string bk.mac, .int .i64 bk.code] 27)).cell? ⟨w5.heap.size, 1, none⟩ = some (.string bk.user) := hK5.cell (k := 1) rfl
          have n2 : (w5.alloc (Obj.cells #[.int .i64 bk.kind, .string bk.user, .int .u64 (bk.el.1 : Int), .int .u64 (bk.el.2.1 : Int), .bool bk.el.2.2, .int .u64 (bk.ot.1 : Int), .int .u64 (bk.ot.2.1 : Int), .bool bk.ot.2.2, .string bk.nonce, .string bk.box, .string bk.mac, .int .i64 bk.code] 27)).cell? ⟨w5.heap.size, 2, none⟩ = some (.int .u64 (bk.el.1 : Int)) := hK5.cell (k := 2) rfl
          have n3 : (w5.alloc (Obj.cells #[.int .i64 bk.kind, .string bk.user, .int .u64 (bk.el.1 : Int), .int .u64 (bk.el.2.1 : Int), .bool bk.el.2.2, .int .u64 (bk.ot.1 : Int), .int .u64 (bk.ot.2.1 : Int), .bool bk.ot.2.2, .string bk.nonce, .string bk.box, .string bk.mac, .int .i64 bk.code] 27)).cell? ⟨w5.heap.size, 3, none⟩ = some (.int .u64 (bk.el.2.1 : Int)) := hK5.cell (k := 3) rfl
          have n4 : (w5.alloc (Obj.cells #[.int .i64 bk.kind, .string bk.user, .int .u64 (bk.el.1 : Int), .int .u64 (bk.el.2.1 : Int), .bool bk.el.2.2, .int .u64 (bk.ot.1 : Int), .int .u64 (bk.ot.2.1 : Int), .bool bk.ot.2.2, .string bk.nonce, .string bk.box, .string bk.mac, .int .i64 bk.code] 27)).cell? ⟨w5.heap.size, 4, none⟩ = some (.bool bk.el.2.2) := hK5.cell (k := 4) rfl
          have n5 : (w5.alloc (Obj.cells #[.int .i64 bk.kind, .string bk.user, .int .u64 (bk.el.1 : Int), .int .u64 (bk.el.2.1 : Int), .bool bk.el.2.2, .int .u64 (bk.ot.1 : Int), .int .u64 (bk.ot.2.1 : Int), .bool bk.ot.2.2, .string bk.nonce, .string bk.box, .string bk.mac, .int .i64 bk.code] 27)).cell? ⟨w5.heap.size, 5, none⟩ = some (.int .u64 (bk.ot.1 : Int)) := hK5.cell (k := 5) rfl
          have n6 : (w5.alloc (Obj.cells #[.int .i64 bk.kind, .string bk.user, .int .u64 (bk.el.1 : Int), .int .u64 (bk.el.2.1 : Int), .bool bk.el.2.2, .int .u64 (bk.ot.1 : Int), .int .u64 (bk.ot.2.1 : Int), .bool bk.ot.2.2, .string bk.nonce, .string bk.box, .string bk.mac, .int .i64 bk.code] 27)).cell? ⟨w5.heap.size, 6, none⟩ = some (.int .u64 (bk.ot.2.1 : Int)) := hK5.cell (k := 6) rfl
          have n7 : (w5.alloc (Obj.cells #[.int .i64 bk.kind, .string bk.user, .int .u64 (bk.el.1 : Int), .int .u64 (bk.el.2.1 : Int), .bool bk.el.2.2, .int .u64 (bk.ot.1 : Int), .int .u64 (bk.ot.2.1 : Int), .bool bk.ot.2.2, .string bk.nonce, .string bk.box, .string bk.mac, .int .i64 bk.code] 27)).cell? ⟨w5.heap.size, 7, none⟩ = some (.bool bk.ot.2.2) := hK5.cell (k := 7) rfl
          have n8 : (w5.alloc (Obj.cells #[.int .i64 bk.kind, .string bk.user, .int .u64 (bk.el.1 : Int), .int .u64 (bk.el.2.1 : Int), .bool bk.el.2.2, .int .u64 (bk.ot.1 : Int), .int .u64 (bk.ot.2.1 : Int), .bool bk.ot.2.2, .string bk.nonce, .string bk.box, .string bk.mac, .int .i64 bk.code] 27)).cell? ⟨w5.heap.size, 8, none⟩ = some (.string bk.nonce) := hK5.cell (k := 8) rfl
          have n9 : (w5.alloc (Obj.cells #[.int .i64 bk.kind, .string bk.user, .int .u64 (bk.el.1 : Int), .int .u64 (bk.el.2.1 : Int), .bool bk.el.2.2, .int .u64 (bk.ot.1 : Int), .int .u64 (bk.ot.2.1 : Int), .bool bk.ot.2.2, .string bk.nonce, .string bk.box, .string bk.mac, .int .i64 bk.code] 27)).cell? ⟨w5.heap.size, 9, none⟩ = some (.string bk.box) := hK5.cell (k := 9) rfl
          have n10 : (w5.alloc (Obj.cells #[.int .i64 bk.kind, .string bk.user, .int .u64 (bk.el.1 : Int), .int .u64 (bk.el.2.1 : Int), .bool bk.el.2.2, .int .u64 (bk.ot.1 : Int), .int .u64 (bk.ot.2.1 : Int), .bool bk.ot.2.2, .string bk.nonce, .string bk.box, .string bk.mac, .int .i64 bk.code] 27)).cell? ⟨w5.heap.size, 10, none⟩ = some (.string bk.mac) := hK5.cell (k := 10) rfl
          have n11 : (w5.alloc (Obj.cells #[.int .i64 bk.kind, .string bk.user, .int .u64 (bk.el.1 : Int), .int .u64 (bk.el.2.1 : Int), .bool bk.el.2.2, .int .u64 (bk.ot.1 : Int), .int .u64 (bk.ot.2.1 : Int), .bool bk.ot.2.2, .string bk.nonce, .string bk.box, .string bk.mac, .int .i64 bk.code] 27)).cell? ⟨w5.heap.size, 11, none⟩ = some (.int .i64 bk.code) := hK5.cell (k := 11) rfl
          go_wp2
          all_goals go_ret
          all_goals exact ⟨rfl, hB5⟩
theorem putI_no (m : Msg) (w : World) (hf : Fits m) (hkn : kindB m.kind = false) :
    Calls Tryz.prog 5 #[.agg (msgL m).toArray] w fun e w' => e = .returned (.string (putM m)) ∧ Below w.heap.size w w' := by
  have hfl : flds m.kind = [] := by unfold flds; rw [hkn]; rfl
  have hno : ∀ bk, getM (byB m.kind) = some bk → bk ≠ m := fun bk h e => by
    have h1 := (okM_iff.1 (putM_get h).1).1
    rw [e, hkn] at h1
    cases h1
  have hpm : putM m = ⟨#[]⟩ := by
    unfold putM
    rw [if_neg]
    intro h
    have h1 := (okM_iff.1 h).1
    rw [hkn] at h1
    cases h1
  rw [hpm]
  have GM := fun w => getI (byB m.kind) w (by unfold byB; rw [strOfNums_size]; unfold maxLen; simp only [List.length_cons, List.length_nil]; omega)
  obtain ⟨kn, hkw, HBE⟩ := beK m.kind hf.k0 hf.k1
  obtain ⟨T, hT⟩ : ∃ T, Hid (T = byB m.kind) := ⟨_, rfl⟩
  rw [← hT.out] at GM hno
  have hr0 := Bk.new w 27 (msgL m).toArray
  have hB := (Below.refl _ w).alloc (Nat.le_refl _) (.cells (msgL m).toArray 27)
  simp only [msgL] at hr0 hB ⊢
  go_enter Tryz.func5, Tryz.ntmps5
  go_wp2
  generalize w.alloc _ = W1 at *
  obtain ⟨r0, hr0e⟩ : ∃ r, r = w.heap.size := ⟨_, rfl⟩
  rw [← hr0e] at hr0 ⊢
  have hrg : w.heap.size ≤ r0 := by omega
  clear hr0e
  have ck : W1.drew.cell? ⟨r0, 0, none⟩ = some (.int .i64 m.kind) := hr0.cell (k := 0) rfl
  have hkn' := hkn
  clear hkn
  have hkn := hkw
  refine G.pool_prT (W := W1) [] 7 [.val (.agg #[.int .i64 m.kind, .string m.user, .int .u64 (m.el.1 : Int), .int .u64 (m.el.2.1 : Int), .bool m.el.2.2, .int .u64 (m.ot.1 : Int), .int .u64 (m.ot.2.1 : Int), .bool m.ot.2.2, .string m.nonce, .string m.box, .string m.mac, .int .i64 m.code]),
      .val (.pointer (some ⟨r0, 0, none⟩)),
      .val (.int .i64 m.kind),
      .val (.int .u64 kn),
      .val (.string (byB m.kind)),
      .val (.agg #[.int .i64 m.kind, .string m.user, .int .u64 (m.el.1 : Int), .int .u64 (m.el.2.1 : Int), .bool m.el.2.2, .int .u64 (m.ot.1 : Int), .int .u64 (m.ot.2.1 : Int), .bool m.ot.2.2, .string m.nonce, .string m.box, .string m.mac, .int .i64 m.code, .string (byB m.kind)]),
      .new (.cells #[.int .i64 m.kind, .string m.user, .int .u64 (m.el.1 : Int), .int .u64 (m.el.2.1 : Int), .bool m.el.2.2, .int .u64 (m.ot.1 : Int), .int .u64 (m.ot.2.1 : Int), .bool m.ot.2.2, .string m.nonce, .string m.box, .string m.mac, .int .i64 m.code, .string (byB m.kind)] 49) (.cells #[.int .i64 m.kind, .string m.user, .int .u64 (m.el.1 : Int), .int .u64 (m.el.2.1 : Int), .bool m.el.2.2, .int .u64 (m.ot.1 : Int), .int .u64 (m.ot.2.1 : Int), .bool m.ot.2.2, .string m.nonce, .string m.box, .string m.mac, .int .i64 m.code, .string (byB m.kind)] 49) 900] [[1], [1], [9], [10], [11], [8, 12], [13], [14]] (fun f => [(some 8, .agg #[.int .i64 m.kind, .string m.user, .int .u64 (m.el.1 : Int), .int .u64 (m.el.2.1 : Int), .bool m.el.2.2, .int .u64 (m.ot.1 : Int), .int .u64 (m.ot.2.1 : Int), .bool m.ot.2.2, .string m.nonce, .string m.box, .string m.mac, .int .i64 m.code]), (some 9, .pointer (some ⟨r0, 0, none⟩)), (some 10, .int .i64 m.kind), (some 11, .int .u64 kn), (some 12, .string (byB m.kind)), (some 13, .agg #[.int .i64 m.kind, .string m.user, .int .u64 (m.el.1 : Int), .int .u64 (m.el.2.1 : Int), .bool m.el.2.2, .int .u64 (m.ot.1 : Int), .int .u64 (m.ot.2.1 : Int), .bool m.ot.2.2, .string m.nonce, .string m.box, .string m.mac, .int .i64 m.code, .string (byB m.kind)]), (some 14, .pointer (some ⟨f 6, 0, none⟩))]) (by kernel_rfl) (by kernel_rfl) (by kernel_rfl) (by kernel_rfl) (by decide) (by kernel_rfl) (fun _ => by kernel_rfl) (G.last_of [.cells #[.int .i64 m.kind, .string m.user, .int .u64 (m.el.1 : Int), .int .u64 (m.el.2.1 : Int), .bool m.el.2.2, .int .u64 (m.ot.1 : Int), .int .u64 (m.ot.2.1 : Int), .bool m.ot.2.2, .string m.nonce, .string m.box, .string m.mac, .int .i64 m.code, .string (byB m.kind)] 49] (fun F R hm => by simp at hm) (fun ob ob' k hm => by simp at hm; simp [hm]) (fun b ob ob' hm => by simp at hm)) (fun b ob ob' hm => by simp at hm) ?_ ?_
  · intro ix hix
    match ix, hix with
    | 0, _ => exact G.ob_val [(1, .pointer (some ⟨r0, 0, none⟩))] rfl rfl (fun _ => by kernel_rfl) (fun A w ⟨e0, _⟩ hB => L.ldM e0 (sideBk hB hr0) rfl)
    | 1, _ => exact G.ob_val [(1, .pointer (some ⟨r0, 0, none⟩))] rfl rfl (fun _ => by kernel_rfl) (fun A w ⟨e0, _⟩ hB => L.fa_m0 e0)
    | 2, _ => exact G.ob_val [(9, .pointer (some ⟨r0, 0, none⟩))] rfl rfl (fun _ => by kernel_rfl) (fun A w ⟨e0, _⟩ hB => L.ldI e0 (hB.cell ck (by simp)))
    | 3, _ => exact G.ob_val [(10, .int .i64 m.kind)] rfl rfl (fun _ => by kernel_rfl) (fun A w ⟨e0, _⟩ hB => L.cvU e0 hkn)
    | 4, _ => exact G.ob_val [(11, .int .u64 kn)] rfl rfl (fun _ => by kernel_rfl) (fun A w ⟨e0, _⟩ hB => L.cl2 cfB e0 rfl (HBE w))
    | 5, _ => exact G.ob_val [(8, .agg #[.int .i64 m.kind, .string m.user, .int .u64 (m.el.1 : Int), .int .u64 (m.el.2.1 : Int), .bool m.el.2.2, .int .u64 (m.ot.1 : Int), .int .u64 (m.ot.2.1 : Int), .bool m.ot.2.2, .string m.nonce, .string m.box, .string m.mac, .int .i64 m.code]), (12, .string (byB m.kind))] rfl rfl (fun _ => by kernel_rfl) (fun A w ⟨e0, e1, _⟩ hB => L.buW e0 e1)
    | 6, _ => exact ob_newi [(13, .agg #[.int .i64 m.kind, .string m.user, .int .u64 (m.el.1 : Int), .int .u64 (m.el.2.1 : Int), .bool m.el.2.2, .int .u64 (m.ot.1 : Int), .int .u64 (m.ot.2.1 : Int), .bool m.ot.2.2, .string m.nonce, .string m.box, .string m.mac, .int .i64 m.code, .string (byB m.kind)])] rfl rfl (fun _ => by kernel_rfl) (fun A w ⟨e0, _⟩ => L.bxW e0)
    | ix + 7, h => exact absurd h (by omega)
  intro f W2 hS hnew y1 y2 fuel hfuel
  obtain ⟨hb0, hbn⟩ := hnew 6 _ _ _ rfl (by decide)
  have hbw : Bk W2 49 (f 6) (wrL m (byB m.kind)).toArray := hbn
  have b2 : Below W1.heap.size W1 W2 := (Below.refl _ W1).drew.trans hS.below
  replace hr0 := hr0.keep b2
  have hlo : W1.heap.size ≤ f 6 := hb0
  have hlo2 : w.heap.size ≤ f 6 := Nat.le_trans hB.size hlo
  replace hB := hB.trans (b2.mono hB.size)
  clear hS hnew y1 y2 ck b2 hbn hb0 HBE hkw hkn hlo
  simp only [puts, List.foldl, Act.put, List.setIfInBounds_toArray, List.set_cons_zero, List.set_cons_succ]
  refine last_do1 7 hfuel (by kernel_rfl) (by kernel_rfl) rfl rfl ?_
  refine fun Q K hK => doV_as (u := .pointer (some ⟨f 6, 0, none⟩)) rfl Q K (fun v w' e => hK v w' ?_)
  obtain ⟨rfl, rfl⟩ := e
  have hkn := hkn'
  clear hkn'
  obtain ⟨b, hbe⟩ : ∃ b, b = f 6 := ⟨_, rfl⟩
  rw [← hbe] at hbw hlo2
  go_wp2
  simp only [← hbe]
  clear hbe
  have ck : w'.drew.cell? ⟨r0, 0, none⟩ = some (.int .i64 m.kind) := hr0.cell (k := 0) rfl
  obtain ⟨v, hv⟩ : ∃ v, v = (.iface 46 (.pointer (some ⟨b, 0, none⟩)) : Value) := ⟨_, rfl⟩
  have HS : ∀ w'', G.Sides [] w'.drew w'' → Calls Tryz.prog 18 #[.iface 46 (.pointer (some ⟨b, 0, none⟩))] w'' fun e w3 => ∃ g, e = .returned (.map (some g)) ∧ RS v 0 g w3 ∧ Below w''.heap.size w'' w3 := fun w'' _ =>
    (stpI _ _ w'').mono fun e w3 ⟨g, h1, h2, h3⟩ => ⟨g, h1, by rw [hv]; exact h3.mono (Nat.zero_le _), h2⟩
  refine G.pool_list (W := w') [] [.val (.pointer (some ⟨b, 0, none⟩)),
      .val (.iface 46 (.pointer (some ⟨b, 0, none⟩))),
      .got (fun g => .map (some g)) (RS v 0),
      .val (.pointer (some ⟨r0, 0, none⟩)),
      .val (.int .i64 m.kind),
      .val (.slice none 0 0),
      .val (.int .i64 ((0 : Nat) : Int)),
      .val (.int .i64 0)] [[3], [15], [16], [1], [18], [17, 19], [20], []] (fun f => [(some 15, .pointer (some ⟨b, 0, none⟩)), (some 16, .iface 46 (.pointer (some ⟨b, 0, none⟩))), (some 17, (fun g => .map (some g)) (f 2)), (some 18, .pointer (some ⟨r0, 0, none⟩)), (some 19, .int .i64 m.kind), (some 20, .slice none 0 0), (some 21, .int .i64 ((0 : Nat) : Int)), (some 22, .int .i64 0)]) (by kernel_rfl) (by kernel_rfl) (by kernel_rfl) (by kernel_rfl) (fun _ => by kernel_rfl) (G.last_of [] (fun F R hm => by simp only [List.mem_cons, List.not_mem_nil, or_false, reduceCtorEq, false_or, G.Knd.got.injEq] at hm; obtain ⟨-, rfl⟩ := hm; exact RS_lasts) (fun ob ob' k hm => by simp at hm) (fun b ob ob' hm => by simp at hm)) (fun b ob ob' hm => by simp at hm) ?_ ?_
  · intro ix hix
    match ix, hix with
    | 0, _ => exact G.ob_val [(3, .pointer (some ⟨b, 0, none⟩))] rfl rfl (fun _ => by kernel_rfl) (fun A w ⟨e0, _⟩ hB => L.move e0)
    | 1, _ => exact G.ob_val [(15, .pointer (some ⟨b, 0, none⟩))] rfl rfl (fun _ => by kernel_rfl) (fun A w ⟨e0, _⟩ hB => L.miW e0)
    | 2, _ => exact G.ob_got (fun f => [(16, .iface 46 (.pointer (some ⟨b, 0, none⟩)))]) rfl rfl (fun _ => by kernel_rfl) (fun f A w ⟨e0, _⟩ hB hh => L.cg1 cfS e0 (HS w hB))
    | 3, _ => exact G.ob_val [(1, .pointer (some ⟨r0, 0, none⟩))] rfl rfl (fun _ => by kernel_rfl) (fun A w ⟨e0, _⟩ hB => L.fa_m0 e0)
    | 4, _ => exact G.ob_val [(18, .pointer (some ⟨r0, 0, none⟩))] rfl rfl (fun _ => by kernel_rfl) (fun A w ⟨e0, _⟩ hB => L.ldI e0 (hB.cell ck (by simp)))
    | 5, _ => exact G.ob_had (fun f => [(17, .map (some (f 2))), (19, .int .i64 m.kind)]) rfl rfl (fun _ => by kernel_rfl) (fun f A w ⟨e0, e1, _⟩ hB hh => L.lk0 hkn e0 e1 (hh 17 (by decide) 2 rfl (by decide) _ _ rfl))
    | 6, _ => exact G.ob_val [(20, .slice none 0 0)] rfl rfl (fun _ => by kernel_rfl) (fun A w ⟨e0, _⟩ hB => L.lenS e0)
    | 7, _ => exact G.ob_val [] rfl rfl (fun _ => by kernel_rfl) (fun A w _ hB => L.move rfl)
    | ix + 8, h => exact absurd h (by simp)
  intro f2 W3 hS y1 y2 hgot y3
  have b3 : Below w'.heap.size w' W3 := (Below.refl _ w').drew.trans hS.below
  replace hr0 := hr0.keep b3
  replace hbw := hbw.keep b3
  replace hB := hB.trans (b3.mono hB.size)
  clear hS hgot HS ck b3 y1 y2 y3
  simp only [puts, List.foldl, Act.put, List.setIfInBounds_toArray, List.set_cons_zero, List.set_cons_succ]
  have hne0 : r0 ≠ b := bk_ne hr0 hbw (by decide)
  rw [← hT.out] at hbw
  clear hv hkn hfuel hfl hpm
  go_wp2
  go_loopw [22] (fun iv wr => iv = .int .i64 0 ∧ Bk wr 49 b (wrL m T).toArray ∧ Bk wr 27 r0 #[.int .i64 m.kind, .string m.user, .int .u64 (m.el.1 : Int), .int .u64 (m.el.2.1 : Int), .bool m.el.2.2, .int .u64 (m.ot.1 : Int), .int .u64 (m.ot.2.1 : Int), .bool m.ot.2.2, .string m.nonce, .string m.box, .string m.mac, .int .i64 m.code] ∧ Below w.heap.size w wr) (fun _ _ => 0)
  case atStart => exact ⟨rfl, hbw, hr0, hB⟩
  case round =>
    clear hbw hr0 hB
    obtain ⟨rfl, hbj, hMj, hBj⟩ := hrel
    have c12 : wr.cell? ⟨b, 12, none⟩ = some (.string T) := hbj.cell (k := 12) rfl
    cases hg : getM T with
    | none =>
      rw [hg] at GM
      simp only [Option.getD_none, Option.isSome_none, msgL] at GM
      go_wp2_with fail
      refine (GM _).mono ?_
      rintro e w5 ⟨rfl, b5⟩
      have hB5 := (hBj.trans (b5.mono hBj.size)).alloc (Nat.le_trans hBj.size b5.size) (Obj.cells #[.int .i64 0, .string ⟨#[]⟩, .int .u64 ((0 : Nat) : Int), .int .u64 ((0 : Nat) : Int), .bool false, .int .u64 ((0 : Nat) : Int), .int .u64 ((0 : Nat) : Int), .bool false, .string ⟨#[]⟩, .string ⟨#[]⟩, .string ⟨#[]⟩, .int .i64 0] 27)
      clear GM b5 hBj hMj hbj c12
      go_wp2
      all_goals go_ret
      all_goals exact ⟨rfl, hB5⟩
    | some bk =>
      rw [hg] at GM
      simp only [Option.getD_some, Option.isSome_some, msgL] at GM
      have hq : ∀ w, (Go.binOp .neq 27 (.agg #[.int .i64 bk.kind, .string bk.user, .int .u64 (bk.el.1 : Int), .int .u64 (bk.el.2.1 : Int), .bool bk.el.2.2, .int .u64 (bk.ot.1 : Int), .int .u64 (bk.ot.2.1 : Int), .bool bk.ot.2.2, .string bk.nonce, .string bk.box, .string bk.mac, .int .i64 bk.code]) (.agg #[.int .i64 m.kind, .string m.user, .int .u64 (m.el.1 : Int), .int .u64 (m.el.2.1 : Int), .bool m.el.2.2, .int .u64 (m.ot.1 : Int), .int .u64 (m.ot.2.1 : Int), .bool m.ot.2.2, .string m.nonce, .string m.box, .string m.mac, .int .i64 m.code])).run Tryz.prog w = .ok (.bool (!decide (bk = m))) w := fun w => neqM bk m w
      have hm := hno bk hg
      rw [decide_eq_false hm] at hq
      go_wp2_with fail
      refine (GM _).mono ?_
      rintro e w5 ⟨rfl, b5⟩
      have hM5 := (hMj.keep b5).alloc (Obj.cells #[.int .i64 bk.kind, .string bk.user, .int .u64 (bk.el.1 : Int), .int .u64 (bk.el.2.1 : Int), .bool bk.el.2.2, .int .u64 (bk.ot.1 : Int), .int .u64 (bk.ot.2.1 : Int), .bool bk.ot.2.2, .string bk.nonce, .string bk.box, .string bk.mac, .int .i64 bk.code] 27)
      have hK5 := Bk.new w5 27 #[.int .i64 bk.kind, .string bk.user, .int .u64 (bk.el.1 : Int), .int .u64 (bk.el.2.1 : Int), .bool bk.el.2.2, .int .u64 (bk.ot.1 : Int), .int .u64 (bk.ot.2.1 : Int), .bool bk.ot.2.2, .string bk.nonce, .string bk.box, .string bk.mac, .int .i64 bk.code]
      have hB5 := (hBj.trans (b5.mono hBj.size)).alloc (Nat.le_trans hBj.size b5.size) (Obj.cells #[.int .i64 bk.kind, .string bk.user, .int .u64 (bk.el.1 : Int), .int .u64 (bk.el.2.1 : Int), .bool bk.el.2.2, .int .u64 (bk.ot.1 : Int), .int .u64 (bk.ot.2.1 : Int), .bool bk.ot.2.2, .string bk.nonce, .string bk.box, .string bk.mac, .int .i64 bk.code] 27)
      clear GM b5 hBj hMj hbj c12
      have m0 : (w5.alloc (Obj.cells #[.int .i64 bk.kind, .string bk.user, .int .u64 (bk.el.1 : Int), .int .u64 (bk.el.2.1 : Int), .bool bk.el.2.2, .int .u64 (bk.ot.1 : Int), .int .u64 (bk.ot.2.1 : Int), .bool bk.ot.2.2, .string bk.nonce, .string bk.box, .string bk.mac, .int .i64 bk.code] 27)).cell? ⟨r0, 0, none⟩ = some (.int .i64 m.kind) := hM5.cell (k := 0) rfl
      have m1 : (w5.alloc (Obj.cells #[.int .i64 bk.kind, .string bk.user, .int .u64 (bk.el.1 : Int), .int .u64 (bk.el.2.1 : Int), .bool bk.el.2.2, .int .u64 (bk.ot.1 : Int), .int .u64 (bk.ot.2.1 : Int), .bool bk.ot.2.2, .string bk.nonce, .string bk.box, .string bk.mac, .int .i64 bk.code] 27)).cell? ⟨r0, 1, none⟩ = some (.string m.user) := hM5.cell (k := 1) rfl
      have m2 : (w5.alloc (Obj.cells #[.int .i64 bk.kind, .string bk.user, .int .u64 (bk.el.1 : Int), .int .u64 (bk.el.2.1 : Int), .bool bk.el.2.2, .int .u64 (bk.ot.1 : Int), .int .u64 (bk.ot.2.1 : Int), .bool bk.ot.2.2, .string bk.nonce, .string bk.box, .string bk.mac, .int .i64 bk.code] 27)).cell? ⟨r0, 2, none⟩ = some (.int .u64 (m.el.1 : Int)) := hM5.cell (k := 2) rfl
      have m3 : (w5.alloc (Obj.cells #[.int .i64 bk.kind, .string bk.user, .int .u64 (bk.el.1 : Int), .int .u64 (bk.el.2.1 : Int), .bool bk.el.2.2, .int .u64 (bk.ot.1 : Int), .int .u64 (bk.ot.2.1 : Int), .bool bk.ot.2.2, .string bk.nonce, .string bk.box, .string bk.mac, .int .i64 bk.code] 27)).cell? ⟨r0, 3, none⟩ = some (.int .u64 (m.el.2.1 : Int)) := hM5.cell (k := 3) rfl
      have m4 : (w5.alloc (Obj.cells #[.int .i64 bk.kind, .string bk.user, .int .u64 (bk.el.1 : Int), .int .u64 (bk.el.2.1 : Int), .bool bk.el.2.2, .int .u64 (bk.ot.1 : Int), .int .u64 (bk.ot.2.1 : Int), .bool bk.ot.2.2, .string bk.nonce, .string bk.box, .string bk.mac, .int .i64 bk.code] 27)).cell? ⟨r0, 4, none⟩ = some (.bool m.el.2.2) := hM5.cell (k := 4) rfl
      have m5 : (w5.alloc (Obj.cells #[.int .i64 bk.kind, .string bk.user, .int .u64 (bk.el.1 : Int), .int .u64 (bk.el.2.1 : Int), .bool bk.el.2.2, .int .u64 (bk.ot.1 : Int), .int .u64 (bk.ot.2.1 : Int), .bool bk.ot.2.2, .string bk.nonce, .string bk.box, .string bk.mac, .int .i64 bk.code] 27)).cell? ⟨r0, 5, none⟩ = some (.int .u64 (m.ot.1 : Int)) := hM5.cell (k := 5) rfl
      have m6 : (w5.alloc (Obj.cells #[.int .i64 bk.kind, .string bk.user, .int .u64 (bk.el.1 : Int), .int .u64 (bk.el.2.1 : Int), .bool bk.el.2.2, .int .u64 (bk.ot.1 : Int), .int .u64 (bk.ot.2.1 : Int), .bool bk.ot.2.2, .string bk.nonce, .string bk.box, .string bk.mac, .int .i64 bk.code] 27)).cell? ⟨r0, 6, none⟩ = some (.int .u64 (m.ot.2.1 : Int)) := hM5.cell (k := 6) rfl
      have m7 : (w5.alloc (Obj.cells #[.int .i64 bk.kind, .string bk.user, .int .u64 (bk.el.1 : Int), .int .u64 (bk.el.2.1 : Int), .bool bk.el.2.2, .int .u64 (bk.ot.1 : Int), .int .u64 (bk.ot.2.1 : Int), .bool bk.ot.2.2, .string bk.nonce, .string bk.box, .string bk.mac, .int .i64 bk.code] 27)).cell? ⟨r0, 7, none⟩ = some (.bool m.ot.2.2) := hM5.cell (k := 7) rfl
      have m8 : (w5.alloc (Obj.cells #[.int .i64 bk.kind, .string bk.user, .int .u64 (bk.el.1 : Int), .int .u64 (bk.el.2.1 : Int), .bool bk.el.2.2, .int .u64 (bk.ot.1 : Int), .int .u64 (bk.ot.2.1 : Int), .bool bk.ot.2.2, .string bk.nonce, .string bk.box, .string bk.mac, .int .i64 bk.code] 27)).cell? ⟨r0, 8, none⟩ = some (.string m.nonce) := hM5.cell (k := 8) rfl
      have m9 : (w5.alloc (Obj.cells #[.int .i64 bk.kind, .string bk.user, .int .u64 (bk.el.1 : Int), .int .u64 (bk.el.2.1 : Int), .bool bk.el.2.2, .int .u64 (bk.ot.1 : Int), .int .u64 (bk.ot.2.1 : Int), .bool bk.ot.2.2, .string bk.nonce, .string bk.box, .string bk.mac, .int .i64 bk.code] 27)).cell? ⟨r0, 9, none⟩ = some (.string m.box) := hM5.cell (k := 9) rfl
      have m10 : (w5.alloc (Obj.cells #[.int .i64 bk.kind, .string bk.user, .int .u64 (bk.el.1 : Int), .int .u64 (bk.el.2.1 : Int), .bool bk.el.2.2, .int .u64 (bk.ot.1 : Int), .int .u64 (bk.ot.2.1 : Int), .bool bk.ot.2.2, .string bk.nonce, .string bk.box, .string bk.mac, .int .i64 bk.code] 27)).cell? ⟨r0, 10, none⟩ = some (.string m.mac) := hM5.cell (k := 10) rfl
      have m11 : (w5.alloc (Obj.cells #[.int .i64 bk.kind, .string bk.user, .int .u64 (bk.el.1 : Int), .int .u64 (bk.el.2.1 : Int), .bool bk.el.2.2, .int .u64 (bk.ot.1 : Int), .int .u64 (bk.ot.2.1 : Int), .bool bk.ot.2.2, .string bk.nonce, .string bk.box, .string bk.mac, .int .i64 bk.code] 27)).cell? ⟨r0, 11, none⟩ = some (.int .i64 m.code) := hM5.cell (k := 11) rfl
      have n0 : (w5.alloc (Obj.cells #[.int .i64 bk.kind, .string bk.user, .int .u64 (bk.el.1 : Int), .int .u64 (bk.el.2.1 : Int), .bool bk.el.2.2, .int .u64 (bk.ot.1 : Int), .int .u64 (bk.ot.2.1 : Int), .bool bk.ot.2.2, .string bk.nonce, .string bk.box, .string bk.mac, .int .i64 bk.code] 27)).cell? ⟨w5.heap.size, 0, none⟩ = some (.int .i64 bk.kind) := hK5.cell (k := 0) rfl
      have n1 : (w5.alloc (Obj.cells #[.int .i64 bk.kind, .string bk.user, .int .u64 (bk.el.1 : Int), .int .u64 (bk.el.2.1 : Int), .bool bk.el.2.2, .int .u64 (bk.ot.1 : Int), .int .u64 (bk.ot.2.1 : Int), .bool bk.ot.2.2, .string bk.nonce, .string bk.box, .string bk.mac, .int .i64 bk.code] 27)).cell? ⟨w5.heap.size, 1, none⟩ = some (.string bk.user) := hK5.cell (k := 1) rfl
      have n2 : (w5.alloc (Obj.cells #[.int .i64 bk.kind, .string bk.user, .int .u64 (bk.el.1 : Int), .int .u64 (bk.el.2.1 : Int), .bool bk.el.2.2, .int .u64 (bk.ot.1 : Int), .int .u64 (bk.ot.2.1 : Int), .bool bk.ot.2.2, .string bk.nonce, .string bk.box, .string bk.mac, .int .i64 bk.code] 27)).cell? ⟨w5.heap.size, 2, none⟩ = some (.int .u64 (bk.el.1 : Int)) := hK5.cell (k := 2) rfl
      have n3 : (w5.alloc (Obj.cells #[.int .i64 bk.kind, .string bk.user, .int .u64 (bk.el.1 : Int), .int .u64 (bk.el.2.1 : Int), .bool bk.el.2.2, .int .u64 (bk.ot.1 : Int), .int .u64 (bk.ot.2.1 : Int), .bool bk.ot.2.2, .string bk.nonce, .string bk.box, .string bk.mac, .int .i64 bk.code] 27)).cell? ⟨w5.heap.size, 3, none⟩ = some (.int .u64 (bk.el.2.1 : Int)) := hK5.cell (k := 3) rfl
      have n4 : (w5.alloc (Obj.cells #[.int .i64 bk.kind, .string bk.user, .int .u64 (bk.el.1 : Int), .int .u64 (bk.el.2.1 : Int), .bool bk.el.2.2, .int .u64 (bk.ot.1 : Int), .int .u64 (bk.ot.2.1 : Int), .bool bk.ot.2.2, .string bk.nonce, .string bk.box, .string bk.mac, .int .i64 bk.code] 27)).cell? ⟨w5.heap.size, 4, none⟩ = some (.bool bk.el.2.2) := hK5.cell (k := 4) rfl
      have n5 : (w5.alloc (Obj.cells #[.int .i64 bk.kind, .string bk.user, .int .u64 (bk.el.1 : Int), .int .u64 (bk.el.2.1 : Int), .bool bk.el.2.2, .int .u64 (bk.ot.1 : Int), .int .u64 (bk.ot.2.1 : Int), .bool bk.ot.2.2, .string bk.nonce, .string bk.box, .string bk.mac, .int .i64 bk.code] 27)).cell? ⟨w5.heap.size, 5, none⟩ = some (.int .u64 (bk.ot.1 : Int)) := hK5.cell (k := 5) rfl
      have n6 : (w5.alloc (Obj.cells #[.int .i64 bk.kind, .string bk.user, .int .u64 (bk.el.1 : Int), .int .u64 (bk.el.2.1 : Int), .bool bk.el.2.2, .int .u64 (bk.ot.1 : Int), .int .u64 (bk.ot.2.1 : Int), .bool bk.ot.2.2, .string bk.nonce, .string bk.box, .string bk.mac, .int .i64 bk.code] 27)).cell? ⟨w5.heap.size, 6, none⟩ = some (.int .u64 (bk.ot.2.1 : Int)) := hK5.cell (k := 6) rfl
      have n7 : (w5.alloc (Obj.cells #[.int .i64 bk.kind, .string bk.user, .int .u64 (bk.el.1 : Int), .int .u64 (bk.el.2.1 : Int), .bool bk.el.2.2, .int .u64 (bk.ot.1 : Int), .int .u64 (bk.ot.2.1 : Int), .bool bk.ot.2.2, .string bk.nonce, .string bk.box, .string bk.mac, .int .i64 bk.code] 27)).cell? ⟨w5.heap.size, 7, none⟩ = some (.bool bk.ot.2.2) := hK5.cell (k := 7) rfl
      have n8 : (w5.alloc (Obj.cells #[.int .i64 bk.kind, .string bk.user, .int .u64 (bk.el.1 : Int), .int .u64 (bk.el.2.1 : Int), .bool bk.el.2.2, .int .u64 (bk.ot.1 : Int), .int .u64 (bk.ot.2.1 : Int), .bool bk.ot.2.2, .string bk.nonce, .string bk.box, .string bk.mac, .int .i64 bk.code] 27)).cell? ⟨w5.heap.size, 8, none⟩ = some (.string bk.nonce) := hK5.cell (k := 8) rfl
      have n9 : (w5.alloc (Obj.cells #[.int .i64 bk.kind, .string bk.user, .int .u64 (bk.el.1 : Int), .int .u64 (bk.el.2.1 : Int), .bool bk.el.2.2, .int .u64 (bk.ot.1 : Int), .int .u64 (bk.ot.2.1 : Int), .bool bk.ot.2.2, .string bk.nonce, .string bk.box, .string bk.mac, .int .i64 bk.code] 27)).cell? ⟨w5.heap.size, 9, none⟩ = some (.string bk.box) := hK5.cell (k := 9) rfl
      have n10 : (w5.alloc (Obj.cells #[.int .i64 bk.kind, .string bk.user, .int .u64 (bk.el.1 : Int), .int .u64 (bk.el.2.1 : Int), .bool bk.el.2.2, .int .u64 (bk.ot.1 : Int), .int .u64 (bk.ot.2.1 : Int), .bool bk.ot.2.2, .string bk.nonce, .string bk.box, .string bk.mac, .int .i64 bk.code] 27)).cell? ⟨w5.heap.size, 10, none⟩ = some (.string bk.mac) := hK5.cell (k := 10) rfl
      have n11 : (w5.alloc (Obj.cells #[.int .i64 bk.kind, .string bk.user, .int .u64 (bk.el.1 : Int), .int .u64 (bk.el.2.1 : Int), .bool bk.el.2.2, .int .u64 (bk.ot.1 : Int), .int .u64 (bk.ot.2.1 : Int), .bool bk.ot.2.2, .string bk.nonce, .string bk.box, .string bk.mac, .int .i64 bk.code] 27)).cell? ⟨w5.heap.size, 11, none⟩ = some (.int .i64 bk.code) := hK5.cell (k := 11) rfl
      go_wp2
      all_goals go_ret
      all_goals exact ⟨rfl, hB5⟩
theorem putI (m : Msg) (w : World) (hf : Fits m) :
    Calls Tryz.prog 5 #[.agg (msgL m).toArray] w fun e w' => e = .returned (.string (putM m)) ∧ Below w.heap.size w w' := by
  by_cases hk : kindB m.kind = true
  · exact putI_yes m w hf hk
  · rw [Bool.not_eq_true] at hk
    exact putI_no m w hf hk
end Go.Proofs.YtdaobioomoajfaaGreat
namespace Go.Proofs.YtdaobioomoajfaaGreat
open Go.RowKit
namespace L
theorem setCells_all (b : Nat) (T : TypeId) : ∀ (vs : List Value) (o : Nat) (w : World) (cs : List Value), w.heap[b]? = some (.cells cs.toArray T) → o + vs.length ≤ cs.length → (w.setCells b o vs).heap[b]? = some (.cells (cs.take o ++ vs ++ cs.drop (o + vs.length)).toArray T)
  | [], o, w, cs, h, hl => by simpa [World.setCells] using h
  | v :: r, o, w, cs, h, hl => by
    rw [World.setCells]
    have h1 : (w.setCell ⟨b, o, none⟩ v).heap[b]? = some (.cells (cs.set o v).toArray T) := by simp [World.setCell, Array.getElem?_modify, h]
    simp only [List.length_cons] at hl
    rw [setCells_all b T r (o + 1) _ _ h1 (by simp; omega)]
    congr 3
    rw [List.take_set, List.drop_set_of_lt (by omega), List.take_add_one, List.getElem?_eq_getElem (by omega)]
    simp only [Option.toList_some, List.length_cons]
    rw [List.set_append_right _ _ (by simp; omega)]
    simp [show min o cs.length = o by omega, show o + 1 + r.length = o + (r.length + 1) by omega]
section
variable {A : Act} {w : World} {dst : Option Tmp} {ty : TypeId} {ps : String} {af : Array Edge} {gd : Option (Nat × Bool)} {x y z : Operand} {b i : Nat}
theorem puA {T T' : TypeId} {cs0 cs : Array Value} (hx : A.eval x = .pointer (some ⟨b, 0, none⟩)) (hy : A.eval y = .agg cs) (hr : w.heap[b]? = some (.cells cs0 T')) (hl : cs.size = cs0.size) (hi : (Tryz.prog.info? T).map (·.size) = some cs.size) (h1 : cs.all (·.oneCell') = true) :
    Does Tryz.prog { dst := dst, op := .store T x y, type := ty, pos := ps, after := af, guard := gd } A w fun _ w' => Turned b (.cells cs T') w w' := by
  have ht : w.there b 0 cs.size := fun j hj => by
    rw [Nat.zero_add]
    exact ⟨by rw [cell_of_row _ _ _ _ _ _ hr, Array.getElem?_eq_getElem (by omega)]; rfl, by simp [World.frozen?, hr]⟩
  have h : (execOp A.eval { dst := dst, op := .store T x y, type := ty, pos := ps, after := af, guard := gd }).run Tryz.prog w = .ok .skip (w.setCells b 0 cs.toList) := by
    unfold execOp
    simp only [hx, hy, Instr.storeAt, Instr.sureAddr, Sem.run_bind, Sem.run_pure, Result.andThen_ok, run_storeVar_mid w b 0 T cs ht hi h1]
  refine does_skip h ⟨World.os_setCells w b 0 _, setCells_tape b _ 0 w, World.output_setCells w b 0 _, setCells_size b _ 0 w, ?_, fun k hk => ?_⟩
  · have := setCells_all b T' cs.toList 0 w cs0.toList (by simpa using hr) (by simp; omega)
    rw [this]
    simp [hl, List.drop_eq_nil_of_le]
  · by_cases hlt : k < w.heap.size
    · exact World.heap_setCells_other w b 0 _ hlt hk
    · rw [Array.getElem?_eq_none (by rw [setCells_size]; omega), Array.getElem?_eq_none (by omega)]
theorem ixS {s : ByteArray} {j : Nat} {k : Int} (hx : A.eval x = .string s) (hy : A.eval y = .int .i64 (j : Int)) (hj : j < s.size) (hk : (s[j].toNat : Int) = k) : Does Tryz.prog { dst := dst, op := .index 9 x y, type := ty, pos := ps, after := af, guard := gd } A w fun v' w' => v' = .int .u8 k ∧ Below w.heap.size w w' := by
  have hj' : (j : Int) < (s.size : Int) := by omega
  have h : (execOp A.eval { dst := dst, op := .index 9 x y, type := ty, pos := ps, after := af, guard := gd }).run Tryz.prog w = .ok (.value (.int .u8 k)) w := by generalize A.eval = ev at *; simp [execOp, hx, hy, hj', hk, go_sem]
  exact does_value h ⟨rfl, Below.refl _ _⟩
end
end L
theorem fd_any (q : Lt) (m : Msg) (w : World) (hs : m.user.size ≤ 2097152) :
    Calls Tryz.prog 20 #[.agg (msgL m).toArray, .int .u8 (ltN q : Nat)] w fun e w' => e = .returned (.tuple #[.string (fld m q), .bool (fok m q)]) ∧ Below w.heap.size w w' := by
  cases q
  · exact fd_u m w hs
  · exact fd_e m w
  · exact fd_o m w
  · exact fd_n m w
  · exact fd_b m w
  · exact fd_m m w
  · exact fd_c m w
theorem wo_any (q : Lt) (m : Msg) (w : World) :
    Calls Tryz.prog 21 #[.agg (msgL m).toArray, .int .u8 (ltN q : Nat)] w fun e w' => e = .returned (.agg (msgL (wo m q)).toArray) ∧ Below w.heap.size w w' := by
  cases q
  · exact wo_u m w
  · exact wo_e m w
  · exact wo_o m w
  · exact wo_n m w
  · exact wo_b m w
  · exact wo_m m w
  · exact wo_c m w
theorem cf7e (args : Array Value) (w : World) : (callFunc 20 args).run Tryz.prog w = .ok (.enter 20 args) w := by kernel_rfl
theorem cf7f (args : Array Value) (w : World) : (callFunc 21 args).run Tryz.prog w = .ok (.enter 21 args) w := by kernel_rfl
theorem sizeMsg : (Tryz.prog.info? 27).map (·.size) = some 12 := by kernel_rfl
theorem oneMsg (m : Msg) : (msgL m).toArray.all (·.oneCell') = true := by simp [msgL, Value.oneCell']
theorem ltB_size (l : List Lt) : (ltB l).size = l.length := by show ((l.map fun q => (ltN q).toUInt8).toArray).size = _; simp
theorem ltB_at (l : List Lt) (j : Nat) (q : Lt) (h : l[j]? = some q) (hj : j < (ltB l).size) : (((ltB l)[j]).toNat : Int) = ((ltN q : Nat) : Int) := by
  have e : (ltB l)[j] = (ltN q).toUInt8 := by
    have : (ltB l).data[j]? = some (ltN q).toUInt8 := by
      show ((l.map fun q => (ltN q).toUInt8).toArray)[j]? = _
      rw [List.getElem?_toArray, List.getElem?_map, h]; rfl
    have h2 := (Array.getElem?_eq_some_iff.1 this)
    exact h2.2
  rw [e]
  cases q <;> rfl
theorem conv1 (w : World) (a : Int) : (convert 22 9 (.slice (some ⟨w.heap.size, 0, none⟩) 1 1)).run Tryz.prog (w.alloc (Obj.cells #[.int .u8 a] 5)) = .ok (.string (strOfNums [a])) (w.alloc (Obj.cells #[.int .u8 a] 5)) :=
  run_convert_bytes_arg (P := Tryz.prog) (w.alloc (Obj.cells #[.int .u8 a] 5)) 22 5 Tryz.underlying22 Tryz.underlying5 w.heap.size 0 1 1 [a] rfl (fun i hi => by
    have hh := heap_alloc_new w (Obj.cells #[.int .u8 a] 5)
    generalize w.alloc (Obj.cells #[.int .u8 a] 5) = W at *
    obtain rfl : i = 0 := by omega
    simp [World.cell?, hh]) 9 Tryz.underlying9
theorem pmS_no (m : Msg) (w : World) (hk : kindB m.kind = false) :
    Calls Tryz.prog 6 #[.agg (msgL m).toArray] w fun e w' => e = .returned (.string (putM m)) ∧ Below w.heap.size w w' := by
  have hpm : putM m = ⟨#[]⟩ := by
    unfold putM
    rw [if_neg]
    intro h
    have h1 := (okM_iff.1 h).1
    rw [hk] at h1
    cases h1
  rw [hpm]
  unfold kindB at hk
  rw [decide_eq_false_iff_not] at hk
  have hR := Bk.new w 27 #[.int .i64 m.kind, .string m.user, .int .u64 (m.el.1 : Int), .int .u64 (m.el.2.1 : Int), .bool m.el.2.2, .int .u64 (m.ot.1 : Int), .int .u64 (m.ot.2.1 : Int), .bool m.ot.2.2, .string m.nonce, .string m.box, .string m.mac, .int .i64 m.code]
  have hB := (Below.refl _ w).alloc (Nat.le_refl _) (Obj.cells #[.int .i64 m.kind, .string m.user, .int .u64 (m.el.1 : Int), .int .u64 (m.el.2.1 : Int), .bool m.el.2.2, .int .u64 (m.ot.1 : Int), .int .u64 (m.ot.2.1 : Int), .bool m.ot.2.2, .string m.nonce, .string m.box, .string m.mac, .int .i64 m.code] 27)
  obtain ⟨W, hW⟩ : ∃ W, w.alloc (Obj.cells #[.int .i64 m.kind, .string m.user, .int .u64 (m.el.1 : Int), .int .u64 (m.el.2.1 : Int), .bool m.el.2.2, .int .u64 (m.ot.1 : Int), .int .u64 (m.ot.2.1 : Int), .bool m.ot.2.2, .string m.nonce, .string m.box, .string m.mac, .int .i64 m.code] 27) = W := ⟨_, rfl⟩
  rw [hW] at hR hB
  have c0 : W.cell? ⟨w.heap.size, 0, none⟩ = some (.int .i64 m.kind) := hR.cell (k := 0) rfl
  simp only [msgL]
  by_cases h1 : m.kind < 1
  · clear hk
    go_enter Tryz.func6, Tryz.ntmps6
    go_wp2
    go_ret
    exact ⟨rfl, hB⟩
  · have h2 : 8 < m.kind := by omega
    clear hk
    go_enter Tryz.func6, Tryz.ntmps6
    go_wp2
    go_ret
    exact ⟨rfl, hB⟩
theorem pmS_yes (m : Msg) (w : World) (hf : Fits m) (hk : kindB m.kind = true) :
    Calls Tryz.prog 6 #[.agg (msgL m).toArray] w fun e w' => e = .returned (.string (putM m)) ∧ Below w.heap.size w w' := by
  have h1 : 1 ≤ m.kind := (of_decide_eq_true hk : 1 ≤ m.kind ∧ m.kind ≤ 8).1
  have h2 : m.kind ≤ 8 := (of_decide_eq_true hk : 1 ≤ m.kind ∧ m.kind ≤ 8).2
  have FL := fun w => flS_yes m.kind w hk
  have hk8 : IntKind.u8.wrap m.kind = m.kind % 256 := by rw [IntKind.wrap_u8]
  have hR := Bk.new w 27 #[.int .i64 m.kind, .string m.user, .int .u64 (m.el.1 : Int), .int .u64 (m.el.2.1 : Int), .bool m.el.2.2, .int .u64 (m.ot.1 : Int), .int .u64 (m.ot.2.1 : Int), .bool m.ot.2.2, .string m.nonce, .string m.box, .string m.mac, .int .i64 m.code]
  have hB := (Below.refl _ w).alloc (Nat.le_refl _) (Obj.cells #[.int .i64 m.kind, .string m.user, .int .u64 (m.el.1 : Int), .int .u64 (m.el.2.1 : Int), .bool m.el.2.2, .int .u64 (m.ot.1 : Int), .int .u64 (m.ot.2.1 : Int), .bool m.ot.2.2, .string m.nonce, .string m.box, .string m.mac, .int .i64 m.code] 27)
  obtain ⟨W, hW⟩ : ∃ W, w.alloc (Obj.cells #[.int .i64 m.kind, .string m.user, .int .u64 (m.el.1 : Int), .int .u64 (m.el.2.1 : Int), .bool m.el.2.2, .int .u64 (m.ot.1 : Int), .int .u64 (m.ot.2.1 : Int), .bool m.ot.2.2, .string m.nonce, .string m.box, .string m.mac, .int .i64 m.code] 27) = W := ⟨_, rfl⟩
  rw [hW] at hR hB
  have k0 : W.cell? ⟨w.heap.size, 0, none⟩ = some (.int .i64 m.kind) := hR.cell (k := 0) rfl
  have hR2 := hR.alloc (Obj.cells #[.int .u8 (m.kind % 256)] 5)
  have hB2 := hB.alloc hB.size (Obj.cells #[.int .u8 (m.kind % 256)] 5)
  have hcv := conv1 W (m.kind % 256)
  obtain ⟨W2, hW2⟩ : ∃ W2, W.alloc (Obj.cells #[.int .u8 (m.kind % 256)] 5) = W2 := ⟨_, rfl⟩
  rw [hW2] at hR2 hB2 hcv
  have c0 : W2.cell? ⟨w.heap.size, 0, none⟩ = some (.int .i64 m.kind) := hR2.cell (k := 0) rfl
  have c1 : W2.cell? ⟨w.heap.size, 1, none⟩ = some (.string m.user) := hR2.cell (k := 1) rfl
  have c2 : W2.cell? ⟨w.heap.size, 2, none⟩ = some (.int .u64 (m.el.1 : Int)) := hR2.cell (k := 2) rfl
  have c3 : W2.cell? ⟨w.heap.size, 3, none⟩ = some (.int .u64 (m.el.2.1 : Int)) := hR2.cell (k := 3) rfl
  have c4 : W2.cell? ⟨w.heap.size, 4, none⟩ = some (.bool m.el.2.2) := hR2.cell (k := 4) rfl
  have c5 : W2.cell? ⟨w.heap.size, 5, none⟩ = some (.int .u64 (m.ot.1 : Int)) := hR2.cell (k := 5) rfl
  have c6 : W2.cell? ⟨w.heap.size, 6, none⟩ = some (.int .u64 (m.ot.2.1 : Int)) := hR2.cell (k := 6) rfl
  have c7 : W2.cell? ⟨w.heap.size, 7, none⟩ = some (.bool m.ot.2.2) := hR2.cell (k := 7) rfl
  have c8 : W2.cell? ⟨w.heap.size, 8, none⟩ = some (.string m.nonce) := hR2.cell (k := 8) rfl
  have c9 : W2.cell? ⟨w.heap.size, 9, none⟩ = some (.string m.box) := hR2.cell (k := 9) rfl
  have c10 : W2.cell? ⟨w.heap.size, 10, none⟩ = some (.string m.mac) := hR2.cell (k := 10) rfl
  have c11 : W2.cell? ⟨w.heap.size, 11, none⟩ = some (.int .i64 m.code) := hR2.cell (k := 11) rfl
  have hR3 := hR2.alloc (Obj.cells #[.int .i64 m.kind, .string m.user, .int .u64 (m.el.1 : Int), .int .u64 (m.el.2.1 : Int), .bool m.el.2.2, .int .u64 (m.ot.1 : Int), .int .u64 (m.ot.2.1 : Int), .bool m.ot.2.2, .string m.nonce, .string m.box, .string m.mac, .int .i64 m.code] 27)
  have hZ3 := Bk.new W2 27 #[.int .i64 m.kind, .string m.user, .int .u64 (m.el.1 : Int), .int .u64 (m.el.2.1 : Int), .bool m.el.2.2, .int .u64 (m.ot.1 : Int), .int .u64 (m.ot.2.1 : Int), .bool m.ot.2.2, .string m.nonce, .string m.box, .string m.mac, .int .i64 m.code]
  have hB3 := hB2.alloc hB2.size (Obj.cells #[.int .i64 m.kind, .string m.user, .int .u64 (m.el.1 : Int), .int .u64 (m.el.2.1 : Int), .bool m.el.2.2, .int .u64 (m.ot.1 : Int), .int .u64 (m.ot.2.1 : Int), .bool m.ot.2.2, .string m.nonce, .string m.box, .string m.mac, .int .i64 m.code] 27)
  obtain ⟨W3, hW3⟩ : ∃ W3, W2.alloc (Obj.cells #[.int .i64 m.kind, .string m.user, .int .u64 (m.el.1 : Int), .int .u64 (m.el.2.1 : Int), .bool m.el.2.2, .int .u64 (m.ot.1 : Int), .int .u64 (m.ot.2.1 : Int), .bool m.ot.2.2, .string m.nonce, .string m.box, .string m.mac, .int .i64 m.code] 27) = W3 := ⟨_, rfl⟩
  rw [hW3] at hR3 hZ3 hB3
  have k3 : W3.cell? ⟨w.heap.size, 0, none⟩ = some (.int .i64 m.kind) := hR3.cell (k := 0) rfl
  simp only [msgL]
  go_enter Tryz.func6, Tryz.ntmps6
  go_wp2_with fail
  refine (FL _).mono ?_
  rintro e w1 ⟨rfl, b1⟩
  replace hR3 := hR3.keep b1
  replace hZ3 := hZ3.keep b1
  replace hB3 := hB3.trans (b1.mono hB3.size)
  have hB2' : w.heap.size ≤ W2.heap.size := hB2.size
  have hne0' : w.heap.size ≠ W2.heap.size := Nat.ne_of_lt hR2.lt
  clear FL b1 hW hW2 hW3 c0 c1 c2 c3 c4 c5 c6 c7 c8 c9 c10 c11 k0 k3 hcv hR2 hR hB hB2 hk8
  obtain ⟨r4, hr4⟩ : ∃ r, r = W2.heap.size := ⟨_, rfl⟩
  obtain ⟨r0, hr0⟩ : ∃ r, r = w.heap.size := ⟨_, rfl⟩
  have hlo : w.heap.size ≤ r4 := by rw [hr4]; exact hB2'
  have hne0 : r0 ≠ r4 := by rw [hr0, hr4]; exact hne0'
  rw [← hr4] at hZ3
  rw [← hr0] at hR3
  simp only [← hr4, ← hr0]
  clear hr4 hr0 hB2' hne0'
  obtain ⟨n, hn⟩ : ∃ n, (flds m.kind).length = n := ⟨_, rfl⟩
  have hn8 : n ≤ 8 := by
    rw [← hn]
    rcases kind_cases hk with h | h | h | h | h | h | h | h <;> (rw [h]; decide)
  have hls : (ltB (flds m.kind)).size = n := (ltB_size _).trans hn
  have hix : Hid (∀ j, j < n → ∃ q, (flds m.kind)[j]? = some q ∧ ∀ hj, (((ltB (flds m.kind))[j]'hj).toNat : Int) = ((ltN q : Nat) : Int)) := fun j hj =>
    ⟨(flds m.kind)[j]'(by omega), List.getElem?_eq_getElem (by omega), fun h => ltB_at _ _ _ (List.getElem?_eq_getElem (by omega)) h⟩
  generalize ltB (flds m.kind) = LB at *
  go_wp2
  go_loopw [3, 6] (fun ov iv wr => ∃ j : Nat, j ≤ n ∧ iv = .int .i64 (j : Int) ∧ ov = .string (byB m.kind ++ cat m ((flds m.kind).take j)) ∧ Bk wr 27 r0 (msgL m).toArray ∧ Bk wr 27 r4 (msgL (((flds m.kind).take j).foldl wo m)).toArray ∧ Hid (((flds m.kind).take j).all (fok m) = true) ∧ Below w.heap.size w wr) (fun _ i _ => n - (intOf i).toNat)
  case atStart => exact ⟨0, by omega, rfl, by rw [List.take_zero]; show Value.string _ = .string (byB m.kind ++ (⟨#[]⟩ : ByteArray)); rw [app0]; rfl, hR3, hZ3, rfl, hB3⟩
  case round =>
    clear hR3 hZ3 hB3
    obtain ⟨j, hj, rfl, rfl, hRj, hZj, hal, hBj⟩ := hrel
    by_cases hlt : j < n
    · have hli : (j : Int) < (LB.size : Int) := by omega
      obtain ⟨q, hq, hxq⟩ := hix.out j hlt
      have hjl : j < LB.size := by omega
      have htk : byB m.kind ++ cat m ((flds m.kind).take (j + 1)) = byB m.kind ++ cat m ((flds m.kind).take j) ++ fld m q := by
        rw [List.take_add_one, hq, ByteArray.append_assoc, ← cat_snoc]; rfl
      have htw : ((flds m.kind).take (j + 1)).foldl wo m = wo (((flds m.kind).take j).foldl wo m) q := by
        rw [List.take_add_one, hq, List.foldl_append]; rfl
      have hta : ((flds m.kind).take (j + 1)).all (fok m) = (((flds m.kind).take j).all (fok m) && fok m q) := by
        rw [List.take_add_one, hq, List.all_append]; simp
      have hzz := cat_take m (flds m.kind) (j + 1)
      have hza := hf.all
      have hz2 : (byB m.kind ++ cat m ((flds m.kind).take j)).size + (fld m q).size ≤ 9223372036854775807 := by
        have h1 := congrArg ByteArray.size htk
        rw [ByteArray.size_append, ByteArray.size_append] at h1
        have h2 : (byB m.kind).size = 1 := by unfold byB; rw [strOfNums_size]; rfl
        omega
      obtain ⟨tj, htj⟩ : ∃ tj, Hid (tj = byB m.kind ++ cat m ((flds m.kind).take j)) := ⟨_, rfl⟩
      rw [← htj.out] at hz2 ⊢
      obtain ⟨r, hr⟩ : ∃ r, Hid (r = ((flds m.kind).take j).foldl wo m) := ⟨_, rfl⟩
      rw [← hr.out] at hZj
      clear hzz hza
      go_wp2
      refine G.pool_list (W := wr) [] [.val (.agg (msgL m).toArray),
          .val (.string LB),
          .val (.int .i64 (j : Int)),
          .val (.int .u8 ((ltN q : Nat) : Int)),
          .val (.tuple #[.string (fld m q), .bool (fok m q)]),
          .val (.tuple #[.string (fld m q), .bool (fok m q)]),
          .val (.string (fld m q)),
          .val (.bool (fok m q)),
          .val (.string (fld m q)),
          .val (.bool (fok m q))] [[1], [5], [6], [34, 35], [33, 36], [37], [32], [32], [38], [39]] (fun f => [(some 33, .agg (msgL m).toArray), (some 34, .string LB), (some 35, .int .i64 (j : Int)), (some 36, .int .u8 ((ltN q : Nat) : Int)), (some 37, .tuple #[.string (fld m q), .bool (fok m q)]), (some 32, .tuple #[.string (fld m q), .bool (fok m q)]), (some 38, .string (fld m q)), (some 39, .bool (fok m q)), (some 7, .string (fld m q)), (some 8, .bool (fok m q))]) (by kernel_rfl) (by kernel_rfl) (by kernel_rfl) (by kernel_rfl) (fun _ => by kernel_rfl) (G.last_of [] (fun F R hm => by simp at hm) (fun ob ob' k hm => by simp at hm) (fun b ob ob' hm => by simp at hm)) (fun b ob ob' hm => by simp at hm) ?_ ?_
      · intro ix hix
        match ix, hix with
        | 0, _ => exact G.ob_val [(1, .pointer (some ⟨r0, 0, none⟩))] rfl rfl (fun _ => by kernel_rfl) (fun A w ⟨e0, _⟩ hB => L.ldM e0 (sideBk hB hRj) rfl)
        | 1, _ => exact G.ob_val [(5, .string LB)] rfl rfl (fun _ => by kernel_rfl) (fun A w ⟨e0, _⟩ hB => L.move e0)
        | 2, _ => exact G.ob_val [(6, .int .i64 (j : Int))] rfl rfl (fun _ => by kernel_rfl) (fun A w ⟨e0, _⟩ hB => L.move e0)
        | 3, _ => exact G.ob_val [(34, .string LB), (35, .int .i64 (j : Int))] rfl rfl (fun _ => by kernel_rfl) (fun A w ⟨e0, e1, _⟩ hB => L.ixS e0 e1 hjl (hxq hjl))
        | 4, _ => exact G.ob_val [(33, .agg (msgL m).toArray), (36, .int .u8 ((ltN q : Nat) : Int))] rfl rfl (fun _ => by kernel_rfl) (fun A w ⟨e0, e1, _⟩ hB => L.cl2 cf7e e0 e1 (fd_any q m w hf.us))
        | 5, _ => exact G.ob_val [(37, .tuple #[.string (fld m q), .bool (fok m q)])] rfl rfl (fun _ => by kernel_rfl) (fun A w ⟨e0, _⟩ hB => L.move e0)
        | 6, _ => exact G.ob_val [(32, .tuple #[.string (fld m q), .bool (fok m q)])] rfl rfl (fun _ => by kernel_rfl) (fun A w ⟨e0, _⟩ hB => L.xt0 e0)
        | 7, _ => exact G.ob_val [(32, .tuple #[.string (fld m q), .bool (fok m q)])] rfl rfl (fun _ => by kernel_rfl) (fun A w ⟨e0, _⟩ hB => L.xt1 e0)
        | 8, _ => exact G.ob_val [(38, .string (fld m q))] rfl rfl (fun _ => by kernel_rfl) (fun A w ⟨e0, _⟩ hB => L.assign e0)
        | 9, _ => exact G.ob_val [(39, .bool (fok m q))] rfl rfl (fun _ => by kernel_rfl) (fun A w ⟨e0, _⟩ hB => L.assign e0)
        | ix + 10, h => exact absurd h (by simp)
      intro f W4 hS y1 y2 y3 y4
      have b4 : Below wr.heap.size wr W4 := (Below.refl _ wr).drew.trans hS.below
      replace hRj := hRj.keep b4
      replace hZj := hZj.keep b4
      replace hBj := hBj.trans (b4.mono hBj.size)
      clear hS b4 y1 y2 y3 y4
      simp only [puts, List.foldl, Act.put, List.setIfInBounds_toArray, List.set_cons_zero, List.set_cons_succ]
      cases hfk : fok m q with
      | false =>
        have hpm : putM m = ⟨#[]⟩ := by
          unfold putM
          rw [if_neg]
          intro h
          have h3 := List.all_eq_true.1 (okM_iff.1 h).2.1 q (List.mem_of_getElem? hq)
          rw [hfk] at h3
          cases h3
        go_wp2
        go_ret
        exact ⟨by rw [hpm]; rfl, hBj⟩
      | true =>
        go_wp2
        refine G.pool_prT (W := W4) [] 5 [.val (.agg (msgL r).toArray),
            .val (.string LB),
            .val (.int .i64 (j : Int)),
            .val (.int .u8 ((ltN q : Nat) : Int)),
            .val (.agg (msgL (wo r q)).toArray)] [[4], [5], [6], [46, 47], [45, 48], [4, 49]] (fun f => [(some 45, .agg (msgL r).toArray), (some 46, .string LB), (some 47, .int .i64 (j : Int)), (some 48, .int .u8 ((ltN q : Nat) : Int)), (some 49, .agg (msgL (wo r q)).toArray)]) (by kernel_rfl) (by kernel_rfl) (by kernel_rfl) (by kernel_rfl) (by decide) (by kernel_rfl) (fun _ => by kernel_rfl) (G.last_of [] (fun F R hm => by simp at hm) (fun ob ob' k hm => by simp at hm) (fun b ob ob' hm => by simp at hm)) (fun b ob ob' hm => by simp at hm) ?_ ?_
        · intro ix hix
          match ix, hix with
          | 0, _ => exact G.ob_val [(4, .pointer (some ⟨r4, 0, none⟩))] rfl rfl (fun _ => by kernel_rfl) (fun A w ⟨e0, _⟩ hB => L.ldM e0 (sideBk hB hZj) rfl)
          | 1, _ => exact G.ob_val [(5, .string LB)] rfl rfl (fun _ => by kernel_rfl) (fun A w ⟨e0, _⟩ hB => L.move e0)
          | 2, _ => exact G.ob_val [(6, .int .i64 (j : Int))] rfl rfl (fun _ => by kernel_rfl) (fun A w ⟨e0, _⟩ hB => L.move e0)
          | 3, _ => exact G.ob_val [(46, .string LB), (47, .int .i64 (j : Int))] rfl rfl (fun _ => by kernel_rfl) (fun A w ⟨e0, e1, _⟩ hB => L.ixS e0 e1 hjl (hxq hjl))
          | 4, _ => exact G.ob_val [(45, .agg (msgL r).toArray), (48, .int .u8 ((ltN q : Nat) : Int))] rfl rfl (fun _ => by kernel_rfl) (fun A w ⟨e0, e1, _⟩ hB => L.cl2 cf7f e0 e1 (wo_any q r w))
          | ix + 5, h => exact absurd h (by omega)
        intro f2 W5 hS y1 y2 y3 fuel hfuel
        have b5 : Below W4.heap.size W4 W5 := (Below.refl _ W4).drew.trans hS.below
        replace hRj := hRj.keep b5
        replace hZj := hZj.keep b5
        replace hBj := hBj.trans (b5.mono hBj.size)
        clear hS b5 y1 y2 y3
        simp only [puts, List.foldl, Act.put, List.setIfInBounds_toArray, List.set_cons_zero, List.set_cons_succ]
        refine last_do1 5 hfuel (by kernel_rfl) (by kernel_rfl) rfl rfl ?_
        refine fun Q K hK => L.puA (cs := (msgL (wo r q)).toArray) rfl rfl hZj rfl sizeMsg (oneMsg _) Q K (fun v w' hT => hK v w' ?_)
        have hZ6 : Bk w' 27 r4 (msgL (wo r q)).toArray := hT.self
        have hg : W5.grownBy w' (some r4) := ⟨hT.os, hT.tape, hT.output, by rw [hT.size]; exact Nat.le_refl _, fun k _ hk => hT.other k (fun e => hk (by rw [e]))⟩
        have hR6 := hRj.keptBy hg (by simpa using hne0)
        have hB6 := belowG hBj hg hlo hBj.size
        clear hT hg hRj hZj hBj
        go_wp2
        go_round
        case rel => exact ⟨j + 1, by omega, by go_num, by rw [htk, htj.out], hR6, by rw [htw, ← hr.out]; exact hZ6, by show _ = true; rw [hta, hal.out, hfk]; rfl, hB6⟩
        case measure => simp [intOf]; omega
    · obtain rfl : j = n := by omega
      have hli : (LB.size : Int) ≤ (j : Int) := by omega
      rw [List.take_of_length_le (by omega)] at hal hZj ⊢
      obtain ⟨r, hr⟩ : ∃ r, Hid (r = (flds m.kind).foldl wo m) := ⟨_, rfl⟩
      rw [← hr.out] at hZj
      obtain ⟨tj, htj⟩ : ∃ tj, Hid (tj = byB m.kind ++ cat m (flds m.kind)) := ⟨_, rfl⟩
      rw [← htj.out]
      have k0 : wr.cell? ⟨r0, 0, none⟩ = some (.int .i64 m.kind) := hRj.cell (k := 0) rfl
      have c0 : wr.cell? ⟨r4, 0, none⟩ = some (.int .i64 r.kind) := hZj.cell (k := 0) rfl
      have c1 : wr.cell? ⟨r4, 1, none⟩ = some (.string r.user) := hZj.cell (k := 1) rfl
      have c2 : wr.cell? ⟨r4, 2, none⟩ = some (.int .u64 (r.el.1 : Int)) := hZj.cell (k := 2) rfl
      have c3 : wr.cell? ⟨r4, 3, none⟩ = some (.int .u64 (r.el.2.1 : Int)) := hZj.cell (k := 3) rfl
      have c4 : wr.cell? ⟨r4, 4, none⟩ = some (.bool r.el.2.2) := hZj.cell (k := 4) rfl
      have c5 : wr.cell? ⟨r4, 5, none⟩ = some (.int .u64 (r.ot.1 : Int)) := hZj.cell (k := 5) rfl
      have c6 : wr.cell? ⟨r4, 6, none⟩ = some (.int .u64 (r.ot.2.1 : Int)) := hZj.cell (k := 6) rfl
      have c7 : wr.cell? ⟨r4, 7, none⟩ = some (.bool r.ot.2.2) := hZj.cell (k := 7) rfl
      have c8 : wr.cell? ⟨r4, 8, none⟩ = some (.string r.nonce) := hZj.cell (k := 8) rfl
      have c9 : wr.cell? ⟨r4, 9, none⟩ = some (.string r.box) := hZj.cell (k := 9) rfl
      have c10 : wr.cell? ⟨r4, 10, none⟩ = some (.string r.mac) := hZj.cell (k := 10) rfl
      have c11 : wr.cell? ⟨r4, 11, none⟩ = some (.int .i64 r.code) := hZj.cell (k := 11) rfl
      have hqq : ∀ w, (Go.binOp .neq 27 (.agg #[.int .i64 r.kind, .string r.user, .int .u64 (r.el.1 : Int), .int .u64 (r.el.2.1 : Int), .bool r.el.2.2, .int .u64 (r.ot.1 : Int), .int .u64 (r.ot.2.1 : Int), .bool r.ot.2.2, .string r.nonce, .string r.box, .string r.mac, .int .i64 r.code]) (.agg #[.int .i64 m.kind, .string ⟨#[]⟩, .int .u64 0, .int .u64 0, .bool false, .int .u64 0, .int .u64 0, .bool false, .string ⟨#[]⟩, .string ⟨#[]⟩, .string ⟨#[]⟩, .int .i64 0])).run Tryz.prog w = .ok (.bool (!decide (r = { kind := m.kind }))) w := fun w => neqM r { kind := m.kind } w
      by_cases hd : r = { kind := m.kind }
      · rw [decide_eq_true hd] at hqq
        have hpm : putM m = tj := by
          unfold putM
          rw [if_pos (okM_iff.2 ⟨hk, hal.out, by rw [← hr.out]; exact hd⟩), htj.out]
        clear hd hr htj hix
        go_wp2
        go_ret
        exact ⟨by rw [hpm]; rfl, hBj⟩
      · rw [decide_eq_false hd] at hqq
        have hpm : putM m = ⟨#[]⟩ := by
          unfold putM
          rw [if_neg]
          intro h
          exact hd (by rw [hr.out]; exact (okM_iff.1 h).2.2)
        clear hd hr htj hix
        go_wp2
        go_ret
        exact ⟨by rw [hpm]; rfl, hBj⟩
theorem pmS (m : Msg) (w : World) (hf : Fits m) :
    Calls Tryz.prog 6 #[.agg (msgL m).toArray] w fun e w' => e = .returned (.string (putM m)) ∧ Below w.heap.size w w' := by
  by_cases hk : kindB m.kind = true
  · exact pmS_yes m w hf hk
  · rw [Bool.not_eq_true] at hk
    exact pmS_no m w hk
end Go.Proofs.YtdaobioomoajfaaGreat
namespace Go.Proofs.YtdaobioomoajfaaGreat
open Go.RowKit
structure Sml (L : Nat) (m : Msg) : Prop where
  k0 : 0 ≤ m.kind
  k1 : m.kind < 256
  c0 : 0 ≤ m.code
  c1 : m.code < 256
  us : m.user.size ≤ L
  no : m.nonce.size ≤ L
  bo : m.box.size ≤ L
  ma : m.mac.size ≤ L
theorem bt_lt (s : ByteArray) (i : Nat) : bt s i < 256 := by unfold bt; exact UInt8.toNat_lt _
theorem Sml.set {L : Nat} {m : Msg} (h : Sml L m) {t : ByteArray} (ht : t.size ≤ L) (q : Lt) : Sml L (setS m t q) := by
  have hb := bt_lt t 0
  cases q with
  | u => exact ⟨h.k0, h.k1, h.c0, h.c1, (by show (t.extract 2 t.size).size ≤ L; rw [ByteArray.size_extract]; omega), h.no, h.bo, h.ma⟩
  | e => exact ⟨h.k0, h.k1, h.c0, h.c1, h.us, h.no, h.bo, h.ma⟩
  | o => exact ⟨h.k0, h.k1, h.c0, h.c1, h.us, h.no, h.bo, h.ma⟩
  | n => exact ⟨h.k0, h.k1, h.c0, h.c1, h.us, ht, h.bo, h.ma⟩
  | b => exact ⟨h.k0, h.k1, h.c0, h.c1, h.us, h.no, ht, h.ma⟩
  | m => exact ⟨h.k0, h.k1, h.c0, h.c1, h.us, h.no, h.bo, ht⟩
  | c => exact ⟨h.k0, h.k1, (by show (0 : Int) ≤ (bt t 0 : Int); omega), (by show (bt t 0 : Int) < 256; omega), h.us, h.no, h.bo, h.ma⟩
theorem Sml.fld {L : Nat} {m : Msg} (h : Sml L m) (q : Lt) : (fld m q).size ≤ L + 8 := by
  have h1 := h.us
  have h2 := h.no
  have h3 := h.bo
  have h4 := h.ma
  cases q with
  | u => show (sizB m.user).size ≤ L + 8; rw [sizB_size]; omega
  | e => show (ptM m.el).size ≤ L + 8; unfold ptM; rw [ptX_size]; omega
  | o => show (ptM m.ot).size ≤ L + 8; unfold ptM; rw [ptX_size]; omega
  | n => show m.nonce.size ≤ L + 8; omega
  | b => show m.box.size ≤ L + 8; omega
  | m => show m.mac.size ≤ L + 8; omega
  | c => show (byB m.code).size ≤ L + 8; unfold byB; rw [strOfNums_size]; simp
theorem Sml.cat {L : Nat} {m : Msg} (h : Sml L m) : ∀ l : List Lt, (cat m l).size ≤ l.length * (L + 8)
  | [] => Nat.zero_le _
  | q :: l => by
    have h1 := h.fld q
    have h2 := h.cat l
    show (Go.Proofs.YtdaobioomoajfaaGreat.fld m q ++ Go.Proofs.YtdaobioomoajfaaGreat.cat m l).size ≤ (l.length + 1) * (L + 8)
    rw [ByteArray.size_append, Nat.add_mul, Nat.one_mul]
    omega
theorem flds_le (k : Int) : (flds k).length ≤ 5 := by
  unfold flds
  split
  · next h =>
    rcases kind_cases h with h | h | h | h | h | h | h | h <;> (rw [h]; decide)
  · exact Nat.zero_le _
theorem Sml.fits {L : Nat} {m : Msg} (h : Sml L m) (hL : L ≤ 1048576) : Fits m := by
  have h0 := h.k0
  have h1 := h.k1
  have h2 := h.c0
  have h3 := h.c1
  have h4 := h.us
  have h5 := h.cat (flds m.kind)
  have h6 := Nat.mul_le_mul_right (L + 8) (flds_le m.kind)
  exact ⟨by omega, by omega, by omega, by omega, by omega, by omega⟩
theorem goS_step (s : ByteArray) (F : List Lt) (j : Nat) (q : Lt) (r : Msg) (i : Nat) (hq : F[j]? = some q) : goS s (F.drop j) r i = if s.size < i + szS s i q then none else goS s (F.drop (j + 1)) (setS r (s.extract i (i + szS s i q)) q) (i + szS s i q) := by
  obtain ⟨hj, he⟩ := List.getElem?_eq_some_iff.1 hq
  rw [List.drop_eq_getElem_cons hj, he, goS]
end Go.Proofs.YtdaobioomoajfaaGreat
