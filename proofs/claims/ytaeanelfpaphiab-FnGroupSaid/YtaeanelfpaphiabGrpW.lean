import Derived.Test.YtaeanelfpaphiabDrwR
import Derived.Test.YtaeanelfpaphiabKeyW
import Derived.Test.YtaeanelfpaphiabExeL
namespace Go.Proofs.Ytaeanelfpaphiab
open Go.RowKit M
set_option linter.unusedVariables false

theorem g_addI (args : Array Value) (w : World) : (callFunc 33 args).run Try.prog w = .ok (.enter 33 args) w := by kernel_rfl
theorem g_addS (args : Array Value) (w : World) : (callFunc 34 args).run Try.prog w = .ok (.enter 34 args) w := by kernel_rfl
theorem g_negI (args : Array Value) (w : World) : (callFunc 36 args).run Try.prog w = .ok (.enter 36 args) w := by kernel_rfl
theorem g_timI (args : Array Value) (w : World) : (callFunc 10 args).run Try.prog w = .ok (.enter 10 args) w := by kernel_rfl
theorem g_timS (args : Array Value) (w : World) : (callFunc 8 args).run Try.prog w = .ok (.enter 8 args) w := by kernel_rfl
theorem g_mul (args : Array Value) (w : World) : (callFunc 16 args).run Try.prog w = .ok (.enter 16 args) w := by kernel_rfl
theorem g_onI (args : Array Value) (w : World) : (callFunc 37 args).run Try.prog w = .ok (.enter 37 args) w := by kernel_rfl

/-- a point's own fields -/
theorem own_pt : ∀ {p : Pt}, on p → ∃ x y : Nat, px p = x ∧ py p = y ∧ toPt x y (pb p) = some p
  | none, _ => ⟨0, 0, rfl, rfl, by unfold toPt; rw [if_pos (show pb none = true from rfl), if_pos ⟨rfl, rfl⟩]⟩
  | some (X, Y), h => ⟨X.val, Y.val, rfl, rfl, toPt_self h⟩
def PtC (F : FuncId) (args : Array Value) (p : Pt) : Prop := ∀ w : World, Calls Try.prog F args w fun e w' => e = .returned (.agg #[.int .u64 (px p), .int .u64 (py p), .bool (pb p)]) ∧ Below w.heap.size w w'
def BoC (F : FuncId) (args : Array Value) (b : Bool) : Prop := ∀ w : World, Calls Try.prog F args w fun e w' => e = .returned (.bool b) ∧ Below w.heap.size w w'
theorem addW {p q r : Pt} (hp : on p) (hq : on q) (hr : ad p q = r) : PtC 33 #[.agg #[.int .u64 (px p), .int .u64 (py p), .bool (pb p)], .agg #[.int .u64 (px q), .int .u64 (py q), .bool (pb q)]] r := fun w => by
  obtain ⟨x, y, ex, ey, h1⟩ := own_pt hp
  obtain ⟨u, v, eu, ev, h2⟩ := own_pt hq
  have := addI_any x y (pb p) u v (pb q) w
  unfold adPt at this
  rw [h1, h2, if_pos ⟨rfl, rfl⟩, asPt_some h1, asPt_some h2, hr, ptW_eq, ← ex, ← ey, ← eu, ← ev] at this
  exact this
theorem addSW {p q r : Pt} (hp : on p) (hq : on q) (hr : ad p q = r) : PtC 34 #[.agg #[.int .u64 (px p), .int .u64 (py p), .bool (pb p)], .agg #[.int .u64 (px q), .int .u64 (py q), .bool (pb q)]] r := fun w => by
  obtain ⟨x, y, ex, ey, h1⟩ := own_pt hp
  obtain ⟨u, v, eu, ev, h2⟩ := own_pt hq
  have := addS_any x y (pb p) u v (pb q) w
  unfold adPt at this
  rw [h1, h2, if_pos ⟨rfl, rfl⟩, asPt_some h1, asPt_some h2, hr, ptW_eq, ← ex, ← ey, ← eu, ← ev] at this
  exact this
theorem negW {p r : Pt} (hp : on p) (hr : ng p = r) : PtC 36 #[.agg #[.int .u64 (px p), .int .u64 (py p), .bool (pb p)]] r := fun w => by
  obtain ⟨x, y, ex, ey, h1⟩ := own_pt hp
  have := negI_any x y (pb p) w
  rw [asPt_some h1, hr, ptW_eq, ← ex, ← ey] at this
  exact this
theorem timW {p r : Pt} (k : Nat) (hk : k < 18446744073709551616) (hp : on p) (hr : nt k p = r) : PtC 10 #[.int .u64 (k : Int), .agg #[.int .u64 (px p), .int .u64 (py p), .bool (pb p)]] r := fun w => by
  obtain ⟨x, y, ex, ey, h1⟩ := own_pt hp
  have := timI_pt k x y (pb p) w hk
  rw [asPt_some h1, hr, ptW_eq, ← ex, ← ey] at this
  exact this
theorem timSW {p r : Pt} (k : Nat) (hk : k < 18446744073709551616) (hp : on p) (hr : nt k p = r) : PtC 8 #[.int .u64 (k : Int), .agg #[.int .u64 (px p), .int .u64 (py p), .bool (pb p)]] r := fun w => by
  obtain ⟨x, y, ex, ey, h1⟩ := own_pt hp
  have := timS_any k x y (pb p) w hk
  rw [asPt_some h1, hr, ptW_eq, ← ex, ← ey] at this
  exact this
theorem onW {p : Pt} (hp : on p) : BoC 37 #[.agg #[.int .u64 (px p), .int .u64 (py p), .bool (pb p)]] true := fun w => by
  obtain ⟨x, y, ex, ey, h1⟩ := own_pt hp
  have := onI_any x y (pb p) w
  rw [h1, ← ex, ← ey] at this
  exact this
theorem onSW {p : Pt} (hp : on p) : BoC 29 #[.agg #[.int .u64 (px p), .int .u64 (py p), .bool (pb p)]] true := fun w => by
  obtain ⟨x, y, ex, ey, h1⟩ := own_pt hp
  have := onS_any x y (pb p) w
  rw [h1, ← ex, ← ey] at this
  exact this

set_option maxRecDepth 100000 in
set_option maxHeartbeats 16000000 in
theorem groupW (q1 : Option Addr) (l1 k1 : Nat) (q2 : Option Addr) (l2 k2 : Nat) (w : World) (hv1 : Cod w (.slice q1 l1 k1)) (hv2 : Cod w (.slice q2 l2 k2)) (hl1 : l1 ≤ 1048576) (hl2 : l2 ≤ 1048576)
    (T1 : Calls Try.prog 31 #[.slice q1 l1 k1] w fun e w' => (∃ (x y : Nat) (c : Bool) (x' y' : Nat) (c' : Bool), x < 18446744073709551616 ∧ y < 18446744073709551616 ∧ x' < 18446744073709551616 ∧ y' < 18446744073709551616 ∧ e = .returned (.tuple #[.agg #[.int .u64 x, .int .u64 y, .bool c], .agg #[.int .u64 x', .int .u64 y', .bool c']])) ∧ Below w.heap.size w w') :
    Calls Try.prog 7 #[.slice q1 l1 k1, .slice q2 l2 k2] w fun e w' => e = .returned (.bool true) ∧ Below w.heap.size w w' := by
  have T2 := fun w hv => dtim_any (.slice q2 l2 k2) w hv
  have TK := fun w hv => wkey_any (.slice q2 l2 k2) w hv
  have hm1 : (l1 : Int) ≤ 1048576 := by omega
  have hm2 : (l2 : Int) ≤ 1048576 := by omega
  go_enter Try.func7, Try.ntmps7
  go_wp2_with fail
  refine T1.mono ?_
  rintro e w1 ⟨⟨x1, y1, c1, x2, y2, c2, -, -, -, -, rfl⟩, hb⟩
  have hv3 := ((hv2.below hb).below ((Below.refl w1.heap.size w1).alloc (Nat.le_refl _) (Obj.cells #[.int .u64 x1, .int .u64 y1, .bool c1] 25))).below ((Below.refl _ _).alloc (Nat.le_refl _) (Obj.cells #[.int .u64 x2, .int .u64 y2, .bool c2] 25))
  have n5 := (K3.new w1 25 x1 y1 c1).alloc (Obj.cells #[.int .u64 x2, .int .u64 y2, .bool c2] 25)
  have n6 := (K3.new (w1.alloc (Obj.cells #[.int .u64 x1, .int .u64 y1, .bool c1] 25)) 25 x2 y2 c2).at (b' := w1.heap.size + 1) (by simp)
  replace hb := hb.alloc hb.size (Obj.cells #[.int .u64 x1, .int .u64 y1, .bool c1] 25)
  replace hb := hb.alloc hb.size (Obj.cells #[.int .u64 x2, .int .u64 y2, .bool c2] 25)
  clear T1 hl1 hl2 hv1 hv2
  go_wp2_with fail
  refine (T2 _ hv3).mono ?_
  rintro e w2 ⟨⟨k, x3, y3, c3, hk, -, -, rfl⟩, b2⟩
  replace n5 := (n5.keep b2).alloc (Obj.cells #[.int .u64 x3, .int .u64 y3, .bool c3] 25)
  replace n6 := (n6.keep b2).alloc (Obj.cells #[.int .u64 x3, .int .u64 y3, .bool c3] 25)
  have n8 := K3.new w2 25 x3 y3 c3
  replace hv3 := (hv3.below b2).below ((Below.refl w2.heap.size w2).alloc (Nat.le_refl _) (Obj.cells #[.int .u64 x3, .int .u64 y3, .bool c3] 25))
  replace hb := keepB hb hb.size b2
  replace hb := hb.alloc hb.size (Obj.cells #[.int .u64 x3, .int .u64 y3, .bool c3] 25)
  clear T2 b2
  have r5 := n5.c0
  have r5b := n5.c1
  have r5c := n5.c2
  cases h1 : toPt x1 y1 c1 with
  | none =>
    have O1 := onS_any x1 y1 c1
    rw [h1] at O1
    simp only [Option.isSome_none] at O1
    clear TK h1 hm1 hm2
    have AI := addI_any x1 y1 c1 x2 y2 c2
    have AS := addS_any x1 y1 c1 x2 y2 c2
    have TI := fun w => timI_pt k x3 y3 c3 w hk
    have TS := fun w => timS_any k x3 y3 c3 w hk
    rw [ptW_eq] at AI AS TI TS
    generalize px (adPt x1 y1 c1 x2 y2 c2) = X at *
    generalize py (adPt x1 y1 c1 x2 y2 c2) = Y at *
    generalize pb (adPt x1 y1 c1 x2 y2 c2) = C at *
    generalize px (nt k (asPt x3 y3 c3)) = U at *
    generalize py (nt k (asPt x3 y3 c3)) = V at *
    generalize pb (nt k (asPt x3 y3 c3)) = D at *
    go_wp2_with fail
    refine (O1 _).mono ?_
    rintro e v0 ⟨rfl, b4⟩
    replace n5 := n5.keep b4
    replace n6 := n6.keep b4
    replace n8 := n8.keep b4
    replace hv3 := hv3.below b4
    replace hb := keepB hb hb.size b4
    clear b4  O1
    go_wp2
    refine pool_list [.val (.agg #[.int .u64 (x1 : Int), .int .u64 (y1 : Int), .bool c1]),
      .val (.agg #[.int .u64 (x2 : Int), .int .u64 (y2 : Int), .bool c2]),
      .val (.agg #[.int .u64 X, .int .u64 Y, .bool C]),
      .val (.agg #[.int .u64 (x1 : Int), .int .u64 (y1 : Int), .bool c1]),
      .val (.agg #[.int .u64 (x2 : Int), .int .u64 (y2 : Int), .bool c2]),
      .val (.agg #[.int .u64 X, .int .u64 Y, .bool C]),
      .val (.bool true),
      .val (.bool true),
      .val (.int .u64 (k : Int)),
      .val (.agg #[.int .u64 (x3 : Int), .int .u64 (y3 : Int), .bool c3]),
      .val (.agg #[.int .u64 U, .int .u64 V, .bool D]),
      .val (.int .u64 (k : Int)),
      .val (.agg #[.int .u64 (x3 : Int), .int .u64 (y3 : Int), .bool c3]),
      .val (.agg #[.int .u64 U, .int .u64 V, .bool D]),
      .val (.bool true),
      .val (.bool true),
      .val (.bool true)] [[5], [6], [45, 46], [5], [6], [48, 49], [47, 50], [51], [7], [8], [53, 54], [7], [8], [56, 57], [55, 58], [52, 59], [60]] (fun f => [(some 45, .agg #[.int .u64 (x1 : Int), .int .u64 (y1 : Int), .bool c1]), (some 46, .agg #[.int .u64 (x2 : Int), .int .u64 (y2 : Int), .bool c2]), (some 47, .agg #[.int .u64 X, .int .u64 Y, .bool C]), (some 48, .agg #[.int .u64 (x1 : Int), .int .u64 (y1 : Int), .bool c1]), (some 49, .agg #[.int .u64 (x2 : Int), .int .u64 (y2 : Int), .bool c2]), (some 50, .agg #[.int .u64 X, .int .u64 Y, .bool C]), (some 51, .bool true), (some 52, .bool true), (some 53, .int .u64 (k : Int)), (some 54, .agg #[.int .u64 (x3 : Int), .int .u64 (y3 : Int), .bool c3]), (some 55, .agg #[.int .u64 U, .int .u64 V, .bool D]), (some 56, .int .u64 (k : Int)), (some 57, .agg #[.int .u64 (x3 : Int), .int .u64 (y3 : Int), .bool c3]), (some 58, .agg #[.int .u64 U, .int .u64 V, .bool D]), (some 59, .bool true), (some 60, .bool true), (some 4, .bool true)]) (by kernel_rfl) (by kernel_rfl) (by kernel_rfl) (by kernel_rfl) (fun _ => by kernel_rfl) ?_ ?_
    · intro ix hix
      match ix, hix with
      | 0, _ => exact ob_val [(5, .pointer (some ⟨w1.heap.size, 0, none⟩))] rfl rfl (fun _ => by kernel_rfl) (fun A w ⟨e0, _⟩ hB => do_loadP e0 n5.drew hB)
      | 1, _ => exact ob_val [(6, .pointer (some ⟨w1.heap.size + 1, 0, none⟩))] rfl rfl (fun _ => by kernel_rfl) (fun A w ⟨e0, _⟩ hB => do_loadP e0 n6.drew hB)
      | 2, _ => exact ob_val [(45, .agg #[.int .u64 (x1 : Int), .int .u64 (y1 : Int), .bool c1]), (46, .agg #[.int .u64 (x2 : Int), .int .u64 (y2 : Int), .bool c2])] rfl rfl (fun _ => by kernel_rfl) (fun A w ⟨e0, e1, _⟩ hB => do_call2 g_addI e0 e1 (AI w))
      | 3, _ => exact ob_val [(5, .pointer (some ⟨w1.heap.size, 0, none⟩))] rfl rfl (fun _ => by kernel_rfl) (fun A w ⟨e0, _⟩ hB => do_loadP e0 n5.drew hB)
      | 4, _ => exact ob_val [(6, .pointer (some ⟨w1.heap.size + 1, 0, none⟩))] rfl rfl (fun _ => by kernel_rfl) (fun A w ⟨e0, _⟩ hB => do_loadP e0 n6.drew hB)
      | 5, _ => exact ob_val [(48, .agg #[.int .u64 (x1 : Int), .int .u64 (y1 : Int), .bool c1]), (49, .agg #[.int .u64 (x2 : Int), .int .u64 (y2 : Int), .bool c2])] rfl rfl (fun _ => by kernel_rfl) (fun A w ⟨e0, e1, _⟩ hB => do_call2 g_addS e0 e1 (AS w))
      | 6, _ => exact ob_val [(47, .agg #[.int .u64 X, .int .u64 Y, .bool C]), (50, .agg #[.int .u64 X, .int .u64 Y, .bool C])] rfl rfl (fun _ => by kernel_rfl) (fun A w ⟨e0, e1, _⟩ hB => do_eqP e0 e1)
      | 7, _ => exact ob_val [(51, .bool true)] rfl rfl (fun _ => by kernel_rfl) (fun A w ⟨e0, _⟩ hB => do_move e0)
      | 8, _ => exact ob_val [(7, .int .u64 (k : Int))] rfl rfl (fun _ => by kernel_rfl) (fun A w ⟨e0, _⟩ hB => do_move e0)
      | 9, _ => exact ob_val [(8, .pointer (some ⟨w2.heap.size, 0, none⟩))] rfl rfl (fun _ => by kernel_rfl) (fun A w ⟨e0, _⟩ hB => do_loadP e0 n8.drew hB)
      | 10, _ => exact ob_val [(53, .int .u64 (k : Int)), (54, .agg #[.int .u64 (x3 : Int), .int .u64 (y3 : Int), .bool c3])] rfl rfl (fun _ => by kernel_rfl) (fun A w ⟨e0, e1, _⟩ hB => do_call2 g_timI e0 e1 (TI w))
      | 11, _ => exact ob_val [(7, .int .u64 (k : Int))] rfl rfl (fun _ => by kernel_rfl) (fun A w ⟨e0, _⟩ hB => do_move e0)
      | 12, _ => exact ob_val [(8, .pointer (some ⟨w2.heap.size, 0, none⟩))] rfl rfl (fun _ => by kernel_rfl) (fun A w ⟨e0, _⟩ hB => do_loadP e0 n8.drew hB)
      | 13, _ => exact ob_val [(56, .int .u64 (k : Int)), (57, .agg #[.int .u64 (x3 : Int), .int .u64 (y3 : Int), .bool c3])] rfl rfl (fun _ => by kernel_rfl) (fun A w ⟨e0, e1, _⟩ hB => do_call2 g_timS e0 e1 (TS w))
      | 14, _ => exact ob_val [(55, .agg #[.int .u64 U, .int .u64 V, .bool D]), (58, .agg #[.int .u64 U, .int .u64 V, .bool D])] rfl rfl (fun _ => by kernel_rfl) (fun A w ⟨e0, e1, _⟩ hB => do_eqP e0 e1)
      | 15, _ => exact ob_val [(52, .bool true), (59, .bool true)] rfl rfl (fun _ => by kernel_rfl) (fun A w ⟨e0, e1, _⟩ hB => do_pickT e0 e1)
      | 16, _ => exact ob_val [(60, .bool true)] rfl rfl (fun _ => by kernel_rfl) (fun A w ⟨e0, _⟩ hB => do_assign e0)
      | ix + 17, h => exact absurd h (by simp)
    intro f w9 hB _ _
    replace hb := keepB hb.drew hb.size hB
    simp only [puts, List.foldl, Act.put, List.setIfInBounds_toArray, List.set_cons_zero, List.set_cons_succ]
    go_wp2
    go_ret
    exact ⟨rfl, hb⟩
  | some p =>
    cases h2 : toPt x2 y2 c2 with
    | none =>
      have O1 := onS_any x1 y1 c1
      rw [h1] at O1
      have O2 := onS_any x2 y2 c2
      rw [h2] at O2
      simp only [Option.isSome_none, Option.isSome_some] at O1 O2
      clear TK h1 h2 hm1 hm2
      have AI := addI_any x1 y1 c1 x2 y2 c2
      have AS := addS_any x1 y1 c1 x2 y2 c2
      have TI := fun w => timI_pt k x3 y3 c3 w hk
      have TS := fun w => timS_any k x3 y3 c3 w hk
      rw [ptW_eq] at AI AS TI TS
      generalize px (adPt x1 y1 c1 x2 y2 c2) = X at *
      generalize py (adPt x1 y1 c1 x2 y2 c2) = Y at *
      generalize pb (adPt x1 y1 c1 x2 y2 c2) = C at *
      generalize px (nt k (asPt x3 y3 c3)) = U at *
      generalize py (nt k (asPt x3 y3 c3)) = V at *
      generalize pb (nt k (asPt x3 y3 c3)) = D at *
      go_wp2_with fail
      refine (O1 _).mono ?_
      rintro e v0 ⟨rfl, b4⟩
      replace n5 := n5.keep b4
      replace n6 := n6.keep b4
      replace n8 := n8.keep b4
      replace hv3 := hv3.below b4
      replace hb := keepB hb hb.size b4
      clear b4  O1
      have d0 := n6.c0
      have d1 := n6.c1
      have d2 := n6.c2
      go_wp2_with fail
      refine (O2 _).mono ?_
      rintro e v1 ⟨rfl, b4⟩
      replace n5 := n5.keep b4
      replace n6 := n6.keep b4
      replace n8 := n8.keep b4
      replace hv3 := hv3.below b4
      replace hb := keepB hb hb.size b4
      clear b4 d0 d1 d2 O2
      go_wp2
      refine pool_list [.val (.agg #[.int .u64 (x1 : Int), .int .u64 (y1 : Int), .bool c1]),
        .val (.agg #[.int .u64 (x2 : Int), .int .u64 (y2 : Int), .bool c2]),
        .val (.agg #[.int .u64 X, .int .u64 Y, .bool C]),
        .val (.agg #[.int .u64 (x1 : Int), .int .u64 (y1 : Int), .bool c1]),
        .val (.agg #[.int .u64 (x2 : Int), .int .u64 (y2 : Int), .bool c2]),
        .val (.agg #[.int .u64 X, .int .u64 Y, .bool C]),
        .val (.bool true),
        .val (.bool true),
        .val (.int .u64 (k : Int)),
        .val (.agg #[.int .u64 (x3 : Int), .int .u64 (y3 : Int), .bool c3]),
        .val (.agg #[.int .u64 U, .int .u64 V, .bool D]),
        .val (.int .u64 (k : Int)),
        .val (.agg #[.int .u64 (x3 : Int), .int .u64 (y3 : Int), .bool c3]),
        .val (.agg #[.int .u64 U, .int .u64 V, .bool D]),
        .val (.bool true),
        .val (.bool true),
        .val (.bool true)] [[5], [6], [45, 46], [5], [6], [48, 49], [47, 50], [51], [7], [8], [53, 54], [7], [8], [56, 57], [55, 58], [52, 59], [60]] (fun f => [(some 45, .agg #[.int .u64 (x1 : Int), .int .u64 (y1 : Int), .bool c1]), (some 46, .agg #[.int .u64 (x2 : Int), .int .u64 (y2 : Int), .bool c2]), (some 47, .agg #[.int .u64 X, .int .u64 Y, .bool C]), (some 48, .agg #[.int .u64 (x1 : Int), .int .u64 (y1 : Int), .bool c1]), (some 49, .agg #[.int .u64 (x2 : Int), .int .u64 (y2 : Int), .bool c2]), (some 50, .agg #[.int .u64 X, .int .u64 Y, .bool C]), (some 51, .bool true), (some 52, .bool true), (some 53, .int .u64 (k : Int)), (some 54, .agg #[.int .u64 (x3 : Int), .int .u64 (y3 : Int), .bool c3]), (some 55, .agg #[.int .u64 U, .int .u64 V, .bool D]), (some 56, .int .u64 (k : Int)), (some 57, .agg #[.int .u64 (x3 : Int), .int .u64 (y3 : Int), .bool c3]), (some 58, .agg #[.int .u64 U, .int .u64 V, .bool D]), (some 59, .bool true), (some 60, .bool true), (some 4, .bool true)]) (by kernel_rfl) (by kernel_rfl) (by kernel_rfl) (by kernel_rfl) (fun _ => by kernel_rfl) ?_ ?_
      · intro ix hix
        match ix, hix with
        | 0, _ => exact ob_val [(5, .pointer (some ⟨w1.heap.size, 0, none⟩))] rfl rfl (fun _ => by kernel_rfl) (fun A w ⟨e0, _⟩ hB => do_loadP e0 n5.drew hB)
        | 1, _ => exact ob_val [(6, .pointer (some ⟨w1.heap.size + 1, 0, none⟩))] rfl rfl (fun _ => by kernel_rfl) (fun A w ⟨e0, _⟩ hB => do_loadP e0 n6.drew hB)
        | 2, _ => exact ob_val [(45, .agg #[.int .u64 (x1 : Int), .int .u64 (y1 : Int), .bool c1]), (46, .agg #[.int .u64 (x2 : Int), .int .u64 (y2 : Int), .bool c2])] rfl rfl (fun _ => by kernel_rfl) (fun A w ⟨e0, e1, _⟩ hB => do_call2 g_addI e0 e1 (AI w))
        | 3, _ => exact ob_val [(5, .pointer (some ⟨w1.heap.size, 0, none⟩))] rfl rfl (fun _ => by kernel_rfl) (fun A w ⟨e0, _⟩ hB => do_loadP e0 n5.drew hB)
        | 4, _ => exact ob_val [(6, .pointer (some ⟨w1.heap.size + 1, 0, none⟩))] rfl rfl (fun _ => by kernel_rfl) (fun A w ⟨e0, _⟩ hB => do_loadP e0 n6.drew hB)
        | 5, _ => exact ob_val [(48, .agg #[.int .u64 (x1 : Int), .int .u64 (y1 : Int), .bool c1]), (49, .agg #[.int .u64 (x2 : Int), .int .u64 (y2 : Int), .bool c2])] rfl rfl (fun _ => by kernel_rfl) (fun A w ⟨e0, e1, _⟩ hB => do_call2 g_addS e0 e1 (AS w))
        | 6, _ => exact ob_val [(47, .agg #[.int .u64 X, .int .u64 Y, .bool C]), (50, .agg #[.int .u64 X, .int .u64 Y, .bool C])] rfl rfl (fun _ => by kernel_rfl) (fun A w ⟨e0, e1, _⟩ hB => do_eqP e0 e1)
        | 7, _ => exact ob_val [(51, .bool true)] rfl rfl (fun _ => by kernel_rfl) (fun A w ⟨e0, _⟩ hB => do_move e0)
        | 8, _ => exact ob_val [(7, .int .u64 (k : Int))] rfl rfl (fun _ => by kernel_rfl) (fun A w ⟨e0, _⟩ hB => do_move e0)
        | 9, _ => exact ob_val [(8, .pointer (some ⟨w2.heap.size, 0, none⟩))] rfl rfl (fun _ => by kernel_rfl) (fun A w ⟨e0, _⟩ hB => do_loadP e0 n8.drew hB)
        | 10, _ => exact ob_val [(53, .int .u64 (k : Int)), (54, .agg #[.int .u64 (x3 : Int), .int .u64 (y3 : Int), .bool c3])] rfl rfl (fun _ => by kernel_rfl) (fun A w ⟨e0, e1, _⟩ hB => do_call2 g_timI e0 e1 (TI w))
        | 11, _ => exact ob_val [(7, .int .u64 (k : Int))] rfl rfl (fun _ => by kernel_rfl) (fun A w ⟨e0, _⟩ hB => do_move e0)
        | 12, _ => exact ob_val [(8, .pointer (some ⟨w2.heap.size, 0, none⟩))] rfl rfl (fun _ => by kernel_rfl) (fun A w ⟨e0, _⟩ hB => do_loadP e0 n8.drew hB)
        | 13, _ => exact ob_val [(56, .int .u64 (k : Int)), (57, .agg #[.int .u64 (x3 : Int), .int .u64 (y3 : Int), .bool c3])] rfl rfl (fun _ => by kernel_rfl) (fun A w ⟨e0, e1, _⟩ hB => do_call2 g_timS e0 e1 (TS w))
        | 14, _ => exact ob_val [(55, .agg #[.int .u64 U, .int .u64 V, .bool D]), (58, .agg #[.int .u64 U, .int .u64 V, .bool D])] rfl rfl (fun _ => by kernel_rfl) (fun A w ⟨e0, e1, _⟩ hB => do_eqP e0 e1)
        | 15, _ => exact ob_val [(52, .bool true), (59, .bool true)] rfl rfl (fun _ => by kernel_rfl) (fun A w ⟨e0, e1, _⟩ hB => do_pickT e0 e1)
        | 16, _ => exact ob_val [(60, .bool true)] rfl rfl (fun _ => by kernel_rfl) (fun A w ⟨e0, _⟩ hB => do_assign e0)
        | ix + 17, h => exact absurd h (by simp)
      intro f w9 hB _ _
      replace hb := keepB hb.drew hb.size hB
      simp only [puts, List.foldl, Act.put, List.setIfInBounds_toArray, List.set_cons_zero, List.set_cons_succ]
      go_wp2
      go_ret
      exact ⟨rfl, hb⟩
    | some q =>
      cases h3 : toPt x3 y3 c3 with
      | none =>
        have O1 := onS_any x1 y1 c1
        rw [h1] at O1
        have O2 := onS_any x2 y2 c2
        rw [h2] at O2
        have O3 := onS_any x3 y3 c3
        rw [h3] at O3
        simp only [Option.isSome_none, Option.isSome_some] at O1 O2 O3
        clear TK h1 h2 h3 hm1 hm2
        have AI := addI_any x1 y1 c1 x2 y2 c2
        have AS := addS_any x1 y1 c1 x2 y2 c2
        have TI := fun w => timI_pt k x3 y3 c3 w hk
        have TS := fun w => timS_any k x3 y3 c3 w hk
        rw [ptW_eq] at AI AS TI TS
        generalize px (adPt x1 y1 c1 x2 y2 c2) = X at *
        generalize py (adPt x1 y1 c1 x2 y2 c2) = Y at *
        generalize pb (adPt x1 y1 c1 x2 y2 c2) = C at *
        generalize px (nt k (asPt x3 y3 c3)) = U at *
        generalize py (nt k (asPt x3 y3 c3)) = V at *
        generalize pb (nt k (asPt x3 y3 c3)) = D at *
        go_wp2_with fail
        refine (O1 _).mono ?_
        rintro e v0 ⟨rfl, b4⟩
        replace n5 := n5.keep b4
        replace n6 := n6.keep b4
        replace n8 := n8.keep b4
        replace hv3 := hv3.below b4
        replace hb := keepB hb hb.size b4
        clear b4  O1
        have d0 := n6.c0
        have d1 := n6.c1
        have d2 := n6.c2
        go_wp2_with fail
        refine (O2 _).mono ?_
        rintro e v1 ⟨rfl, b4⟩
        replace n5 := n5.keep b4
        replace n6 := n6.keep b4
        replace n8 := n8.keep b4
        replace hv3 := hv3.below b4
        replace hb := keepB hb hb.size b4
        clear b4 d0 d1 d2 O2
        have e0 := n8.c0
        have e1 := n8.c1
        have e2 := n8.c2
        go_wp2_with fail
        refine (O3 _).mono ?_
        rintro e v2 ⟨rfl, b4⟩
        replace n5 := n5.keep b4
        replace n6 := n6.keep b4
        replace n8 := n8.keep b4
        replace hv3 := hv3.below b4
        replace hb := keepB hb hb.size b4
        clear b4 e0 e1 e2 O3
        go_wp2
        refine pool_list [.val (.agg #[.int .u64 (x1 : Int), .int .u64 (y1 : Int), .bool c1]),
          .val (.agg #[.int .u64 (x2 : Int), .int .u64 (y2 : Int), .bool c2]),
          .val (.agg #[.int .u64 X, .int .u64 Y, .bool C]),
          .val (.agg #[.int .u64 (x1 : Int), .int .u64 (y1 : Int), .bool c1]),
          .val (.agg #[.int .u64 (x2 : Int), .int .u64 (y2 : Int), .bool c2]),
          .val (.agg #[.int .u64 X, .int .u64 Y, .bool C]),
          .val (.bool true),
          .val (.bool true),
          .val (.int .u64 (k : Int)),
          .val (.agg #[.int .u64 (x3 : Int), .int .u64 (y3 : Int), .bool c3]),
          .val (.agg #[.int .u64 U, .int .u64 V, .bool D]),
          .val (.int .u64 (k : Int)),
          .val (.agg #[.int .u64 (x3 : Int), .int .u64 (y3 : Int), .bool c3]),
          .val (.agg #[.int .u64 U, .int .u64 V, .bool D]),
          .val (.bool true),
          .val (.bool true),
          .val (.bool true)] [[5], [6], [45, 46], [5], [6], [48, 49], [47, 50], [51], [7], [8], [53, 54], [7], [8], [56, 57], [55, 58], [52, 59], [60]] (fun f => [(some 45, .agg #[.int .u64 (x1 : Int), .int .u64 (y1 : Int), .bool c1]), (some 46, .agg #[.int .u64 (x2 : Int), .int .u64 (y2 : Int), .bool c2]), (some 47, .agg #[.int .u64 X, .int .u64 Y, .bool C]), (some 48, .agg #[.int .u64 (x1 : Int), .int .u64 (y1 : Int), .bool c1]), (some 49, .agg #[.int .u64 (x2 : Int), .int .u64 (y2 : Int), .bool c2]), (some 50, .agg #[.int .u64 X, .int .u64 Y, .bool C]), (some 51, .bool true), (some 52, .bool true), (some 53, .int .u64 (k : Int)), (some 54, .agg #[.int .u64 (x3 : Int), .int .u64 (y3 : Int), .bool c3]), (some 55, .agg #[.int .u64 U, .int .u64 V, .bool D]), (some 56, .int .u64 (k : Int)), (some 57, .agg #[.int .u64 (x3 : Int), .int .u64 (y3 : Int), .bool c3]), (some 58, .agg #[.int .u64 U, .int .u64 V, .bool D]), (some 59, .bool true), (some 60, .bool true), (some 4, .bool true)]) (by kernel_rfl) (by kernel_rfl) (by kernel_rfl) (by kernel_rfl) (fun _ => by kernel_rfl) ?_ ?_
        · intro ix hix
          match ix, hix with
          | 0, _ => exact ob_val [(5, .pointer (some ⟨w1.heap.size, 0, none⟩))] rfl rfl (fun _ => by kernel_rfl) (fun A w ⟨e0, _⟩ hB => do_loadP e0 n5.drew hB)
          | 1, _ => exact ob_val [(6, .pointer (some ⟨w1.heap.size + 1, 0, none⟩))] rfl rfl (fun _ => by kernel_rfl) (fun A w ⟨e0, _⟩ hB => do_loadP e0 n6.drew hB)
          | 2, _ => exact ob_val [(45, .agg #[.int .u64 (x1 : Int), .int .u64 (y1 : Int), .bool c1]), (46, .agg #[.int .u64 (x2 : Int), .int .u64 (y2 : Int), .bool c2])] rfl rfl (fun _ => by kernel_rfl) (fun A w ⟨e0, e1, _⟩ hB => do_call2 g_addI e0 e1 (AI w))
          | 3, _ => exact ob_val [(5, .pointer (some ⟨w1.heap.size, 0, none⟩))] rfl rfl (fun _ => by kernel_rfl) (fun A w ⟨e0, _⟩ hB => do_loadP e0 n5.drew hB)
          | 4, _ => exact ob_val [(6, .pointer (some ⟨w1.heap.size + 1, 0, none⟩))] rfl rfl (fun _ => by kernel_rfl) (fun A w ⟨e0, _⟩ hB => do_loadP e0 n6.drew hB)
          | 5, _ => exact ob_val [(48, .agg #[.int .u64 (x1 : Int), .int .u64 (y1 : Int), .bool c1]), (49, .agg #[.int .u64 (x2 : Int), .int .u64 (y2 : Int), .bool c2])] rfl rfl (fun _ => by kernel_rfl) (fun A w ⟨e0, e1, _⟩ hB => do_call2 g_addS e0 e1 (AS w))
          | 6, _ => exact ob_val [(47, .agg #[.int .u64 X, .int .u64 Y, .bool C]), (50, .agg #[.int .u64 X, .int .u64 Y, .bool C])] rfl rfl (fun _ => by kernel_rfl) (fun A w ⟨e0, e1, _⟩ hB => do_eqP e0 e1)
          | 7, _ => exact ob_val [(51, .bool true)] rfl rfl (fun _ => by kernel_rfl) (fun A w ⟨e0, _⟩ hB => do_move e0)
          | 8, _ => exact ob_val [(7, .int .u64 (k : Int))] rfl rfl (fun _ => by kernel_rfl) (fun A w ⟨e0, _⟩ hB => do_move e0)
          | 9, _ => exact ob_val [(8, .pointer (some ⟨w2.heap.size, 0, none⟩))] rfl rfl (fun _ => by kernel_rfl) (fun A w ⟨e0, _⟩ hB => do_loadP e0 n8.drew hB)
          | 10, _ => exact ob_val [(53, .int .u64 (k : Int)), (54, .agg #[.int .u64 (x3 : Int), .int .u64 (y3 : Int), .bool c3])] rfl rfl (fun _ => by kernel_rfl) (fun A w ⟨e0, e1, _⟩ hB => do_call2 g_timI e0 e1 (TI w))
          | 11, _ => exact ob_val [(7, .int .u64 (k : Int))] rfl rfl (fun _ => by kernel_rfl) (fun A w ⟨e0, _⟩ hB => do_move e0)
          | 12, _ => exact ob_val [(8, .pointer (some ⟨w2.heap.size, 0, none⟩))] rfl rfl (fun _ => by kernel_rfl) (fun A w ⟨e0, _⟩ hB => do_loadP e0 n8.drew hB)
          | 13, _ => exact ob_val [(56, .int .u64 (k : Int)), (57, .agg #[.int .u64 (x3 : Int), .int .u64 (y3 : Int), .bool c3])] rfl rfl (fun _ => by kernel_rfl) (fun A w ⟨e0, e1, _⟩ hB => do_call2 g_timS e0 e1 (TS w))
          | 14, _ => exact ob_val [(55, .agg #[.int .u64 U, .int .u64 V, .bool D]), (58, .agg #[.int .u64 U, .int .u64 V, .bool D])] rfl rfl (fun _ => by kernel_rfl) (fun A w ⟨e0, e1, _⟩ hB => do_eqP e0 e1)
          | 15, _ => exact ob_val [(52, .bool true), (59, .bool true)] rfl rfl (fun _ => by kernel_rfl) (fun A w ⟨e0, e1, _⟩ hB => do_pickT e0 e1)
          | 16, _ => exact ob_val [(60, .bool true)] rfl rfl (fun _ => by kernel_rfl) (fun A w ⟨e0, _⟩ hB => do_assign e0)
          | ix + 17, h => exact absurd h (by simp)
        intro f w9 hB _ _
        replace hb := keepB hb.drew hb.size hB
        simp only [puts, List.foldl, Act.put, List.setIfInBounds_toArray, List.set_cons_zero, List.set_cons_succ]
        go_wp2
        go_ret
        exact ⟨rfl, hb⟩
      | some r =>
        obtain ⟨e1, e2, e3⟩ := fields_of h1
        obtain ⟨e4, e5, e6⟩ := fields_of h2
        obtain ⟨e7, e8, e9⟩ := fields_of h3
        have hp := toPt_on h1
        have hq := toPt_on h2
        have hr := toPt_on h3
        subst e3 e6 e9
        rw [e1, e2, e4, e5, e7, e8]
        rw [e1, e2, e7, e8] at n5
        rw [e4, e5, e7, e8] at n6
        rw [e7, e8] at n8 hb hv3
        clear e1 e2 e4 e5 e7 e8 h1 h2 h3
        have O1 := onSW hp
        have O2 := onSW hq
        have O3 := onSW hr
        obtain ⟨kk, hkk⟩ : ∃ kk : Nat, kk = k % 2305843010818082053 := ⟨_, rfl⟩
        have ek : (k : Int) % 2305843010818082053 = (kk : Int) := by rw [hkk]; rfl
        have hkk1 : kk < 2305843010818082053 := by rw [hkk]; exact Nat.mod_lt _ (by decide)
        clear hkk hk
        have hkk2 : kk < 18446744073709551616 := Nat.lt_trans hkk1 (by decide)
        obtain ⟨ab, hab⟩ : ∃ ab, ad p q = ab := ⟨_, rfl⟩
        obtain ⟨bc, hbc⟩ : ∃ bc, ad q r = bc := ⟨_, rfl⟩
        obtain ⟨abc, habc⟩ : ∃ abc, ad ab r = abc := ⟨_, rfl⟩
        obtain ⟨na, hna⟩ : ∃ na, ng p = na := ⟨_, rfl⟩
        obtain ⟨kc, hkc⟩ : ∃ kc, nt kk r = kc := ⟨_, rfl⟩
        have onab : on ab := hab ▸ ad_on hp hq
        have onbc : on bc := hbc ▸ ad_on hq hr
        have onna : on na := hna ▸ ng_on hp
        have onkc : on kc := hkc ▸ nt_on hr kk
        have AI := addW hp hq hab
        have AS := addSW hp hq hab
        have BA := addW (r := ab) hq hp (by rw [ad_comm hq hp, hab])
        have C1 := addW onab hr habc
        have BC := addW hq hr hbc
        have C2 := addW (r := abc) hp onbc (by rw [← hbc, ← ad_assoc hp hq hr, hab, habc])
        have NA := negW hp hna
        have AN := addW hp onna (by rw [← hna, ad_ng hp] : ad p na = none)
        have KI := timW kk hkk2 hr hkc
        have KS := timSW kk hkk2 hr hkc
        have NZ := timW 2305843010818082053 (by decide) hr (nt_N hr)
        have OAB := onW onab
        have OKC := onW onkc
        unfold PtC at AI AS BA C1 BC C2 NA AN KI KS NZ
        unfold BoC at OAB OKC O1 O2 O3
        clear r5 r5b r5c
        have c0 := n5.c0
        have c1 := n5.c1
        have c2 := n5.c2
        go_wp2_with fail
        refine (O1 _).mono ?_
        rintro e v0 ⟨rfl, b4⟩
        replace n5 := n5.keep b4
        replace n6 := n6.keep b4
        replace n8 := n8.keep b4
        replace hv3 := hv3.below b4
        replace hb := keepB hb hb.size b4
        clear b4 O1 c0 c1 c2
        have d0 := n6.c0
        have d1 := n6.c1
        have d2 := n6.c2
        go_wp2_with fail
        refine (O2 _).mono ?_
        rintro e v1 ⟨rfl, b4⟩
        replace n5 := n5.keep b4
        replace n6 := n6.keep b4
        replace n8 := n8.keep b4
        replace hv3 := hv3.below b4
        replace hb := keepB hb hb.size b4
        clear b4 O2 d0 d1 d2
        have e0 := n8.c0
        have e1 := n8.c1
        have e2 := n8.c2
        go_wp2_with fail
        refine (O3 _).mono ?_
        rintro e v2 ⟨rfl, b4⟩
        replace n5 := n5.keep b4
        replace n6 := n6.keep b4
        replace n8 := n8.keep b4
        replace hv3 := hv3.below b4
        replace hb := keepB hb hb.size b4
        clear b4 O3 e0 e1 e2
        go_wp2_with fail
        refine (TK _ hv3).mono ?_
        rintro e v3 ⟨⟨j, hj, rfl⟩, rfl⟩
        clear TK hv3
        have hj2 : j < 18446744073709551616 := Nat.lt_trans hj (by decide)
        obtain ⟨m, hm⟩ : ∃ m : Nat, m = j * kk % 2305843010818082053 := ⟨_, rfl⟩
        have hm1 : m < 18446744073709551616 := by rw [hm]; exact Nat.lt_trans (Nat.mod_lt _ (by decide)) (by decide)
        have MM : ∀ w, Calls Try.prog 16 #[.int .u64 (j : Int), .int .u64 (kk : Int), .int .u64 2305843010818082053] w fun e w' => e = .returned (.int .u64 (m : Int)) ∧ Below w.heap.size w w' := by
          intro w
          rw [hm]
          refine (mulS_any j kk 2305843010818082053 w hj2 hkk2 (by decide) (by decide)).mono ?_
          rintro e w' ⟨rfl, rfl⟩
          exact ⟨rfl, Below.refl _ _⟩
        obtain ⟨jkc, hjkc⟩ : ∃ jkc, nt j kc = jkc := ⟨_, rfl⟩
        obtain ⟨jc, hjc⟩ : ∃ jc, nt j r = jc := ⟨_, rfl⟩
        obtain ⟨sc, hsc⟩ : ∃ sc, ad jc kc = sc := ⟨_, rfl⟩
        have onjc : on jc := hjc ▸ nt_on hr j
        have JK := timW j hj2 onkc hjkc
        have TM := timW (r := jkc) m hm1 hr (by rw [← hjkc, ← hkc, nt_mul hr, hm, nt_mod hr])
        have TJ := timW j hj2 hr hjc
        have AJ := addW onjc onkc hsc
        obtain ⟨s, hs0, hs1⟩ : ∃ s : Nat, s < 2305843010818082053 ∧ ((s = kk + j ∧ kk + j < 2305843010818082053) ∨ (s + 2305843010818082053 = kk + j)) := by
          by_cases h : kk + j < 2305843010818082053
          · exact ⟨kk + j, h, .inl ⟨rfl, h⟩⟩
          · exact ⟨kk + j - 2305843010818082053, by omega, .inr (by omega)⟩
        have TS := timW (r := sc) s (Nat.lt_trans hs0 (by decide)) hr (by
          rw [← hsc, ← hjc, ← hkc, ← nt_add hr]
          rcases hs1 with ⟨h, -⟩ | h
          · rw [h, Nat.add_comm]
          · rw [Nat.add_comm j kk, ← h, nt_add hr, nt_N hr, ad_o])
        unfold PtC at JK TM TJ AJ TS
        clear hab hbc habc hna hkc hjkc hjc hsc hm onab onbc onna onkc onjc hp hq hr hm1
        have c0 := n5.c0
        have c1 := n5.c1
        have c2 := n5.c2
        have d0 := n6.c0
        have d1 := n6.c1
        have d2 := n6.c2
        go_wp2_with fail
        refine (AI _).mono ?_
        rintro e w7 ⟨rfl, b4⟩
        replace n5 := n5.keep b4
        replace n6 := n6.keep b4
        replace n8 := n8.keep b4
        replace hb := keepB hb hb.size b4
        clear b4 c0 c1 c2 d0 d1 d2
        replace n5 := (n5.alloc (Obj.cells #[.int .u64 (px ab), .int .u64 (py ab), .bool (pb ab)] 25)).alloc (Obj.cells #[.int .u64 0, .int .u64 0, .bool true] 25)
        replace n6 := (n6.alloc (Obj.cells #[.int .u64 (px ab), .int .u64 (py ab), .bool (pb ab)] 25)).alloc (Obj.cells #[.int .u64 0, .int .u64 0, .bool true] 25)
        replace n8 := (n8.alloc (Obj.cells #[.int .u64 (px ab), .int .u64 (py ab), .bool (pb ab)] 25)).alloc (Obj.cells #[.int .u64 0, .int .u64 0, .bool true] 25)
        have n10 := (K3.new w7 25 (px ab) (py ab) (pb ab)).alloc (Obj.cells #[.int .u64 0, .int .u64 0, .bool true] 25)
        have n11 := (K3.new (w7.alloc (Obj.cells #[.int .u64 (px ab), .int .u64 (py ab), .bool (pb ab)] 25)) 25 0 0 true).at (b' := w7.heap.size + 1) (by simp)
        replace hb := hb.alloc hb.size (Obj.cells #[.int .u64 (px ab), .int .u64 (py ab), .bool (pb ab)] 25)
        replace hb := hb.alloc hb.size (Obj.cells #[.int .u64 0, .int .u64 0, .bool true] 25)
        go_wp2
        replace n11 : K3 _ _ _ (px none) (py none) (pb none) := n11
        refine pool_list [.val (.agg #[.int .u64 (px ab), .int .u64 (py ab), .bool (pb ab)]),
          .val (.agg #[.int .u64 (px p), .int .u64 (py p), .bool (pb p)]),
          .val (.agg #[.int .u64 (px q), .int .u64 (py q), .bool (pb q)]),
          .val (.agg #[.int .u64 (px ab), .int .u64 (py ab), .bool (pb ab)]),
          .val (.bool false),
          .val (.bool false),
          .val (.agg #[.int .u64 (px ab), .int .u64 (py ab), .bool (pb ab)]),
          .val (.agg #[.int .u64 (px q), .int .u64 (py q), .bool (pb q)]),
          .val (.agg #[.int .u64 (px p), .int .u64 (py p), .bool (pb p)]),
          .val (.agg #[.int .u64 (px ab), .int .u64 (py ab), .bool (pb ab)]),
          .val (.bool false),
          .val (.bool false),
          .val (.bool false),
          .val (.agg #[.int .u64 (px ab), .int .u64 (py ab), .bool (pb ab)]),
          .val (.agg #[.int .u64 (px r), .int .u64 (py r), .bool (pb r)]),
          .val (.agg #[.int .u64 (px abc), .int .u64 (py abc), .bool (pb abc)]),
          .val (.agg #[.int .u64 (px p), .int .u64 (py p), .bool (pb p)]),
          .val (.agg #[.int .u64 (px q), .int .u64 (py q), .bool (pb q)]),
          .val (.agg #[.int .u64 (px r), .int .u64 (py r), .bool (pb r)]),
          .val (.agg #[.int .u64 (px bc), .int .u64 (py bc), .bool (pb bc)]),
          .val (.agg #[.int .u64 (px abc), .int .u64 (py abc), .bool (pb abc)]),
          .val (.bool false),
          .val (.bool false),
          .val (.bool false),
          .val (.agg #[.int .u64 (px p), .int .u64 (py p), .bool (pb p)]),
          .val (.agg #[.int .u64 (px p), .int .u64 (py p), .bool (pb p)]),
          .val (.agg #[.int .u64 (px na), .int .u64 (py na), .bool (pb na)]),
          .val (.agg #[.int .u64 (px none), .int .u64 (py none), .bool (pb none)]),
          .val (.agg #[.int .u64 (px none), .int .u64 (py none), .bool (pb none)]),
          .val (.bool false),
          .val (.bool false)] [[10], [5], [6], [70, 71], [69, 72], [73], [10], [6], [5], [76, 77], [75, 78], [74, 79], [80], [10], [8], [82, 83], [5], [6], [8], [86, 87], [85, 88], [84, 89], [81, 90], [91], [5], [5], [94], [93, 95], [11], [96, 97], [92, 98]] (fun f => [(some 69, .agg #[.int .u64 (px ab), .int .u64 (py ab), .bool (pb ab)]), (some 70, .agg #[.int .u64 (px p), .int .u64 (py p), .bool (pb p)]), (some 71, .agg #[.int .u64 (px q), .int .u64 (py q), .bool (pb q)]), (some 72, .agg #[.int .u64 (px ab), .int .u64 (py ab), .bool (pb ab)]), (some 73, .bool false), (some 74, .bool false), (some 75, .agg #[.int .u64 (px ab), .int .u64 (py ab), .bool (pb ab)]), (some 76, .agg #[.int .u64 (px q), .int .u64 (py q), .bool (pb q)]), (some 77, .agg #[.int .u64 (px p), .int .u64 (py p), .bool (pb p)]), (some 78, .agg #[.int .u64 (px ab), .int .u64 (py ab), .bool (pb ab)]), (some 79, .bool false), (some 80, .bool false), (some 81, .bool false), (some 82, .agg #[.int .u64 (px ab), .int .u64 (py ab), .bool (pb ab)]), (some 83, .agg #[.int .u64 (px r), .int .u64 (py r), .bool (pb r)]), (some 84, .agg #[.int .u64 (px abc), .int .u64 (py abc), .bool (pb abc)]), (some 85, .agg #[.int .u64 (px p), .int .u64 (py p), .bool (pb p)]), (some 86, .agg #[.int .u64 (px q), .int .u64 (py q), .bool (pb q)]), (some 87, .agg #[.int .u64 (px r), .int .u64 (py r), .bool (pb r)]), (some 88, .agg #[.int .u64 (px bc), .int .u64 (py bc), .bool (pb bc)]), (some 89, .agg #[.int .u64 (px abc), .int .u64 (py abc), .bool (pb abc)]), (some 90, .bool false), (some 91, .bool false), (some 92, .bool false), (some 93, .agg #[.int .u64 (px p), .int .u64 (py p), .bool (pb p)]), (some 94, .agg #[.int .u64 (px p), .int .u64 (py p), .bool (pb p)]), (some 95, .agg #[.int .u64 (px na), .int .u64 (py na), .bool (pb na)]), (some 96, .agg #[.int .u64 (px none), .int .u64 (py none), .bool (pb none)]), (some 97, .agg #[.int .u64 (px none), .int .u64 (py none), .bool (pb none)]), (some 98, .bool false), (some 99, .bool false)]) (by kernel_rfl) (by kernel_rfl) (by kernel_rfl) (by kernel_rfl) (fun _ => by kernel_rfl) ?_ ?_
        · intro ix hix
          match ix, hix with
          | 0, _ => exact ob_val [(10, .pointer (some ⟨w7.heap.size, 0, none⟩))] rfl rfl (fun _ => by kernel_rfl) (fun A w ⟨e0, _⟩ hB => do_loadP e0 n10.drew hB)
          | 1, _ => exact ob_val [(5, .pointer (some ⟨w1.heap.size, 0, none⟩))] rfl rfl (fun _ => by kernel_rfl) (fun A w ⟨e0, _⟩ hB => do_loadP e0 n5.drew hB)
          | 2, _ => exact ob_val [(6, .pointer (some ⟨w1.heap.size + 1, 0, none⟩))] rfl rfl (fun _ => by kernel_rfl) (fun A w ⟨e0, _⟩ hB => do_loadP e0 n6.drew hB)
          | 3, _ => exact ob_val [(70, .agg #[.int .u64 (px p), .int .u64 (py p), .bool (pb p)]), (71, .agg #[.int .u64 (px q), .int .u64 (py q), .bool (pb q)])] rfl rfl (fun _ => by kernel_rfl) (fun A w ⟨e0, e1, _⟩ hB => do_call2 g_addS e0 e1 (AS w))
          | 4, _ => exact ob_val [(69, .agg #[.int .u64 (px ab), .int .u64 (py ab), .bool (pb ab)]), (72, .agg #[.int .u64 (px ab), .int .u64 (py ab), .bool (pb ab)])] rfl rfl (fun _ => by kernel_rfl) (fun A w ⟨e0, e1, _⟩ hB => do_neP e0 e1)
          | 5, _ => exact ob_val [(73, .bool false)] rfl rfl (fun _ => by kernel_rfl) (fun A w ⟨e0, _⟩ hB => do_move e0)
          | 6, _ => exact ob_val [(10, .pointer (some ⟨w7.heap.size, 0, none⟩))] rfl rfl (fun _ => by kernel_rfl) (fun A w ⟨e0, _⟩ hB => do_loadP e0 n10.drew hB)
          | 7, _ => exact ob_val [(6, .pointer (some ⟨w1.heap.size + 1, 0, none⟩))] rfl rfl (fun _ => by kernel_rfl) (fun A w ⟨e0, _⟩ hB => do_loadP e0 n6.drew hB)
          | 8, _ => exact ob_val [(5, .pointer (some ⟨w1.heap.size, 0, none⟩))] rfl rfl (fun _ => by kernel_rfl) (fun A w ⟨e0, _⟩ hB => do_loadP e0 n5.drew hB)
          | 9, _ => exact ob_val [(76, .agg #[.int .u64 (px q), .int .u64 (py q), .bool (pb q)]), (77, .agg #[.int .u64 (px p), .int .u64 (py p), .bool (pb p)])] rfl rfl (fun _ => by kernel_rfl) (fun A w ⟨e0, e1, _⟩ hB => do_call2 g_addI e0 e1 (BA w))
          | 10, _ => exact ob_val [(75, .agg #[.int .u64 (px ab), .int .u64 (py ab), .bool (pb ab)]), (78, .agg #[.int .u64 (px ab), .int .u64 (py ab), .bool (pb ab)])] rfl rfl (fun _ => by kernel_rfl) (fun A w ⟨e0, e1, _⟩ hB => do_neP e0 e1)
          | 11, _ => exact ob_val [(74, .bool false), (79, .bool false)] rfl rfl (fun _ => by kernel_rfl) (fun A w ⟨e0, e1, _⟩ hB => do_pickF e0 e1)
          | 12, _ => exact ob_val [(80, .bool false)] rfl rfl (fun _ => by kernel_rfl) (fun A w ⟨e0, _⟩ hB => do_move e0)
          | 13, _ => exact ob_val [(10, .pointer (some ⟨w7.heap.size, 0, none⟩))] rfl rfl (fun _ => by kernel_rfl) (fun A w ⟨e0, _⟩ hB => do_loadP e0 n10.drew hB)
          | 14, _ => exact ob_val [(8, .pointer (some ⟨w2.heap.size, 0, none⟩))] rfl rfl (fun _ => by kernel_rfl) (fun A w ⟨e0, _⟩ hB => do_loadP e0 n8.drew hB)
          | 15, _ => exact ob_val [(82, .agg #[.int .u64 (px ab), .int .u64 (py ab), .bool (pb ab)]), (83, .agg #[.int .u64 (px r), .int .u64 (py r), .bool (pb r)])] rfl rfl (fun _ => by kernel_rfl) (fun A w ⟨e0, e1, _⟩ hB => do_call2 g_addI e0 e1 (C1 w))
          | 16, _ => exact ob_val [(5, .pointer (some ⟨w1.heap.size, 0, none⟩))] rfl rfl (fun _ => by kernel_rfl) (fun A w ⟨e0, _⟩ hB => do_loadP e0 n5.drew hB)
          | 17, _ => exact ob_val [(6, .pointer (some ⟨w1.heap.size + 1, 0, none⟩))] rfl rfl (fun _ => by kernel_rfl) (fun A w ⟨e0, _⟩ hB => do_loadP e0 n6.drew hB)
          | 18, _ => exact ob_val [(8, .pointer (some ⟨w2.heap.size, 0, none⟩))] rfl rfl (fun _ => by kernel_rfl) (fun A w ⟨e0, _⟩ hB => do_loadP e0 n8.drew hB)
          | 19, _ => exact ob_val [(86, .agg #[.int .u64 (px q), .int .u64 (py q), .bool (pb q)]), (87, .agg #[.int .u64 (px r), .int .u64 (py r), .bool (pb r)])] rfl rfl (fun _ => by kernel_rfl) (fun A w ⟨e0, e1, _⟩ hB => do_call2 g_addI e0 e1 (BC w))
          | 20, _ => exact ob_val [(85, .agg #[.int .u64 (px p), .int .u64 (py p), .bool (pb p)]), (88, .agg #[.int .u64 (px bc), .int .u64 (py bc), .bool (pb bc)])] rfl rfl (fun _ => by kernel_rfl) (fun A w ⟨e0, e1, _⟩ hB => do_call2 g_addI e0 e1 (C2 w))
          | 21, _ => exact ob_val [(84, .agg #[.int .u64 (px abc), .int .u64 (py abc), .bool (pb abc)]), (89, .agg #[.int .u64 (px abc), .int .u64 (py abc), .bool (pb abc)])] rfl rfl (fun _ => by kernel_rfl) (fun A w ⟨e0, e1, _⟩ hB => do_neP e0 e1)
          | 22, _ => exact ob_val [(81, .bool false), (90, .bool false)] rfl rfl (fun _ => by kernel_rfl) (fun A w ⟨e0, e1, _⟩ hB => do_pickF e0 e1)
          | 23, _ => exact ob_val [(91, .bool false)] rfl rfl (fun _ => by kernel_rfl) (fun A w ⟨e0, _⟩ hB => do_move e0)
          | 24, _ => exact ob_val [(5, .pointer (some ⟨w1.heap.size, 0, none⟩))] rfl rfl (fun _ => by kernel_rfl) (fun A w ⟨e0, _⟩ hB => do_loadP e0 n5.drew hB)
          | 25, _ => exact ob_val [(5, .pointer (some ⟨w1.heap.size, 0, none⟩))] rfl rfl (fun _ => by kernel_rfl) (fun A w ⟨e0, _⟩ hB => do_loadP e0 n5.drew hB)
          | 26, _ => exact ob_val [(94, .agg #[.int .u64 (px p), .int .u64 (py p), .bool (pb p)])] rfl rfl (fun _ => by kernel_rfl) (fun A w ⟨e0, _⟩ hB => do_call1 g_negI e0 (NA w))
          | 27, _ => exact ob_val [(93, .agg #[.int .u64 (px p), .int .u64 (py p), .bool (pb p)]), (95, .agg #[.int .u64 (px na), .int .u64 (py na), .bool (pb na)])] rfl rfl (fun _ => by kernel_rfl) (fun A w ⟨e0, e1, _⟩ hB => do_call2 g_addI e0 e1 (AN w))
          | 28, _ => exact ob_val [(11, .pointer (some ⟨w7.heap.size + 1, 0, none⟩))] rfl rfl (fun _ => by kernel_rfl) (fun A w ⟨e0, _⟩ hB => do_loadP e0 n11.drew hB)
          | 29, _ => exact ob_val [(96, .agg #[.int .u64 (px none), .int .u64 (py none), .bool (pb none)]), (97, .agg #[.int .u64 (px none), .int .u64 (py none), .bool (pb none)])] rfl rfl (fun _ => by kernel_rfl) (fun A w ⟨e0, e1, _⟩ hB => do_neP e0 e1)
          | 30, _ => exact ob_val [(92, .bool false), (98, .bool false)] rfl rfl (fun _ => by kernel_rfl) (fun A w ⟨e0, e1, _⟩ hB => do_pickF e0 e1)
          | ix + 31, h => exact absurd h (by simp)
        intro f w8 hB hN hJ
        clear hN hJ
        replace n8 := (n8.drew).keep hB
        replace n10 := (n10.drew).keep hB
        replace n11 := (n11.drew).keep hB
        replace hb := keepB hb.drew hb.size hB
        clear hB
        simp only [puts, List.foldl, Act.put, List.setIfInBounds_toArray, List.set_cons_zero, List.set_cons_succ]
        clear AI AS BA C1 BC C2 NA AN n5 n6
        have c0 := n8.c0
        have c1 := n8.c1
        have c2 := n8.c2
        go_wp2_with fail
        refine (KI _).mono ?_
        rintro e w9 ⟨rfl, b4⟩
        replace n8 := (n8.keep b4).alloc (Obj.cells #[.int .u64 (px kc), .int .u64 (py kc), .bool (pb kc)] 25)
        replace n10 := (n10.keep b4).alloc (Obj.cells #[.int .u64 (px kc), .int .u64 (py kc), .bool (pb kc)] 25)
        replace n11 := (n11.keep b4).alloc (Obj.cells #[.int .u64 (px kc), .int .u64 (py kc), .bool (pb kc)] 25)
        have n12 := K3.new w9 25 (px kc) (py kc) (pb kc)
        replace hb := keepB hb hb.size b4
        replace hb := hb.alloc hb.size (Obj.cells #[.int .u64 (px kc), .int .u64 (py kc), .bool (pb kc)] 25)
        clear b4 c0 c1 c2 KI
        have ew : IntKind.u64.wrap ((kk : Int) + (j : Int)) = (kk : Int) + (j : Int) := by rw [IntKind.wrap_u64]; omega
        obtain ⟨sI, hsI⟩ : ∃ sI : Int, sI = (s : Int) := ⟨_, rfl⟩
        rw [← hsI] at TS
        rcases hs1 with ⟨hs2, hs3⟩ | hs2
        · have ea : (kk : Int) + (j : Int) = sI := by omega
          have eb : ¬ (2305843010818082053 : Int) ≤ sI := by omega
          rw [ea] at ew
          clear hs2 hs3 hs0 hj hj2 hkk1 hkk2 hsI
          go_wp2
          refine pool_list [.val (.agg #[.int .u64 (px kc), .int .u64 (py kc), .bool (pb kc)]),
            .val (.int .u64 (kk : Int)),
            .val (.agg #[.int .u64 (px r), .int .u64 (py r), .bool (pb r)]),
            .val (.agg #[.int .u64 (px kc), .int .u64 (py kc), .bool (pb kc)]),
            .val (.bool false),
            .val (.bool false),
            .val (.int .u64 (j : Int)),
            .val (.agg #[.int .u64 (px kc), .int .u64 (py kc), .bool (pb kc)]),
            .val (.agg #[.int .u64 (px jkc), .int .u64 (py jkc), .bool (pb jkc)]),
            .val (.int .u64 (j : Int)),
            .val (.int .u64 (kk : Int)),
            .val (.int .u64 (m : Int)),
            .val (.agg #[.int .u64 (px r), .int .u64 (py r), .bool (pb r)]),
            .val (.agg #[.int .u64 (px jkc), .int .u64 (py jkc), .bool (pb jkc)]),
            .val (.bool false),
            .val (.bool false),
            .val (.bool false),
            .val (.int .u64 (j : Int)),
            .val (.agg #[.int .u64 (px r), .int .u64 (py r), .bool (pb r)]),
            .val (.agg #[.int .u64 (px jc), .int .u64 (py jc), .bool (pb jc)]),
            .val (.agg #[.int .u64 (px kc), .int .u64 (py kc), .bool (pb kc)]),
            .val (.agg #[.int .u64 (px sc), .int .u64 (py sc), .bool (pb sc)]),
            .val (.int .u64 sI),
            .val (.agg #[.int .u64 (px r), .int .u64 (py r), .bool (pb r)]),
            .val (.agg #[.int .u64 (px sc), .int .u64 (py sc), .bool (pb sc)]),
            .val (.bool false),
            .val (.bool false)] [[12], [7], [8], [111, 112], [110, 113], [114], [9], [12], [116, 117], [9], [7], [119, 120], [8], [121, 122], [118, 123], [115, 124], [125], [9], [8], [127, 128], [12], [129, 130], [13], [8], [132, 133], [131, 134], [126, 135]] (fun f => [(some 110, .agg #[.int .u64 (px kc), .int .u64 (py kc), .bool (pb kc)]), (some 111, .int .u64 (kk : Int)), (some 112, .agg #[.int .u64 (px r), .int .u64 (py r), .bool (pb r)]), (some 113, .agg #[.int .u64 (px kc), .int .u64 (py kc), .bool (pb kc)]), (some 114, .bool false), (some 115, .bool false), (some 116, .int .u64 (j : Int)), (some 117, .agg #[.int .u64 (px kc), .int .u64 (py kc), .bool (pb kc)]), (some 118, .agg #[.int .u64 (px jkc), .int .u64 (py jkc), .bool (pb jkc)]), (some 119, .int .u64 (j : Int)), (some 120, .int .u64 (kk : Int)), (some 121, .int .u64 (m : Int)), (some 122, .agg #[.int .u64 (px r), .int .u64 (py r), .bool (pb r)]), (some 123, .agg #[.int .u64 (px jkc), .int .u64 (py jkc), .bool (pb jkc)]), (some 124, .bool false), (some 125, .bool false), (some 126, .bool false), (some 127, .int .u64 (j : Int)), (some 128, .agg #[.int .u64 (px r), .int .u64 (py r), .bool (pb r)]), (some 129, .agg #[.int .u64 (px jc), .int .u64 (py jc), .bool (pb jc)]), (some 130, .agg #[.int .u64 (px kc), .int .u64 (py kc), .bool (pb kc)]), (some 131, .agg #[.int .u64 (px sc), .int .u64 (py sc), .bool (pb sc)]), (some 132, .int .u64 sI), (some 133, .agg #[.int .u64 (px r), .int .u64 (py r), .bool (pb r)]), (some 134, .agg #[.int .u64 (px sc), .int .u64 (py sc), .bool (pb sc)]), (some 135, .bool false), (some 136, .bool false)]) (by kernel_rfl) (by kernel_rfl) (by kernel_rfl) (by kernel_rfl) (fun _ => by kernel_rfl) ?_ ?_
          · intro ix hix
            match ix, hix with
            | 0, _ => exact ob_val [(12, .pointer (some ⟨w9.heap.size, 0, none⟩))] rfl rfl (fun _ => by kernel_rfl) (fun A w ⟨e0, _⟩ hB => do_loadP e0 n12.drew hB)
            | 1, _ => exact ob_val [(7, .int .u64 (kk : Int))] rfl rfl (fun _ => by kernel_rfl) (fun A w ⟨e0, _⟩ hB => do_move e0)
            | 2, _ => exact ob_val [(8, .pointer (some ⟨w2.heap.size, 0, none⟩))] rfl rfl (fun _ => by kernel_rfl) (fun A w ⟨e0, _⟩ hB => do_loadP e0 n8.drew hB)
            | 3, _ => exact ob_val [(111, .int .u64 (kk : Int)), (112, .agg #[.int .u64 (px r), .int .u64 (py r), .bool (pb r)])] rfl rfl (fun _ => by kernel_rfl) (fun A w ⟨e0, e1, _⟩ hB => do_call2 g_timS e0 e1 (KS w))
            | 4, _ => exact ob_val [(110, .agg #[.int .u64 (px kc), .int .u64 (py kc), .bool (pb kc)]), (113, .agg #[.int .u64 (px kc), .int .u64 (py kc), .bool (pb kc)])] rfl rfl (fun _ => by kernel_rfl) (fun A w ⟨e0, e1, _⟩ hB => do_neP e0 e1)
            | 5, _ => exact ob_val [(114, .bool false)] rfl rfl (fun _ => by kernel_rfl) (fun A w ⟨e0, _⟩ hB => do_move e0)
            | 6, _ => exact ob_val [(9, .int .u64 (j : Int))] rfl rfl (fun _ => by kernel_rfl) (fun A w ⟨e0, _⟩ hB => do_move e0)
            | 7, _ => exact ob_val [(12, .pointer (some ⟨w9.heap.size, 0, none⟩))] rfl rfl (fun _ => by kernel_rfl) (fun A w ⟨e0, _⟩ hB => do_loadP e0 n12.drew hB)
            | 8, _ => exact ob_val [(116, .int .u64 (j : Int)), (117, .agg #[.int .u64 (px kc), .int .u64 (py kc), .bool (pb kc)])] rfl rfl (fun _ => by kernel_rfl) (fun A w ⟨e0, e1, _⟩ hB => do_call2 g_timI e0 e1 (JK w))
            | 9, _ => exact ob_val [(9, .int .u64 (j : Int))] rfl rfl (fun _ => by kernel_rfl) (fun A w ⟨e0, _⟩ hB => do_move e0)
            | 10, _ => exact ob_val [(7, .int .u64 (kk : Int))] rfl rfl (fun _ => by kernel_rfl) (fun A w ⟨e0, _⟩ hB => do_move e0)
            | 11, _ => exact ob_val [(119, .int .u64 (j : Int)), (120, .int .u64 (kk : Int))] rfl rfl (fun _ => by kernel_rfl) (fun A w ⟨e0, e1, _⟩ hB => do_call3 g_mul e0 e1 rfl (MM w))
            | 12, _ => exact ob_val [(8, .pointer (some ⟨w2.heap.size, 0, none⟩))] rfl rfl (fun _ => by kernel_rfl) (fun A w ⟨e0, _⟩ hB => do_loadP e0 n8.drew hB)
            | 13, _ => exact ob_val [(121, .int .u64 (m : Int)), (122, .agg #[.int .u64 (px r), .int .u64 (py r), .bool (pb r)])] rfl rfl (fun _ => by kernel_rfl) (fun A w ⟨e0, e1, _⟩ hB => do_call2 g_timI e0 e1 (TM w))
            | 14, _ => exact ob_val [(118, .agg #[.int .u64 (px jkc), .int .u64 (py jkc), .bool (pb jkc)]), (123, .agg #[.int .u64 (px jkc), .int .u64 (py jkc), .bool (pb jkc)])] rfl rfl (fun _ => by kernel_rfl) (fun A w ⟨e0, e1, _⟩ hB => do_neP e0 e1)
            | 15, _ => exact ob_val [(115, .bool false), (124, .bool false)] rfl rfl (fun _ => by kernel_rfl) (fun A w ⟨e0, e1, _⟩ hB => do_pickF e0 e1)
            | 16, _ => exact ob_val [(125, .bool false)] rfl rfl (fun _ => by kernel_rfl) (fun A w ⟨e0, _⟩ hB => do_move e0)
            | 17, _ => exact ob_val [(9, .int .u64 (j : Int))] rfl rfl (fun _ => by kernel_rfl) (fun A w ⟨e0, _⟩ hB => do_move e0)
            | 18, _ => exact ob_val [(8, .pointer (some ⟨w2.heap.size, 0, none⟩))] rfl rfl (fun _ => by kernel_rfl) (fun A w ⟨e0, _⟩ hB => do_loadP e0 n8.drew hB)
            | 19, _ => exact ob_val [(127, .int .u64 (j : Int)), (128, .agg #[.int .u64 (px r), .int .u64 (py r), .bool (pb r)])] rfl rfl (fun _ => by kernel_rfl) (fun A w ⟨e0, e1, _⟩ hB => do_call2 g_timI e0 e1 (TJ w))
            | 20, _ => exact ob_val [(12, .pointer (some ⟨w9.heap.size, 0, none⟩))] rfl rfl (fun _ => by kernel_rfl) (fun A w ⟨e0, _⟩ hB => do_loadP e0 n12.drew hB)
            | 21, _ => exact ob_val [(129, .agg #[.int .u64 (px jc), .int .u64 (py jc), .bool (pb jc)]), (130, .agg #[.int .u64 (px kc), .int .u64 (py kc), .bool (pb kc)])] rfl rfl (fun _ => by kernel_rfl) (fun A w ⟨e0, e1, _⟩ hB => do_call2 g_addI e0 e1 (AJ w))
            | 22, _ => exact ob_val [(13, .int .u64 sI)] rfl rfl (fun _ => by kernel_rfl) (fun A w ⟨e0, _⟩ hB => do_move e0)
            | 23, _ => exact ob_val [(8, .pointer (some ⟨w2.heap.size, 0, none⟩))] rfl rfl (fun _ => by kernel_rfl) (fun A w ⟨e0, _⟩ hB => do_loadP e0 n8.drew hB)
            | 24, _ => exact ob_val [(132, .int .u64 sI), (133, .agg #[.int .u64 (px r), .int .u64 (py r), .bool (pb r)])] rfl rfl (fun _ => by kernel_rfl) (fun A w ⟨e0, e1, _⟩ hB => do_call2 g_timI e0 e1 (TS w))
            | 25, _ => exact ob_val [(131, .agg #[.int .u64 (px sc), .int .u64 (py sc), .bool (pb sc)]), (134, .agg #[.int .u64 (px sc), .int .u64 (py sc), .bool (pb sc)])] rfl rfl (fun _ => by kernel_rfl) (fun A w ⟨e0, e1, _⟩ hB => do_neP e0 e1)
            | 26, _ => exact ob_val [(126, .bool false), (135, .bool false)] rfl rfl (fun _ => by kernel_rfl) (fun A w ⟨e0, e1, _⟩ hB => do_pickF e0 e1)
            | ix + 27, h => exact absurd h (by simp)
          intro f w8 hB hN hJ
          clear hN hJ
          replace n8 := (n8.drew).keep hB
          replace n10 := (n10.drew).keep hB
          replace n11 := (n11.drew).keep hB
          replace n12 := (n12.drew).keep hB
          replace hb := keepB hb.drew hb.size hB
          clear hB
          simp only [puts, List.foldl, Act.put, List.setIfInBounds_toArray, List.set_cons_zero, List.set_cons_succ]
          clear KS JK MM TM TJ AJ TS
          go_wp2
          refine pool_list [.val (.agg #[.int .u64 (px r), .int .u64 (py r), .bool (pb r)]),
            .val (.agg #[.int .u64 (px none), .int .u64 (py none), .bool (pb none)]),
            .val (.agg #[.int .u64 (px none), .int .u64 (py none), .bool (pb none)]),
            .val (.bool true),
            .val (.bool true),
            .val (.agg #[.int .u64 (px ab), .int .u64 (py ab), .bool (pb ab)]),
            .val (.bool true),
            .val (.bool true),
            .val (.bool true),
            .val (.agg #[.int .u64 (px kc), .int .u64 (py kc), .bool (pb kc)]),
            .val (.bool true),
            .val (.bool true),
            .val (.bool true)] [[8], [137], [11], [138, 139], [140], [10], [142], [141, 143], [144], [12], [146], [145, 147], [148]] (fun f => [(some 137, .agg #[.int .u64 (px r), .int .u64 (py r), .bool (pb r)]), (some 138, .agg #[.int .u64 (px none), .int .u64 (py none), .bool (pb none)]), (some 139, .agg #[.int .u64 (px none), .int .u64 (py none), .bool (pb none)]), (some 140, .bool true), (some 141, .bool true), (some 142, .agg #[.int .u64 (px ab), .int .u64 (py ab), .bool (pb ab)]), (some 143, .bool true), (some 144, .bool true), (some 145, .bool true), (some 146, .agg #[.int .u64 (px kc), .int .u64 (py kc), .bool (pb kc)]), (some 147, .bool true), (some 148, .bool true), (some 4, .bool true)]) (by kernel_rfl) (by kernel_rfl) (by kernel_rfl) (by kernel_rfl) (fun _ => by kernel_rfl) ?_ ?_
          · intro ix hix
            match ix, hix with
            | 0, _ => exact ob_val [(8, .pointer (some ⟨w2.heap.size, 0, none⟩))] rfl rfl (fun _ => by kernel_rfl) (fun A w ⟨e0, _⟩ hB => do_loadP e0 n8.drew hB)
            | 1, _ => exact ob_val [(137, .agg #[.int .u64 (px r), .int .u64 (py r), .bool (pb r)])] rfl rfl (fun _ => by kernel_rfl) (fun A w ⟨e0, _⟩ hB => do_call2 g_timI rfl e0 (NZ w))
            | 2, _ => exact ob_val [(11, .pointer (some ⟨w7.heap.size + 1, 0, none⟩))] rfl rfl (fun _ => by kernel_rfl) (fun A w ⟨e0, _⟩ hB => do_loadP e0 n11.drew hB)
            | 3, _ => exact ob_val [(138, .agg #[.int .u64 (px none), .int .u64 (py none), .bool (pb none)]), (139, .agg #[.int .u64 (px none), .int .u64 (py none), .bool (pb none)])] rfl rfl (fun _ => by kernel_rfl) (fun A w ⟨e0, e1, _⟩ hB => do_eqP e0 e1)
            | 4, _ => exact ob_val [(140, .bool true)] rfl rfl (fun _ => by kernel_rfl) (fun A w ⟨e0, _⟩ hB => do_move e0)
            | 5, _ => exact ob_val [(10, .pointer (some ⟨w7.heap.size, 0, none⟩))] rfl rfl (fun _ => by kernel_rfl) (fun A w ⟨e0, _⟩ hB => do_loadP e0 n10.drew hB)
            | 6, _ => exact ob_val [(142, .agg #[.int .u64 (px ab), .int .u64 (py ab), .bool (pb ab)])] rfl rfl (fun _ => by kernel_rfl) (fun A w ⟨e0, _⟩ hB => do_call1 g_onI e0 (OAB w))
            | 7, _ => exact ob_val [(141, .bool true), (143, .bool true)] rfl rfl (fun _ => by kernel_rfl) (fun A w ⟨e0, e1, _⟩ hB => do_pickT e0 e1)
            | 8, _ => exact ob_val [(144, .bool true)] rfl rfl (fun _ => by kernel_rfl) (fun A w ⟨e0, _⟩ hB => do_move e0)
            | 9, _ => exact ob_val [(12, .pointer (some ⟨w9.heap.size, 0, none⟩))] rfl rfl (fun _ => by kernel_rfl) (fun A w ⟨e0, _⟩ hB => do_loadP e0 n12.drew hB)
            | 10, _ => exact ob_val [(146, .agg #[.int .u64 (px kc), .int .u64 (py kc), .bool (pb kc)])] rfl rfl (fun _ => by kernel_rfl) (fun A w ⟨e0, _⟩ hB => do_call1 g_onI e0 (OKC w))
            | 11, _ => exact ob_val [(145, .bool true), (147, .bool true)] rfl rfl (fun _ => by kernel_rfl) (fun A w ⟨e0, e1, _⟩ hB => do_pickT e0 e1)
            | 12, _ => exact ob_val [(148, .bool true)] rfl rfl (fun _ => by kernel_rfl) (fun A w ⟨e0, _⟩ hB => do_assign e0)
            | ix + 13, h => exact absurd h (by simp)
          intro f v9 hB _ _
          replace hb := keepB hb.drew hb.size hB
          simp only [puts, List.foldl, Act.put, List.setIfInBounds_toArray, List.set_cons_zero, List.set_cons_succ]
          go_wp2
          go_ret
          exact ⟨rfl, hb⟩
        · obtain ⟨S, hS⟩ : ∃ S : Int, S = (kk : Int) + (j : Int) := ⟨_, rfl⟩
          rw [← hS] at ew
          have ea : (kk : Int) + (j : Int) = S := hS.symm
          have eb : (2305843010818082053 : Int) ≤ S := by omega
          have ec : IntKind.u64.wrap (S - 2305843010818082053) = sI := by rw [IntKind.wrap_u64]; omega
          clear hs2 hs0 hj hj2 hkk1 hkk2 hS hsI
          go_wp2
          refine pool_list [.val (.agg #[.int .u64 (px kc), .int .u64 (py kc), .bool (pb kc)]),
            .val (.int .u64 (kk : Int)),
            .val (.agg #[.int .u64 (px r), .int .u64 (py r), .bool (pb r)]),
            .val (.agg #[.int .u64 (px kc), .int .u64 (py kc), .bool (pb kc)]),
            .val (.bool false),
            .val (.bool false),
            .val (.int .u64 (j : Int)),
            .val (.agg #[.int .u64 (px kc), .int .u64 (py kc), .bool (pb kc)]),
            .val (.agg #[.int .u64 (px jkc), .int .u64 (py jkc), .bool (pb jkc)]),
            .val (.int .u64 (j : Int)),
            .val (.int .u64 (kk : Int)),
            .val (.int .u64 (m : Int)),
            .val (.agg #[.int .u64 (px r), .int .u64 (py r), .bool (pb r)]),
            .val (.agg #[.int .u64 (px jkc), .int .u64 (py jkc), .bool (pb jkc)]),
            .val (.bool false),
            .val (.bool false),
            .val (.bool false),
            .val (.int .u64 (j : Int)),
            .val (.agg #[.int .u64 (px r), .int .u64 (py r), .bool (pb r)]),
            .val (.agg #[.int .u64 (px jc), .int .u64 (py jc), .bool (pb jc)]),
            .val (.agg #[.int .u64 (px kc), .int .u64 (py kc), .bool (pb kc)]),
            .val (.agg #[.int .u64 (px sc), .int .u64 (py sc), .bool (pb sc)]),
            .val (.int .u64 sI),
            .val (.agg #[.int .u64 (px r), .int .u64 (py r), .bool (pb r)]),
            .val (.agg #[.int .u64 (px sc), .int .u64 (py sc), .bool (pb sc)]),
            .val (.bool false),
            .val (.bool false)] [[12], [7], [8], [111, 112], [110, 113], [114], [9], [12], [116, 117], [9], [7], [119, 120], [8], [121, 122], [118, 123], [115, 124], [125], [9], [8], [127, 128], [12], [129, 130], [13], [8], [132, 133], [131, 134], [126, 135]] (fun f => [(some 110, .agg #[.int .u64 (px kc), .int .u64 (py kc), .bool (pb kc)]), (some 111, .int .u64 (kk : Int)), (some 112, .agg #[.int .u64 (px r), .int .u64 (py r), .bool (pb r)]), (some 113, .agg #[.int .u64 (px kc), .int .u64 (py kc), .bool (pb kc)]), (some 114, .bool false), (some 115, .bool false), (some 116, .int .u64 (j : Int)), (some 117, .agg #[.int .u64 (px kc), .int .u64 (py kc), .bool (pb kc)]), (some 118, .agg #[.int .u64 (px jkc), .int .u64 (py jkc), .bool (pb jkc)]), (some 119, .int .u64 (j : Int)), (some 120, .int .u64 (kk : Int)), (some 121, .int .u64 (m : Int)), (some 122, .agg #[.int .u64 (px r), .int .u64 (py r), .bool (pb r)]), (some 123, .agg #[.int .u64 (px jkc), .int .u64 (py jkc), .bool (pb jkc)]), (some 124, .bool false), (some 125, .bool false), (some 126, .bool false), (some 127, .int .u64 (j : Int)), (some 128, .agg #[.int .u64 (px r), .int .u64 (py r), .bool (pb r)]), (some 129, .agg #[.int .u64 (px jc), .int .u64 (py jc), .bool (pb jc)]), (some 130, .agg #[.int .u64 (px kc), .int .u64 (py kc), .bool (pb kc)]), (some 131, .agg #[.int .u64 (px sc), .int .u64 (py sc), .bool (pb sc)]), (some 132, .int .u64 sI), (some 133, .agg #[.int .u64 (px r), .int .u64 (py r), .bool (pb r)]), (some 134, .agg #[.int .u64 (px sc), .int .u64 (py sc), .bool (pb sc)]), (some 135, .bool false), (some 136, .bool false)]) (by kernel_rfl) (by kernel_rfl) (by kernel_rfl) (by kernel_rfl) (fun _ => by kernel_rfl) ?_ ?_
          · intro ix hix
            match ix, hix with
            | 0, _ => exact ob_val [(12, .pointer (some ⟨w9.heap.size, 0, none⟩))] rfl rfl (fun _ => by kernel_rfl) (fun A w ⟨e0, _⟩ hB => do_loadP e0 n12.drew hB)
            | 1, _ => exact ob_val [(7, .int .u64 (kk : Int))] rfl rfl (fun _ => by kernel_rfl) (fun A w ⟨e0, _⟩ hB => do_move e0)
            | 2, _ => exact ob_val [(8, .pointer (some ⟨w2.heap.size, 0, none⟩))] rfl rfl (fun _ => by kernel_rfl) (fun A w ⟨e0, _⟩ hB => do_loadP e0 n8.drew hB)
            | 3, _ => exact ob_val [(111, .int .u64 (kk : Int)), (112, .agg #[.int .u64 (px r), .int .u64 (py r), .bool (pb r)])] rfl rfl (fun _ => by kernel_rfl) (fun A w ⟨e0, e1, _⟩ hB => do_call2 g_timS e0 e1 (KS w))
            | 4, _ => exact ob_val [(110, .agg #[.int .u64 (px kc), .int .u64 (py kc), .bool (pb kc)]), (113, .agg #[.int .u64 (px kc), .int .u64 (py kc), .bool (pb kc)])] rfl rfl (fun _ => by kernel_rfl) (fun A w ⟨e0, e1, _⟩ hB => do_neP e0 e1)
            | 5, _ => exact ob_val [(114, .bool false)] rfl rfl (fun _ => by kernel_rfl) (fun A w ⟨e0, _⟩ hB => do_move e0)
            | 6, _ => exact ob_val [(9, .int .u64 (j : Int))] rfl rfl (fun _ => by kernel_rfl) (fun A w ⟨e0, _⟩ hB => do_move e0)
            | 7, _ => exact ob_val [(12, .pointer (some ⟨w9.heap.size, 0, none⟩))] rfl rfl (fun _ => by kernel_rfl) (fun A w ⟨e0, _⟩ hB => do_loadP e0 n12.drew hB)
            | 8, _ => exact ob_val [(116, .int .u64 (j : Int)), (117, .agg #[.int .u64 (px kc), .int .u64 (py kc), .bool (pb kc)])] rfl rfl (fun _ => by kernel_rfl) (fun A w ⟨e0, e1, _⟩ hB => do_call2 g_timI e0 e1 (JK w))
            | 9, _ => exact ob_val [(9, .int .u64 (j : Int))] rfl rfl (fun _ => by kernel_rfl) (fun A w ⟨e0, _⟩ hB => do_move e0)
            | 10, _ => exact ob_val [(7, .int .u64 (kk : Int))] rfl rfl (fun _ => by kernel_rfl) (fun A w ⟨e0, _⟩ hB => do_move e0)
            | 11, _ => exact ob_val [(119, .int .u64 (j : Int)), (120, .int .u64 (kk : Int))] rfl rfl (fun _ => by kernel_rfl) (fun A w ⟨e0, e1, _⟩ hB => do_call3 g_mul e0 e1 rfl (MM w))
            | 12, _ => exact ob_val [(8, .pointer (some ⟨w2.heap.size, 0, none⟩))] rfl rfl (fun _ => by kernel_rfl) (fun A w ⟨e0, _⟩ hB => do_loadP e0 n8.drew hB)
            | 13, _ => exact ob_val [(121, .int .u64 (m : Int)), (122, .agg #[.int .u64 (px r), .int .u64 (py r), .bool (pb r)])] rfl rfl (fun _ => by kernel_rfl) (fun A w ⟨e0, e1, _⟩ hB => do_call2 g_timI e0 e1 (TM w))
            | 14, _ => exact ob_val [(118, .agg #[.int .u64 (px jkc), .int .u64 (py jkc), .bool (pb jkc)]), (123, .agg #[.int .u64 (px jkc), .int .u64 (py jkc), .bool (pb jkc)])] rfl rfl (fun _ => by kernel_rfl) (fun A w ⟨e0, e1, _⟩ hB => do_neP e0 e1)
            | 15, _ => exact ob_val [(115, .bool false), (124, .bool false)] rfl rfl (fun _ => by kernel_rfl) (fun A w ⟨e0, e1, _⟩ hB => do_pickF e0 e1)
            | 16, _ => exact ob_val [(125, .bool false)] rfl rfl (fun _ => by kernel_rfl) (fun A w ⟨e0, _⟩ hB => do_move e0)
            | 17, _ => exact ob_val [(9, .int .u64 (j : Int))] rfl rfl (fun _ => by kernel_rfl) (fun A w ⟨e0, _⟩ hB => do_move e0)
            | 18, _ => exact ob_val [(8, .pointer (some ⟨w2.heap.size, 0, none⟩))] rfl rfl (fun _ => by kernel_rfl) (fun A w ⟨e0, _⟩ hB => do_loadP e0 n8.drew hB)
            | 19, _ => exact ob_val [(127, .int .u64 (j : Int)), (128, .agg #[.int .u64 (px r), .int .u64 (py r), .bool (pb r)])] rfl rfl (fun _ => by kernel_rfl) (fun A w ⟨e0, e1, _⟩ hB => do_call2 g_timI e0 e1 (TJ w))
            | 20, _ => exact ob_val [(12, .pointer (some ⟨w9.heap.size, 0, none⟩))] rfl rfl (fun _ => by kernel_rfl) (fun A w ⟨e0, _⟩ hB => do_loadP e0 n12.drew hB)
            | 21, _ => exact ob_val [(129, .agg #[.int .u64 (px jc), .int .u64 (py jc), .bool (pb jc)]), (130, .agg #[.int .u64 (px kc), .int .u64 (py kc), .bool (pb kc)])] rfl rfl (fun _ => by kernel_rfl) (fun A w ⟨e0, e1, _⟩ hB => do_call2 g_addI e0 e1 (AJ w))
            | 22, _ => exact ob_val [(13, .int .u64 sI)] rfl rfl (fun _ => by kernel_rfl) (fun A w ⟨e0, _⟩ hB => do_move e0)
            | 23, _ => exact ob_val [(8, .pointer (some ⟨w2.heap.size, 0, none⟩))] rfl rfl (fun _ => by kernel_rfl) (fun A w ⟨e0, _⟩ hB => do_loadP e0 n8.drew hB)
            | 24, _ => exact ob_val [(132, .int .u64 sI), (133, .agg #[.int .u64 (px r), .int .u64 (py r), .bool (pb r)])] rfl rfl (fun _ => by kernel_rfl) (fun A w ⟨e0, e1, _⟩ hB => do_call2 g_timI e0 e1 (TS w))
            | 25, _ => exact ob_val [(131, .agg #[.int .u64 (px sc), .int .u64 (py sc), .bool (pb sc)]), (134, .agg #[.int .u64 (px sc), .int .u64 (py sc), .bool (pb sc)])] rfl rfl (fun _ => by kernel_rfl) (fun A w ⟨e0, e1, _⟩ hB => do_neP e0 e1)
            | 26, _ => exact ob_val [(126, .bool false), (135, .bool false)] rfl rfl (fun _ => by kernel_rfl) (fun A w ⟨e0, e1, _⟩ hB => do_pickF e0 e1)
            | ix + 27, h => exact absurd h (by simp)
          intro f w8 hB hN hJ
          clear hN hJ
          replace n8 := (n8.drew).keep hB
          replace n10 := (n10.drew).keep hB
          replace n11 := (n11.drew).keep hB
          replace n12 := (n12.drew).keep hB
          replace hb := keepB hb.drew hb.size hB
          clear hB
          simp only [puts, List.foldl, Act.put, List.setIfInBounds_toArray, List.set_cons_zero, List.set_cons_succ]
          clear KS JK MM TM TJ AJ TS
          go_wp2
          refine pool_list [.val (.agg #[.int .u64 (px r), .int .u64 (py r), .bool (pb r)]),
            .val (.agg #[.int .u64 (px none), .int .u64 (py none), .bool (pb none)]),
            .val (.agg #[.int .u64 (px none), .int .u64 (py none), .bool (pb none)]),
            .val (.bool true),
            .val (.bool true),
            .val (.agg #[.int .u64 (px ab), .int .u64 (py ab), .bool (pb ab)]),
            .val (.bool true),
            .val (.bool true),
            .val (.bool true),
            .val (.agg #[.int .u64 (px kc), .int .u64 (py kc), .bool (pb kc)]),
            .val (.bool true),
            .val (.bool true),
            .val (.bool true)] [[8], [137], [11], [138, 139], [140], [10], [142], [141, 143], [144], [12], [146], [145, 147], [148]] (fun f => [(some 137, .agg #[.int .u64 (px r), .int .u64 (py r), .bool (pb r)]), (some 138, .agg #[.int .u64 (px none), .int .u64 (py none), .bool (pb none)]), (some 139, .agg #[.int .u64 (px none), .int .u64 (py none), .bool (pb none)]), (some 140, .bool true), (some 141, .bool true), (some 142, .agg #[.int .u64 (px ab), .int .u64 (py ab), .bool (pb ab)]), (some 143, .bool true), (some 144, .bool true), (some 145, .bool true), (some 146, .agg #[.int .u64 (px kc), .int .u64 (py kc), .bool (pb kc)]), (some 147, .bool true), (some 148, .bool true), (some 4, .bool true)]) (by kernel_rfl) (by kernel_rfl) (by kernel_rfl) (by kernel_rfl) (fun _ => by kernel_rfl) ?_ ?_
          · intro ix hix
            match ix, hix with
            | 0, _ => exact ob_val [(8, .pointer (some ⟨w2.heap.size, 0, none⟩))] rfl rfl (fun _ => by kernel_rfl) (fun A w ⟨e0, _⟩ hB => do_loadP e0 n8.drew hB)
            | 1, _ => exact ob_val [(137, .agg #[.int .u64 (px r), .int .u64 (py r), .bool (pb r)])] rfl rfl (fun _ => by kernel_rfl) (fun A w ⟨e0, _⟩ hB => do_call2 g_timI rfl e0 (NZ w))
            | 2, _ => exact ob_val [(11, .pointer (some ⟨w7.heap.size + 1, 0, none⟩))] rfl rfl (fun _ => by kernel_rfl) (fun A w ⟨e0, _⟩ hB => do_loadP e0 n11.drew hB)
            | 3, _ => exact ob_val [(138, .agg #[.int .u64 (px none), .int .u64 (py none), .bool (pb none)]), (139, .agg #[.int .u64 (px none), .int .u64 (py none), .bool (pb none)])] rfl rfl (fun _ => by kernel_rfl) (fun A w ⟨e0, e1, _⟩ hB => do_eqP e0 e1)
            | 4, _ => exact ob_val [(140, .bool true)] rfl rfl (fun _ => by kernel_rfl) (fun A w ⟨e0, _⟩ hB => do_move e0)
            | 5, _ => exact ob_val [(10, .pointer (some ⟨w7.heap.size, 0, none⟩))] rfl rfl (fun _ => by kernel_rfl) (fun A w ⟨e0, _⟩ hB => do_loadP e0 n10.drew hB)
            | 6, _ => exact ob_val [(142, .agg #[.int .u64 (px ab), .int .u64 (py ab), .bool (pb ab)])] rfl rfl (fun _ => by kernel_rfl) (fun A w ⟨e0, _⟩ hB => do_call1 g_onI e0 (OAB w))
            | 7, _ => exact ob_val [(141, .bool true), (143, .bool true)] rfl rfl (fun _ => by kernel_rfl) (fun A w ⟨e0, e1, _⟩ hB => do_pickT e0 e1)
            | 8, _ => exact ob_val [(144, .bool true)] rfl rfl (fun _ => by kernel_rfl) (fun A w ⟨e0, _⟩ hB => do_move e0)
            | 9, _ => exact ob_val [(12, .pointer (some ⟨w9.heap.size, 0, none⟩))] rfl rfl (fun _ => by kernel_rfl) (fun A w ⟨e0, _⟩ hB => do_loadP e0 n12.drew hB)
            | 10, _ => exact ob_val [(146, .agg #[.int .u64 (px kc), .int .u64 (py kc), .bool (pb kc)])] rfl rfl (fun _ => by kernel_rfl) (fun A w ⟨e0, _⟩ hB => do_call1 g_onI e0 (OKC w))
            | 11, _ => exact ob_val [(145, .bool true), (147, .bool true)] rfl rfl (fun _ => by kernel_rfl) (fun A w ⟨e0, e1, _⟩ hB => do_pickT e0 e1)
            | 12, _ => exact ob_val [(148, .bool true)] rfl rfl (fun _ => by kernel_rfl) (fun A w ⟨e0, _⟩ hB => do_assign e0)
            | ix + 13, h => exact absurd h (by simp)
          intro f v9 hB _ _
          replace hb := keepB hb.drew hb.size hB
          simp only [puts, List.foldl, Act.put, List.setIfInBounds_toArray, List.set_cons_zero, List.set_cons_succ]
          go_wp2
          go_ret
          exact ⟨rfl, hb⟩

end Go.Proofs.Ytaeanelfpaphiab
