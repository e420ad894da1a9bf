import Derived.Test.YtenggagjgmonoaaGreatDoorMrg43
import Derived.Laws.OwnMore
import Derived.Test.YtenggagjgmonoaaGreatDoorMrg38
import Derived.Test.YtenggagjgmonoaaGreatDoorMrg39
import Derived.Test.YtenggagjgmonoaaGreatDoorMrg42
namespace Go.Proofs.YtenggagjgmonoaaGreatDoor
open Go.RowKit
set_option linter.unusedVariables false

theorem infoW' : (Tryz.prog.info? 23).map (fun i => (i.zero, i.size, i.bytes)) = some (some (.int .u64 0), 1, 8) := by kernel_rfl
theorem cellsG_at (m : Int) : ∀ (H : List Int) (k : Nat), k < H.length → (cellsG m H)[2 * k]? = some (.int .u64 m) ∧ (cellsG m H)[2 * k + 1]? = some (.int .u64 (lk H k))
  | [], k, h => by simp at h
  | x :: r, 0, _ => ⟨rfl, rfl⟩
  | x :: r, k + 1, h => by
    have := cellsG_at m r k (by simpa using h)
    rw [show 2 * (k + 1) = 2 * k + 2 by omega, show 2 * k + 2 + 1 = 2 * k + 1 + 2 by omega]
    exact this
theorem lk_take_snoc (H : List Int) (k : Nat) (h : k < H.length) : H.take (k + 1) = H.take k ++ [lk H k] := by
  rw [List.take_succ_eq_append_getElem h]
  unfold lk
  rw [List.getD_eq_getElem?_getD, List.getElem?_eq_getElem h]
  rfl

set_option maxRecDepth 100000 in
set_option maxHeartbeats 2000000 in
theorem h2fI_yes (msg tag : ByteArray) (m c : Nat) (w : World) (hT : TabK w) (hm : m < 18446744073709551616) (h : okH msg tag m c) :
    Calls Tryz.prog 11 #[.string msg, .string tag, .int .u64 m, .int .i64 c] w fun e w' => ∃ g cap, e = .returned (.tuple #[.slice (some ⟨g, 0, none⟩) c cap, .bool true]) ∧ Row w' w.heap.size g c cap ((h2f (byt msg) (byt tag) m c).map (Value.int .u64)) ∧ Below w.heap.size w w' := by
  obtain ⟨i0, hi, hz0, hz1, hz2⟩ := info_parts infoW'
  have X := fun w hT => h2nG_yes msg tag m c w hT hm h
  obtain ⟨h1, h2, h3, h4⟩ := h
  have g3 : ((m : Int) == 0) = false := by simp; omega
  have hll := h2f_length (byt msg) (byt tag) m c
  generalize h2f (byt msg) (byt tag) m c = H at *
  go_enter Tryz.func11, Tryz.ntmps11
  go_wp2_with fail
  refine (X _ hT).mono ?_
  rintro e W1 ⟨v, rfl, hown0, hb0⟩
  clear X
  obtain ⟨g0, cap0, rfl⟩ : ∃ g0 cap0, v = .slice (some ⟨g0, 0, none⟩) c cap0 := by
    rcases hown0.2 with ⟨_, hc⟩ | ⟨g, cap, cur, hv, _⟩
    · omega
    · exact ⟨g, cap, hv⟩
  have hg0 := hown0.lt g0 rfl
  have hcm : ∀ k, k < c → W1.cell? ⟨g0, 2 * k, none⟩ = some (.int .u64 m) := fun k hk => by
    have := hown0.cells (g := g0) rfl (2 * k) _ (cellsG_at m H k (by omega)).1
    rwa [Addr.add_mid, Nat.zero_add] at this
  have hcx : ∀ k, k < c → W1.cell? ⟨g0, 2 * k + 1, none⟩ = some (.int .u64 (lk H k)) := fun k hk => by
    have := hown0.cells (g := g0) rfl (2 * k + 1) _ (cellsG_at m H k (by omega)).2
    rwa [Addr.add_mid, Nat.zero_add] at this
  have hcap0 : c ≤ cap0 := by
    rcases hown0.2 with ⟨_, hc⟩ | ⟨g, cap, cur, hv, _, _, hle, _⟩
    · omega
    · cases hv; exact hle
  clear hown0
  have hs1 := hb0.size
  go_wp2
  go_loopw [12, 14, 27] (fun ov _ iv wr => ∃ k : Nat, k ≤ c ∧ iv = .int .i64 (k : Int) ∧ wr.ownsRow W1.heap.size 23 1 ov k ((H.take k).map (Value.int .u64)) ∧ Below W1.heap.size W1 wr) (fun _ _ i _ => c - (intOf i).toNat)
  case atStart => exact ⟨0, by omega, rfl, World.ownsRow_nil _ _ _ _, Below.refl _ _⟩
  case round =>
    obtain ⟨k, hk, rfl, hown, hbl⟩ := hrel
    have hsz := hbl.size
    by_cases hlt : k < c
    · have hli : (k : Int) < (c : Int) := by omega
      have q0 : (0 : Int) ≤ (k : Int) := by omega
      have c1 := (hbl.cell (p := ⟨g0, 2 * k, none⟩) hg0.2).trans (hcm k hlt)
      have c2 := (hbl.cell (p := ⟨g0, 2 * k + 1, none⟩) hg0.2).trans (hcx k hlt)
      rw [Nat.mul_comm 2 k] at c1 c2
      have ht := lk_take_snoc H k (by omega)
      generalize lk H k = z at *
      have hnew : ((wr.alloc (.cells #[.int .u64 (m : Int), .int .u64 z] 67)).alloc (.cells #[.int .u64 z] 23)).heap[wr.heap.size + 1]? = some (.cells #[.int .u64 z] 23) := by
        have := heap_alloc_new (wr.alloc (.cells #[.int .u64 (m : Int), .int .u64 z] 67)) (.cells #[.int .u64 z] 23)
        rwa [show (wr.alloc (.cells #[.int .u64 (m : Int), .int .u64 z] 67)).heap.size = wr.heap.size + 1 by simp] at this
      go_wp2_with (first
        | (at_builtin; refine wpList_append_own _ rfl _ _ 34 rfl W1.heap.size 23 i0 (.int .u64 0) 1 8 Tryz.underlying34 hi hz0 hz1 hz2 rfl (by omega) _ k ((H.take k).map (Value.int .u64)) rfl ((hown.alloc _).alloc _) ⟨wr.heap.size + 1, 0, none⟩ 1 1 [.int .u64 z] rfl rfl (World.news_of_block (cs := #[.int .u64 z]) hnew) (by simp [Value.oneCell']) (by unfold maxLen; omega) (by omega) (by simp; omega) ?_; intro v2 w2 hown2 hgr2 _)
        | go_in)
      have R1 : w2.ownsRow W1.heap.size 23 1 v2 (k + 1) ((H.take (k + 1)).map (Value.int .u64)) := by rw [ht, List.map_append]; exact hown2
      have R2 : Below W1.heap.size W1 w2 := ((hbl.alloc hsz _).alloc (by simp; omega) _).grown hgr2 (by simp; omega) (fun r hr => (((hown.alloc (.cells #[.int .u64 (m : Int), .int .u64 z] 67)).alloc (.cells #[.int .u64 z] 23)).lt r hr).1)
      go_roundw
      case rel =>
        first
          | exact ⟨k + 1, by omega, by go_num, R1, R2⟩
          | ((repeat apply Exists.intro); exact ⟨⟨k + 1, by omega, by go_num, R1, R2⟩, rfl⟩)
      case measure => simp [intOf]; omega
    · obtain rfl : k = c := by omega
      rw [List.take_of_length_le (by omega)] at hown
      obtain ⟨g, cap, rfl⟩ : ∃ g cap, u12 = .slice (some ⟨g, 0, none⟩) k cap := by
        rcases hown.2 with ⟨_, hc⟩ | ⟨g, cap, cur, hv, _⟩
        · omega
        · exact ⟨g, cap, hv⟩
      have hrow := (Row.of_owns hown).mono hs1
      have hbf := hb0.trans (hbl.mono hs1)
      go_wp2
      go_ret2
      exact ⟨g, cap, rfl, hrow, hbf⟩

set_option maxRecDepth 100000 in
set_option maxHeartbeats 2000000 in
theorem h2fI_no (msg tag : ByteArray) (m : Nat) (c : Int) (w : World) (h : ¬ okH msg tag m c) :
    Calls Tryz.prog 11 #[.string msg, .string tag, .int .u64 m, .int .i64 c] w fun e w' => e = .returned (.tuple #[.slice none 0 0, .bool false]) ∧ Below w.heap.size w w' := by
  by_cases h3 : m = 0
  · subst h3
    go_enter Tryz.func11, Tryz.ntmps11
    go_wp2
    go_ret2
    exact ⟨rfl, Below.refl _ _⟩
  · have g3 : ((m : Int) == 0) = false := by simp; omega
    have X := fun w => h2nG_no msg tag m c w h3 h
    go_enter Tryz.func11, Tryz.ntmps11
    go_wp2_with fail
    refine (X _).mono ?_
    rintro e W1 ⟨rfl, hb0⟩
    go_wp2
    go_loopw [12, 14, 27] (fun ov _ iv wr => ov = .slice none 0 0 ∧ iv = .int .i64 0 ∧ wr = W1) (fun _ _ _ _ => 0)
    case atStart => exact ⟨rfl, rfl, rfl⟩
    case round =>
      obtain ⟨rfl, rfl, rfl⟩ := hrel
      go_wp2
      go_ret2
      exact ⟨rfl, hb0⟩
end Go.Proofs.YtenggagjgmonoaaGreatDoor

namespace Go.Proofs.YtenggagjgmonoaaGreatDoor
open Go.RowKit M
set_option linter.unusedVariables false

theorem mXX_neg (u : Fp) : mXX (0 - u) = mXX u := by unfold mXX; rw [mX_neg, mS_neg]
theorem mYY_neg (u : Fp) : mYY (0 - u) = mYY u := by unfold mYY; rw [mXX_neg]
theorem odd_int (a z : Int) (h0 : 0 ≤ a) (h1 : a < 2305843009213693951) (h : a ≠ 0) (e : (2305843009213693951 - a) % 2305843009213693951 = z) : (z % 2 == 1) = !(a % 2 == 1) := by
  have ez : z = 2305843009213693951 - a := by omega
  by_cases hp : a % 2 = 1
  · have e1 : z % 2 = 0 := by omega
    rw [hp, e1]; rfl
  · have e1 : z % 2 = 1 := by omega
    have e2 : a % 2 = 0 := by omega
    rw [e1, e2]; rfl
theorem fv_odd (u : Fp) (h : fv u ≠ 0) : (fv (0 - u) % 2 == 1) = !(fv u % 2 == 1) := odd_int (fv u) (fv (0 - u)) (fv_ge u) (fv_lt u) h (fv_ng0 u)
theorem neg_neg0 (y : Fp) : 0 - (0 - y) = y := by grobner
theorem neg_zero0 (y : Fp) : 0 - y = -y := by grobner
/-- the other number has the other y -/
theorem mYo_neg (u : Fp) (h : fv u ≠ 0) : mYo (0 - u) = -mYo u := by
  unfold mYo
  rw [fv_odd u h, mYY_neg, ← neg_zero0]
  cases (fv u % 2 == 1)
  · rfl
  · simp only [Bool.not_true, Bool.false_eq_true, if_false, if_true]; rw [neg_neg0]
theorem toF_neg (u : Fp) : toF (2305843009213693951 - u.val) = 0 - u := by
  apply Fin.ext
  rw [Fin.val_sub]
  show (2305843009213693951 - u.val) % 2305843009213693951 = (2305843009213693951 - u.val + 0) % 2305843009213693951
  rw [Nat.add_zero]

theorem toPt_of : ∀ (p : Pt), on p → ∃ x y : Nat, px p = x ∧ py p = y ∧ toPt x y (pb p) = some p
  | none, _ => ⟨0, 0, rfl, rfl, by show toPt 0 0 true = _; unfold toPt; rw [if_pos rfl, if_pos ⟨rfl, rfl⟩]⟩
  | some (X, Y), h => ⟨X.val, Y.val, rfl, rfl, toPt_self h⟩
theorem onI_pt (p : Pt) (hp : on p) (w : World) :
    Calls Tryz.prog 7 #[.agg #[.int .u64 (px p), .int .u64 (py p), .bool (pb p)]] w fun e w' => e = .returned (.bool true) ∧ Below w.heap.size w w' := by
  obtain ⟨x, y, h1, h2, h3⟩ := toPt_of p hp
  have := onI_any x y (pb p) w
  rw [h3] at this
  rw [h1, h2]
  exact this
theorem negI_pt (p : Pt) (hp : on p) (w : World) :
    Calls Tryz.prog 8 #[.agg #[.int .u64 (px p), .int .u64 (py p), .bool (pb p)]] w fun e w' => e = .returned (.agg #[.int .u64 (px (ng p)), .int .u64 (py (ng p)), .bool (pb (ng p))]) ∧ Below w.heap.size w w' := by
  obtain ⟨x, y, h1, h2, h3⟩ := toPt_of p hp
  have := negI_any x y (pb p) w
  rw [asPt_some h3, ptW_eq] at this
  rw [h1, h2]
  exact this
theorem addI_pt (p q : Pt) (hp : on p) (hq : on q) (w : World) :
    Calls Tryz.prog 13 #[.agg #[.int .u64 (px p), .int .u64 (py p), .bool (pb p)], .agg #[.int .u64 (px q), .int .u64 (py q), .bool (pb q)]] w fun e w' => e = .returned (.agg #[.int .u64 (px (ad p q)), .int .u64 (py (ad p q)), .bool (pb (ad p q))]) ∧ Below w.heap.size w w' := by
  obtain ⟨x, y, h1, h2, h3⟩ := toPt_of p hp
  obtain ⟨x', y', h1', h2', h3'⟩ := toPt_of q hq
  have := addI_any x y (pb p) x' y' (pb q) w
  unfold adPt at this
  rw [h3, h3', if_pos ⟨rfl, rfl⟩, asPt_some h3, asPt_some h3', ptW_eq] at this
  rw [h1, h2, h1', h2']
  exact this

/-- all that FnMap asks of a number -/
theorem map_facts (u : Nat) : ∃ X Y V Y2 : Int,
    (∀ w, Calls Tryz.prog 5 #[.int .u64 u] w fun e w' => e = .returned (.agg #[.int .u64 X, .int .u64 Y, .bool false]) ∧ Below w.heap.size w w') ∧
    (∀ w, Calls Tryz.prog 6 #[.int .u64 u] w fun e w' => e = .returned (.agg #[.int .u64 X, .int .u64 Y, .bool false]) ∧ Below w.heap.size w w') ∧
    (∀ w, Calls Tryz.prog 7 #[.agg #[.int .u64 X, .int .u64 Y, .bool false]] w fun e w' => e = .returned (.bool true) ∧ Below w.heap.size w w') ∧
    ((u : Int).tmod 2305843009213693951 = V) ∧ 0 ≤ V ∧ V < 2305843009213693951 ∧
    (V ≠ 0 → ∀ w, Calls Tryz.prog 5 #[.int .u64 (2305843009213693951 - V)] w fun e w' => e = .returned (.agg #[.int .u64 X, .int .u64 Y2, .bool false]) ∧ Below w.heap.size w w') ∧
    (∀ w, Calls Tryz.prog 8 #[.agg #[.int .u64 X, .int .u64 Y, .bool false]] w fun e w' => e = .returned (.agg #[.int .u64 X, .int .u64 Y2, .bool false]) ∧ Below w.heap.size w w') := by
  refine ⟨fv (mXX (toF u)), fv (mYo (toF u)), fv (toF u), fv (-mYo (toF u)), mapI_any u, mapS_any u, onI_pt (some (mXX (toF u), mYo (toF u))) (map_on _), toF_val u, fv_ge _, fv_lt _, fun hv w => ?_, negI_pt (some (mXX (toF u), mYo (toF u))) (map_on _)⟩
  have hl := val_lt (toF u)
  have h := mapI_any (2305843009213693951 - (toF u).val) w
  rw [toF_neg, mXX_neg, mYo_neg _ hv] at h
  have e : ((2305843009213693951 - (toF u).val : Nat) : Int) = 2305843009213693951 - fv (toF u) := by unfold fv; omega
  rw [e] at h
  exact h

/-- all that FnMap asks of a message and a tag -/
theorem grp_facts (m t : ByteArray) (h : okT m t) : ∃ (a0 a1 : Nat) (x y x0 y0 x1 y1 : Int) (c : Bool),
    (∀ w, TabK w → Calls Tryz.prog 10 #[.string m, .string t] w fun e w' => e = .returned (.tuple #[.agg #[.int .u64 x, .int .u64 y, .bool c], .bool true]) ∧ Below w.heap.size w w') ∧
    (∀ w, Calls Tryz.prog 12 #[.string m, .string t] w fun e w' => e = .returned (.tuple #[.agg #[.int .u64 x, .int .u64 y, .bool c], .bool true]) ∧ Below w.heap.size w w') ∧
    (∀ w, TabK w → Calls Tryz.prog 11 #[.string m, .string t, .int .u64 2305843009213693951, .int .i64 2] w fun e w' => ∃ g cap, e = .returned (.tuple #[.slice (some ⟨g, 0, none⟩) 2 cap, .bool true]) ∧ (w'.cell? ⟨g, 0, none⟩ = some (.int .u64 a0) ∧ w'.cell? ⟨g, 1, none⟩ = some (.int .u64 a1)) ∧ Below w.heap.size w w') ∧
    (∀ w, Calls Tryz.prog 5 #[.int .u64 a0] w fun e w' => e = .returned (.agg #[.int .u64 x0, .int .u64 y0, .bool false]) ∧ Below w.heap.size w w') ∧
    (∀ w, Calls Tryz.prog 5 #[.int .u64 a1] w fun e w' => e = .returned (.agg #[.int .u64 x1, .int .u64 y1, .bool false]) ∧ Below w.heap.size w w') ∧
    (∀ w, Calls Tryz.prog 13 #[.agg #[.int .u64 x0, .int .u64 y0, .bool false], .agg #[.int .u64 x1, .int .u64 y1, .bool false]] w fun e w' => e = .returned (.agg #[.int .u64 x, .int .u64 y, .bool c]) ∧ Below w.heap.size w w') ∧
    (∀ w, Calls Tryz.prog 7 #[.agg #[.int .u64 x, .int .u64 y, .bool c]] w fun e w' => e = .returned (.bool true) ∧ Below w.heap.size w w') := by
  refine ⟨hNum m t 2305843009213693951 2 0, hNum m t 2305843009213693951 2 1, px (hPt m t), py (hPt m t), fv (mXX (toF (hNum m t 2305843009213693951 2 0))), fv (mYo (toF (hNum m t 2305843009213693951 2 0))), fv (mXX (toF (hNum m t 2305843009213693951 2 1))), fv (mYo (toF (hNum m t 2305843009213693951 2 1))), pb (hPt m t),
    fun w hT => h2gI_of m t _ _ _ _ w (fun w' hb => h2gN_yes m t w' (fun i hi => (hb.cell (p := ⟨2, i, none⟩) (World.block_lt_of_cell? w _ (hT i hi))).trans (hT i hi)) h),
    fun w => ?_, fun w hT => ?_, mapI_any _, mapI_any _, addI_pt (mapP (hNum m t 2305843009213693951 2 0)) (mapP (hNum m t 2305843009213693951 2 1)) (mapP_on _) (mapP_on _), onI_pt (hPt m t) (ad_on (mapP_on _) (mapP_on _))⟩
  · have := h2gS_yes m t w h
    rwa [ptW_eq] at this
  · refine (h2fI_yes m t 2305843009213693951 2 w hT (by decide) ((okT_H (by decide) (by decide) (by decide)).1 h)).mono ?_
    rintro e w' ⟨g, cap, rfl, hr, hb⟩
    have e0 := hr.cell 0 (by omega)
    have e1 := hr.cell 1 (by omega)
    rw [h2f_at m t 2305843009213693951 2 0 (by omega)] at e0
    rw [h2f_at m t 2305843009213693951 2 1 (by omega)] at e1
    exact ⟨g, cap, rfl, ⟨e0, e1⟩, hb⟩
end Go.Proofs.YtenggagjgmonoaaGreatDoor
