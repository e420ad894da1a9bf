import Derived.Test.YtagnikeaellbiaaGreatDoorMrg17
import Derived.Test.YtagnikeaellbiaaGreatDoorMrg26
import Derived.Test.YtagnikeaellbiaaGreatDoorMrg31
import Derived.Test.YtagnikeaellbiaaGreatDoorMrg29
/-
  The program's points of a batch: findPoints.
-/
namespace Go.Proofs.YtagnikeaellbiaaGreatDoor
open Go.RowKit M
set_option linter.unusedVariables false

theorem wpList_append_ow {P : Program} {w : World} {ops : Array Oper} {rest : List Oper} {o : Oper} {a : Act} {Q : Exit → Act → World → Prop} (hgd : o.guard = none) (s x : Operand) (t : TypeId)
    (ho : o.op = .call { callee := .builtin .append, args := #[s, x], argTypes := #[t, t] })
    (base : Nat) (e : TypeId) (i : TypeInfo) (z : Value) (size bytes : Nat) (ht : P.underlying t = some (.slice e)) (hi : P.info? e = some i) (hz : i.zero = some z)
    (hsize : i.size = size) (hby : i.bytes = bytes) (hzs : z.cells.size = size) (hsz : 0 < size)
    (v : Value) (n : Nat) (xs : List Value) (hs : a.eval s = v) (hown : w.ownsRow base e size v n xs)
    (ad : Addr) (m c : Nat) (news : List Value) (hx : a.eval x = .slice (some ad) m c) (hl : news.length = m * size) (hnews : ∀ j u, news[j]? = some u → w.cell? (ad.add j) = some u) (h1 : ∀ u ∈ news, u.oneCell' = true)
    (hm : 0 < m) (h63 : n + m ≤ maxLen) (hbytes : (n + m) * bytes ≤ 140737488355328) (hbase : base ≤ w.heap.size)
    (h : ∀ g cap w', w'.ownsRow base e size (.slice (some ⟨g, 0, none⟩) (n + m) cap) (n + m) (xs ++ news) → w.grownBy w' v.ownBlock → g < w'.heap.size → wpList P ops Q rest (a.put o.dst (.slice (some ⟨g, 0, none⟩) (n + m) cap)) w') : wpList P ops Q (o :: rest) a w := by
  refine wpList_plain hgd fun K hK => ?_
  obtain ⟨g, cap, w', hr, h2, h3, -, h5⟩ := run_append_lies (P := P) w t o.type base e i z size bytes ht hi hz hsize hby hzs hsz v n xs hown ad m c news hl hnews h1 hm h63 hbytes hbase w.heap.size rfl
  unfold Oper.wp execOp
  simp only [ho, resolve, invoke, builtin, Sem.run_bind, Sem.run_pure, Result.andThen_ok, List.map_toArray, List.map_cons, List.map_nil, hs, hx, hr]
  exact hK _ _ (h g cap w' h2 h3 h5)
def cells3 (ps : List Pt) : List Value := ps.flatMap fun p => [.int .u64 (px p), .int .u64 (py p), .bool (pb p)]
theorem cells3_app (a b : List Pt) : cells3 (a ++ b) = cells3 a ++ cells3 b := by simp [cells3]
theorem cells3_length : ∀ ps : List Pt, (cells3 ps).length = ps.length * 3
  | [] => rfl
  | p :: r => by
    have := cells3_length r
    simp only [cells3, List.flatMap_cons, List.length_append, List.length_cons, List.length_nil] at *
    omega
theorem cells3_at : ∀ (ps : List Pt) (i : Nat) (p : Pt), ps[i]? = some p → (cells3 ps)[i * 3]? = some (.int .u64 (px p)) ∧ (cells3 ps)[i * 3 + 1]? = some (.int .u64 (py p)) ∧ (cells3 ps)[i * 3 + 2]? = some (.bool (pb p))
  | [], i, p, h => by simp at h
  | q :: r, 0, p, h => by
    simp at h
    subst h
    exact ⟨rfl, rfl, rfl⟩
  | q :: r, i + 1, p, h => by
    have ih := cells3_at r i p (by simpa using h)
    have e : cells3 (q :: r) = [.int .u64 (px q), .int .u64 (py q), .bool (pb q)] ++ cells3 r := rfl
    rw [e]
    refine ⟨?_, ?_, ?_⟩
    · rw [List.getElem?_append_right (by simp; omega)]
      rw [← ih.1]; congr 1; simp; omega
    · rw [List.getElem?_append_right (by simp; omega)]
      rw [← ih.2.1]; congr 1; simp; omega
    · rw [List.getElem?_append_right (by simp; omega)]
      rw [← ih.2.2]; congr 1; simp; omega
/-- the program's points in a row -/
structure Cps (W : World) (g : Nat) (ps : List Pt) : Prop where
  lt : g < W.heap.size
  c0 : ∀ i p, ps[i]? = some p → W.cell? ⟨g, 0 + i * 3, none⟩ = some (.int .u64 (px p))
  c1 : ∀ i p, ps[i]? = some p → W.cell? ⟨g, 0 + i * 3 + 1, none⟩ = some (.int .u64 (py p))
  c2 : ∀ i p, ps[i]? = some p → W.cell? ⟨g, 0 + i * 3 + 2, none⟩ = some (.bool (pb p))
theorem Cps.below {W W' : World} {g : Nat} {L : List Pt} (h : Cps W g L) {B : Nat} (hb : Below B W W') (hg : g < B) : Cps W' g L :=
  have e : ∀ i, W'.cell? ⟨g, i, none⟩ = W.cell? ⟨g, i, none⟩ := fun i => World.cell?_of_block (w := W) (a := ⟨g, i, none⟩) (hb.block g hg)
  ⟨Nat.lt_of_lt_of_le h.lt hb.size, fun i t ht => (e _).trans (h.c0 i t ht), fun i t ht => (e _).trans (h.c1 i t ht), fun i t ht => (e _).trans (h.c2 i t ht)⟩
theorem Cps.keep {W W' : World} {g : Nat} {L : List Pt} (h : Cps W g L) (hb : Below W.heap.size W W') : Cps W' g L := h.below hb h.lt
theorem Cps.drew {W : World} {g : Nat} {L : List Pt} (h : Cps W g L) : Cps W.drew g L := ⟨h.lt, h.c0, h.c1, h.c2⟩
theorem Cps.of_owns {W : World} {base : Nat} {e : TypeId} {g n cap : Nat} {ps : List Pt} (h : W.ownsRow base e 3 (.slice (some ⟨g, 0, none⟩) n cap) n (cells3 ps)) : Cps W g ps := by
  have hc := h.cells (g := g) rfl
  have hlt := (h.lt g rfl).2
  refine ⟨hlt, fun i p hp => ?_, fun i p hp => ?_, fun i p hp => ?_⟩
  · have := hc _ _ (cells3_at ps i p hp).1
    rwa [Addr.add_mid] at this
  · have := hc _ _ (cells3_at ps i p hp).2.1
    rwa [Addr.add_mid, ← Nat.add_assoc] at this
  · have := hc _ _ (cells3_at ps i p hp).2.2
    rwa [Addr.add_mid, ← Nat.add_assoc] at this
theorem below_own3 {w w' : World} {B : Nat} {e : TypeId} {s : Nat} {v : Value} {n : Nat} {xs : List Value} (h : w.ownsRow B e s v n xs) (hb : Below w.heap.size w w') : w'.ownsRow B e s v n xs := by
  refine ⟨h.1, ?_⟩
  rcases h.2 with h2 | ⟨g, cap, cur, hv, hbg, hg, hr⟩
  · exact .inl h2
  · refine .inr ⟨g, cap, cur, hv, hbg, ?_, hr⟩
    rw [hb.block g (Array.getElem?_eq_some_iff.1 hg).1]; exact hg
theorem infoCP : (Tryz.prog.info? 62).map (fun i => (i.zero, i.size, i.bytes)) = some (some (.agg #[.int .u64 0, .int .u64 0, .bool false]), 3, 24) := by kernel_rfl
theorem fnd_tri (t : Tri) (w : World) :
    Calls Tryz.prog 36 #[.agg #[.int .u64 (t.1 : Int), .int .u64 (t.2.1 : Int), .bool t.2.2]] w fun e w' => e = .returned (.tuple #[.agg #[.int .u64 (px (asT t)), .int .u64 (py (asT t)), .bool (pb (asT t))], .bool (onT t)]) ∧ Below w.heap.size w w' := fndW t.1 t.2.1 t.2.2 w
set_option maxRecDepth 100000 in
set_option maxHeartbeats 2000000 in
theorem fpsI_any (ps : List Tri) (n g o cap : Nat) (w : World) (hl : ps.length = n) (hn : n ≤ 200) (hp : Pts w g o ps) :
    Calls Tryz.prog 54 #[.slice (some ⟨g, o, none⟩) n cap] w fun e w' => (∃ v, e = .returned (.tuple #[v, .bool (ps.all onT)]) ∧ (ps.all onT = true → w'.ownsRow w.heap.size 62 3 v n (cells3 (ps.map asT))) ∧ (ps.all onT = false → v = .slice none 0 0)) ∧ Below w.heap.size w w' := by
  obtain ⟨R, hR⟩ : ∃ R, Hid (R = ps.all onT) := ⟨_, rfl⟩
  rw [← hR.out]
  obtain ⟨i0, hi, hz0, hz1, hz2⟩ := info_parts infoCP
  obtain ⟨CS, hCS⟩ : ∃ CS, Hid (CS = fun j => cells3 ((ps.take j).map asT)) := ⟨_, rfl⟩
  have hst : Hid (∀ j, j < n → ∃ t : Tri, ps[j]? = some t ∧ CS (j + 1) = CS j ++ [.int .u64 (px (asT t)), .int .u64 (py (asT t)), .bool (pb (asT t))]) := fun j hj => by
    obtain ⟨t, ht⟩ : ∃ t, ps[j]? = some t := ⟨_, List.getElem?_eq_getElem (by omega)⟩
    refine ⟨t, ht, ?_⟩
    rw [hCS.out]
    simp only
    rw [List.take_add_one, ht, List.map_append, cells3_app]
    rfl
  have hC0 : CS 0 = [] := by rw [hCS.out]; rfl
  have hCn : Hid (CS n = cells3 (ps.map asT)) := by simp only [Hid]; rw [hCS.out, ← hl]; simp
  clear hCS
  go_enter Tryz.func54, Tryz.ntmps54
  go_wp2
  go_loopw [4, 11] (fun ov iv wr => ∃ j : Nat, j ≤ n ∧ iv = .int .i64 (j : Int) ∧ wr.ownsRow w.heap.size 62 3 ov j (CS j) ∧ Hid (∀ i, i < j → ∃ t, ps[i]? = some t ∧ onT t = true) ∧ Below w.heap.size w wr) (fun _ i _ => n - (intOf i).toNat)
  case atStart => exact ⟨0, by omega, rfl, by rw [hC0]; exact World.ownsRow_nil _ _ _ _, fun i hi => by omega, Below.refl _ _⟩
  case round =>
    clear hC0
    obtain ⟨j, hj, rfl, hown, hall, hbl⟩ := hrel
    have hsz := hbl.size
    by_cases hlt : j < n
    · have hli : (j : Int) < (n : Int) := by omega
      obtain ⟨t, ht, hnx⟩ := hst.out j hlt
      have pp := hp.below hbl hp.lt
      have c0 := pp.c0 j t ht
      have c1 := pp.c1 j t ht
      have c2 := pp.c2 j t ht
      have F := fnd_tri t
      have hmt : t ∈ ps := List.mem_of_getElem? ht
      have hRt : Hid (onT t = false → R = false) := fun h => by
        rw [hR.out]
        exact List.all_eq_false.2 ⟨t, hmt, by rw [h]; decide⟩
      have hnxt : Hid (onT t = true → ∀ i, i < j + 1 → ∃ t, ps[i]? = some t ∧ onT t = true) := fun h i hi => by
        by_cases hik : i = j
        · subst hik; exact ⟨t, ht, h⟩
        · exact hall.out i (by omega)
      obtain ⟨tx, ty, tc⟩ := t
      dsimp only at c0 c1 c2 F
      clear ht pp hmt hall
      generalize onT (tx, ty, tc) = ot at *
      generalize asT (tx, ty, tc) = q at *
      go_wp2_with fail
      refine (F _).mono ?_
      rintro e w1 ⟨rfl, b1⟩
      have hB1 : Below wr.heap.size wr (w1.alloc (Obj.cells #[.int .u64 (px q), .int .u64 (py q), .bool (pb q)] 62)) := by
        have h1 := ((Below.refl _ wr).alloc (Nat.le_refl _) (Obj.cells #[.int .u64 (tx : Int), .int .u64 (ty : Int), .bool tc] 27))
        have h2 := h1.trans (b1.mono h1.size)
        exact h2.alloc h2.size _
      replace hown := below_own3 hown hB1
      replace hbl := hbl.trans (hB1.mono hbl.size)
      have hsz1 : w.heap.size ≤ w1.heap.size + 1 := by have := hbl.size; simpa using this
      clear F c0 c1 c2 b1 hB1
      cases ot with
      | false =>
        have hr := hRt.out (by trivial)
        subst hr
        clear hRt hnxt hown
        go_wp2
        go_ret2
        first | exact ⟨rfl, hbl⟩ | exact ⟨⟨_, rfl, fun h => by cases h, fun _ => rfl⟩, hbl⟩ | (refine ⟨?_, hbl⟩; simp)
      | true =>
        have hn2 : Hid (∀ i, i < j + 1 → ∃ t, ps[i]? = some t ∧ onT t = true) := hnxt.out (by trivial)
        clear hRt hnxt
        go_wp2_with (first
          | (at_builtin; refine wpList_append_ow rfl _ _ 63 rfl w.heap.size 62 i0 (.agg #[.int .u64 0, .int .u64 0, .bool false]) 3 24 Tryz.underlying63 hi hz0 hz1 hz2 rfl (by decide) _ j (CS j) rfl (hown.alloc _) ⟨w1.heap.size + 1, 0, none⟩ 1 1 [.int .u64 (px q), .int .u64 (py q), .bool (pb q)] rfl rfl (World.news_of_block (cs := #[.int .u64 (px q), .int .u64 (py q), .bool (pb q)]) (by have := heap_alloc_new (w1.alloc (Obj.cells #[.int .u64 (px q), .int .u64 (py q), .bool (pb q)] 62)) (Obj.cells #[.int .u64 (px q), .int .u64 (py q), .bool (pb q)] 62); simpa using this)) (by simp [Value.oneCell']) (by decide) (by unfold maxLen; omega) (by omega) (by simp; omega) ?_; intro g2 cap2 w2 hown2 hgr2 hg2)
          | go_in)
        have R1 : w2.ownsRow w.heap.size 62 3 (.slice (some ⟨g2, 0, none⟩) (j + 1) cap2) (j + 1) (CS (j + 1)) := by rw [hnx]; exact hown2
        have R2 : Below w.heap.size w w2 := (hbl.alloc hbl.size _).grown hgr2 (by simp; omega) (fun r hr => (hown.lt r hr).1)
        clear hown hown2 hgr2 hbl
        go_wp2
        go_roundw
        case rel =>
          first
            | exact ⟨j + 1, by omega, by go_num, R1, hn2, R2⟩
            | ((repeat apply Exists.intro); exact ⟨⟨j + 1, by omega, by go_num, R1, hn2, R2⟩, rfl⟩)
        case measure => simp [intOf]; omega
    · obtain rfl : j = n := by omega
      have hr : R = true := by
        rw [hR.out, List.all_eq_true]
        intro t ht
        obtain ⟨i, hi⟩ := List.getElem?_of_mem ht
        obtain ⟨t', h', h''⟩ := hall.out i (by have := (List.getElem?_eq_some_iff.1 hi).1; omega)
        rw [hi] at h'; cases h'; exact h''
      subst hr
      rw [hCn.out] at hown
      clear hall hR hst hCn
      go_wp2
      go_ret2
      first | exact ⟨⟨_, rfl, hown⟩, hbl⟩ | exact ⟨⟨rfl, hown⟩, hbl⟩ | exact ⟨hown, hbl⟩ | (refine ⟨?_, hbl⟩; simpa using hown)
end Go.Proofs.YtagnikeaellbiaaGreatDoor

/-
  The program's contexts: contextOf, tag, scalar.
-/
namespace Go.Proofs.YtagnikeaellbiaaGreatDoor
open Go.RowKit M
set_option linter.unusedVariables false

/-- the context of a mode -/
def ctxB (k : Nat) : ByteArray := ⟨#[84, 79, 89, 80, 82, 70, 45]⟩ ++ (⟨#[48, 49, 50]⟩ : ByteArray).extract k (k + 1) ++ ⟨#[45, 77, 54, 49]⟩
theorem tagB_ctx (word : ByteArray) (k : Nat) : tagB word k = word ++ ctxB k := by
  unfold tagB ctxB
  rw [← ByteArray.append_assoc, ← ByteArray.append_assoc]
theorem ctxB_size (k : Nat) (h : k < 3) : (ctxB k).size = 12 := by
  rcases (show k = 0 ∨ k = 1 ∨ k = 2 by omega) with rfl | rfl | rfl <;> rfl
theorem ctx0 : ctxB 0 = ⟨#[84, 79, 89, 80, 82, 70, 45, 48, 45, 77, 54, 49]⟩ := by kernel_rfl
set_option maxRecDepth 100000 in
theorem smlI (k : Nat) (w : World) (hk : k < 3) :
    Calls Tryz.prog 117 #[.int .i64 k] w fun e w' => e = .returned (.string ((⟨#[48, 49, 50]⟩ : ByteArray).extract k (k + 1))) ∧ w = w' := by
  rcases (show k = 0 ∨ k = 1 ∨ k = 2 by omega) with rfl | rfl | rfl
  · go_enter Tryz.func117, Tryz.ntmps117
    go_wp2
    go_ret
    exact ⟨congrArg (fun s => Ending.returned (Value.string s)) (by kernel_rfl), rfl⟩
  · go_enter Tryz.func117, Tryz.ntmps117
    go_wp2
    go_ret
    exact ⟨congrArg (fun s => Ending.returned (Value.string s)) (by kernel_rfl), rfl⟩
  · go_enter Tryz.func117, Tryz.ntmps117
    go_wp2
    go_ret
    exact ⟨congrArg (fun s => Ending.returned (Value.string s)) (by kernel_rfl), rfl⟩
set_option maxRecDepth 100000 in
theorem fmtI_of (k : Int) (s : ByteArray) (w : World) (h0 : 0 ≤ k) (h1 : k < 100)
    (L : ∀ w, Calls Tryz.prog 117 #[.int .i64 k] w fun e w' => e = .returned (.string s) ∧ w = w') :
    Calls Tryz.prog 111 #[.int .i64 k, .int .i64 10] w fun e w' => e = .returned (.string s) ∧ w = w' := by
  go_enter Tryz.func111, Tryz.ntmps111
  go_wp2_with fail
  refine (L _).mono ?_
  rintro e w1 ⟨rfl, rfl⟩
  go_wp2
  go_ret
  exact ⟨rfl, rfl⟩
set_option maxRecDepth 100000 in
theorem itoI_of (k : Int) (s : ByteArray) (w : World)
    (L : ∀ w, Calls Tryz.prog 111 #[.int .i64 k, .int .i64 10] w fun e w' => e = .returned (.string s) ∧ w = w') :
    Calls Tryz.prog 96 #[.int .i64 k] w fun e w' => e = .returned (.string s) ∧ w = w' := by
  go_enter Tryz.func96, Tryz.ntmps96
  go_wp2_with fail
  refine (L _).mono ?_
  rintro e w1 ⟨rfl, rfl⟩
  go_wp2
  go_ret
  exact ⟨rfl, rfl⟩
set_option maxRecDepth 100000 in
theorem itoP_of (k : Int) (s : ByteArray) (w : World)
    (L : ∀ w, Calls Tryz.prog 96 #[.int .i64 k] w fun e w' => e = .returned (.string s) ∧ w = w') :
    Calls Tryz.prog 79 #[.int .i64 k] w fun e w' => e = .returned (.string s) ∧ w = w' := by
  go_enter Tryz.func79, Tryz.ntmps79
  go_wp2_with fail
  refine (L _).mono ?_
  rintro e w1 ⟨rfl, rfl⟩
  go_wp2
  go_ret
  exact ⟨rfl, rfl⟩
set_option maxRecDepth 100000 in
theorem ctxI_yes (k : Nat) (w : World) (hk : k < 3) :
    Calls Tryz.prog 53 #[.int .i64 k] w fun e w' => e = .returned (.tuple #[.string (ctxB k), .bool true]) ∧ w = w' := by
  have L := fun w => itoP_of k _ w (fun w => itoI_of k _ w (fun w => fmtI_of k _ w (by omega) (by omega) (fun w => smlI k w hk)))
  have hs : ((⟨#[48, 49, 50]⟩ : ByteArray).extract k (k + 1)).size = 1 := by
    rcases (show k = 0 ∨ k = 1 ∨ k = 2 by omega) with rfl | rfl | rfl <;> rfl
  unfold ctxB
  generalize (⟨#[48, 49, 50]⟩ : ByteArray).extract k (k + 1) = D at *
  have g1 : ¬ (k : Int) < 0 := by omega
  have g2 : ¬ (3 : Int) ≤ (k : Int) := by omega
  have q1 : ¬ (9223372036854775807 < (ByteArray.mk #[84, 79, 89, 80, 82, 70, 45]).size + D.size) := by rw [hs]; decide
  have q2 : ¬ (9223372036854775807 < (ByteArray.mk #[84, 79, 89, 80, 82, 70, 45] ++ D).size + (ByteArray.mk #[45, 77, 54, 49]).size) := by rw [ByteArray.size_append, hs]; decide
  go_enter Tryz.func53, Tryz.ntmps53
  go_wp2_with fail
  refine (L _).mono ?_
  rintro e w1 ⟨rfl, rfl⟩
  clear L hk
  go_wp2
  go_ret2
  exact ⟨rfl, rfl⟩
set_option maxRecDepth 100000 in
theorem ctxI_no (k : Int) (w : World) (hk : ¬ (0 ≤ k ∧ k ≤ 2)) :
    Calls Tryz.prog 53 #[.int .i64 k] w fun e w' => e = .returned (.tuple #[.string ⟨#[]⟩, .bool false]) ∧ w = w' := by
  by_cases h0 : k < 0
  · clear hk
    go_enter Tryz.func53, Tryz.ntmps53
    go_wp2
    go_ret2
    exact ⟨rfl, rfl⟩
  · have g2 : (3 : Int) ≤ k := by omega
    clear hk
    go_enter Tryz.func53, Tryz.ntmps53
    go_wp2
    go_ret2
    exact ⟨rfl, rfl⟩
set_option maxRecDepth 100000 in
theorem tagI_any (c word : ByteArray) (w : World) (h1 : c.size ≤ 1000) (h2 : word.size ≤ 1000) :
    Calls Tryz.prog 82 #[.string c, .string word] w fun e w' => e = .returned (.string (word ++ c)) ∧ Below w.heap.size w w' := by
  go_enter Tryz.func82, Tryz.ntmps82
  go_wp2
  go_ret
  exact ⟨rfl, Below.refl _ _⟩
theorem rn_res {W : World} {b : Nat} {y : Int} {fn : Func} {p : Tmp} (h : fn.results = #[.cell p 77]) (tmps : Array Value) (hp : tmps.getD p undef = .pointer (some ⟨b, 0, none⟩)) (hc : RN W b y) :
    (results fn tmps).run Tryz.prog W = .ok (.agg #[.int .u64 y]) W :=
  results_mid h tmps W b 0 [.int .u64 y] _ hp hc.range Tryz.underlying77 rfl (by kernel_rfl)
set_option maxRecDepth 100000 in
set_option maxHeartbeats 1000000 in
theorem scaI_of (c s t : ByteArray) (z : Int) (w : World)
    (T : ∀ w, Calls Tryz.prog 82 #[.string c, .string ⟨#[72, 97, 115, 104, 84, 111, 83, 99, 97, 108, 97, 114, 45]⟩] w fun e w' => e = .returned (.string t) ∧ Below w.heap.size w w')
    (H : ∀ w', Below w.heap.size w w' → Calls Tryz.prog 102 #[.string s, .string t] w' fun e w'' => e = .returned (.tuple #[.agg #[.int .u64 z], .bool true]) ∧ Below w'.heap.size w' w'') :
    Calls Tryz.prog 83 #[.string c, .string s] w fun e w' => e = .returned (.agg #[.int .u64 z]) ∧ Below w.heap.size w w' := by
  have hr : RN (w.alloc (Obj.cells #[.int .u64 0] 77)) w.heap.size 0 := heap_alloc_new w _
  have hb := (Below.refl _ w).alloc (Nat.le_refl _) (Obj.cells #[.int .u64 0] 77)
  go_enter Tryz.func83, Tryz.ntmps83
  go_wp2_with fail
  refine (T _).mono ?_
  rintro e w1 ⟨rfl, b1⟩
  replace hr := hr.keep b1
  replace hb := hb.trans (b1.mono hb.size)
  go_wp2_with fail
  refine (H _ hb).mono ?_
  rintro e w2 ⟨rfl, b2⟩
  replace hr := (hr.keep b2).keep ((Below.refl _ w2).alloc (Nat.le_refl _) (Obj.cells #[.int .u64 z] 77))
  replace hb := hb.trans (b2.mono hb.size)
  replace hb := hb.alloc hb.size (Obj.cells #[.int .u64 z] 77)
  have d0 := hr.cell
  have f0 := hr.frz
  clear T H b1 b2
  go_wp2
  exact bodyPost_ret (v := .agg #[.int .u64 z]) (rn_res (fn := Tryz.f83) (p := 4) Tryz.results83 _ rfl (hr.set z)) rfl ⟨rfl, hb.setCell (p := ⟨w.heap.size, 0, none⟩) (Nat.le_refl _) _⟩
/-- the program's scalar of a text -/
theorem scaI_any (s : ByteArray) (k : Nat) (w : World) (hT : TabK w) (hk : k < 3) (hs : s.size ≤ 65535) :
    Calls Tryz.prog 83 #[.string (ctxB k), .string s] w fun e w' => e = .returned (.agg #[.int .u64 (scaN s k : Nat)]) ∧ Below w.heap.size w w' := by
  have hgw : 3 < w.heap.size := World.block_lt_of_cell? w _ (hT 0 (by omega))
  have hz := ctxB_size k hk
  have e : scaT k = ⟨#[72, 97, 115, 104, 84, 111, 83, 99, 97, 108, 97, 114, 45]⟩ ++ ctxB k := tagB_ctx _ k
  have hz2 : (scaT k).size = 25 := by rw [e, ByteArray.size_append, hz]; rfl
  refine scaI_of (ctxB k) s (scaT k) _ w (fun w => ?_) (fun w' hb => ?_)
  · rw [e]
    exact tagI_any (ctxB k) _ w (by omega) (by decide)
  · exact h2sN_yes s (scaT k) w' (keepT hT hgw hb) ⟨by omega, by omega, hs⟩
end Go.Proofs.YtagnikeaellbiaaGreatDoor

/-
  The program's batches: findBatch.
-/
namespace Go.Proofs.YtagnikeaellbiaaGreatDoor
open Go.RowKit M
set_option linter.unusedVariables false

/-- a block that holds a batch -/
def B6 (W : World) (b : Nat) (s : ByteArray) (x y : Int) (c : Bool) (a1 : Option Addr) (n1 k1 : Nat) (a2 : Option Addr) (n2 k2 : Nat) : Prop := W.heap[b]? = some (.cells #[.string s, .int .u64 x, .int .u64 y, .bool c, .slice a1 n1 k1, .slice a2 n2 k2] 65)
section
variable {W W' : World} {b : Nat} {s : ByteArray} {x y : Int} {c : Bool} {a1 a2 : Option Addr} {n1 k1 n2 k2 : Nat}
theorem B6.c0 (h : B6 W b s x y c a1 n1 k1 a2 n2 k2) : W.cell? ⟨b, 0, none⟩ = some (.string s) := by unfold B6 at h; simp [World.cell?, h]
theorem B6.c1 (h : B6 W b s x y c a1 n1 k1 a2 n2 k2) : W.cell? ⟨b, 1, none⟩ = some (.int .u64 x) := by unfold B6 at h; simp [World.cell?, h]
theorem B6.c2 (h : B6 W b s x y c a1 n1 k1 a2 n2 k2) : W.cell? ⟨b, 2, none⟩ = some (.int .u64 y) := by unfold B6 at h; simp [World.cell?, h]
theorem B6.c3 (h : B6 W b s x y c a1 n1 k1 a2 n2 k2) : W.cell? ⟨b, 3, none⟩ = some (.bool c) := by unfold B6 at h; simp [World.cell?, h]
theorem B6.c4 (h : B6 W b s x y c a1 n1 k1 a2 n2 k2) : W.cell? ⟨b, 4, none⟩ = some (.slice a1 n1 k1) := by unfold B6 at h; simp [World.cell?, h]
theorem B6.c5 (h : B6 W b s x y c a1 n1 k1 a2 n2 k2) : W.cell? ⟨b, 5, none⟩ = some (.slice a2 n2 k2) := by unfold B6 at h; simp [World.cell?, h]
theorem B6.frz (h : B6 W b s x y c a1 n1 k1 a2 n2 k2) (i : Nat) : W.frozen? ⟨b, i, none⟩ = false := by unfold B6 at h; simp [World.frozen?, h]
theorem B6.lt (h : B6 W b s x y c a1 n1 k1 a2 n2 k2) : b < W.heap.size := (Array.getElem?_eq_some_iff.1 h).1
theorem B6.keep (h : B6 W b s x y c a1 n1 k1 a2 n2 k2) (hb : Below W.heap.size W W') : B6 W' b s x y c a1 n1 k1 a2 n2 k2 := (hb.block b h.lt).trans h
theorem B6.new (w : World) (s : ByteArray) (x y : Int) (c : Bool) (a1 : Option Addr) (n1 k1 : Nat) (a2 : Option Addr) (n2 k2 : Nat) : B6 (w.alloc (.cells #[.string s, .int .u64 x, .int .u64 y, .bool c, .slice a1 n1 k1, .slice a2 n2 k2] 65)) w.heap.size s x y c a1 n1 k1 a2 n2 k2 := heap_alloc_new w _
theorem B6.alloc (h : B6 W b s x y c a1 n1 k1 a2 n2 k2) (o : Obj) : B6 (W.alloc o) b s x y c a1 n1 k1 a2 n2 k2 := (Below.heap_alloc W o b h.lt).trans h
theorem B6.at {b' : Nat} (h : B6 W b s x y c a1 n1 k1 a2 n2 k2) (e : b = b') : B6 W b' s x y c a1 n1 k1 a2 n2 k2 := e ▸ h
theorem B6.range (h : B6 W b s x y c a1 n1 k1 a2 n2 k2) : W.rangeAt b 0 [.string s, .int .u64 x, .int .u64 y, .bool c, .slice a1 n1 k1, .slice a2 n2 k2] := fun j v hj => by
  match j, hj with
  | 0, hj => cases hj; exact h.c0
  | 1, hj => cases hj; exact h.c1
  | 2, hj => cases hj; exact h.c2
  | 3, hj => cases hj; exact h.c3
  | 4, hj => cases hj; exact h.c4
  | 5, hj => cases hj; exact h.c5
def set6 (W : World) (b : Nat) (v0 v1 v2 v3 v4 v5 : Value) : World := (((((W.setCell ⟨b, 0, none⟩ v0).setCell ⟨b, 1, none⟩ v1).setCell ⟨b, 2, none⟩ v2).setCell ⟨b, 3, none⟩ v3).setCell ⟨b, 4, none⟩ v4).setCell ⟨b, 5, none⟩ v5
theorem B6.set (h : B6 W b s x y c a1 n1 k1 a2 n2 k2) (s' : ByteArray) (x' y' : Int) (c' : Bool) (a1' : Option Addr) (n1' k1' : Nat) (a2' : Option Addr) (n2' k2' : Nat) :
    B6 (set6 W b (.string s') (.int .u64 x') (.int .u64 y') (.bool c') (.slice a1' n1' k1') (.slice a2' n2' k2')) b s' x' y' c' a1' n1' k1' a2' n2' k2' := by
  unfold B6 set6 at *
  simp [World.setCell, Array.getElem?_modify, h]
theorem set6_below {N : Nat} {w : World} (h : Below N w W) (hb : N ≤ b) (v0 v1 v2 v3 v4 v5 : Value) : Below N w (set6 W b v0 v1 v2 v3 v4 v5) :=
  (((((h.setCell (p := ⟨b, 0, none⟩) hb _).setCell (p := ⟨b, 1, none⟩) hb _).setCell (p := ⟨b, 2, none⟩) hb _).setCell (p := ⟨b, 3, none⟩) hb _).setCell (p := ⟨b, 4, none⟩) hb _).setCell (p := ⟨b, 5, none⟩) hb _
theorem set6_other {k : Nat} (hk : k ≠ b) (v0 v1 v2 v3 v4 v5 : Value) : (set6 W b v0 v1 v2 v3 v4 v5).heap[k]? = W.heap[k]? := by
  unfold set6
  simp only [World.setCell]
  simp [Array.getElem?_modify, Ne.symm hk]
theorem bat_res {fn : Func} {p u : Tmp} (h : fn.results = #[.cell p 65, .tmp u]) (tmps : Array Value) (hp : tmps.getD p undef = .pointer (some ⟨b, 0, none⟩)) (hc : B6 W b s x y c a1 n1 k1 a2 n2 k2) :
    (results fn tmps).run Tryz.prog W = .ok (.tuple #[.agg #[.string s, .int .u64 x, .int .u64 y, .bool c, .slice a1 n1 k1, .slice a2 n2 k2], tmps.getD u undef]) W := by
  have hp' : tmps[p]?.getD undef = .pointer (some ⟨b, 0, none⟩) := by simpa using hp
  simp [results, h, hp', asAddr, run_loadVar_mid W b 0 65 [.string s, .int .u64 x, .int .u64 y, .bool c, .slice a1 n1 k1, .slice a2 n2 k2] _ hc.range Tryz.underlying65 rfl (by kernel_rfl)]
end
section
variable (mode bx by' : Int) (bc : Bool) (gc oc nc cc gd od nd cd : Nat) (w : World)
set_option maxRecDepth 100000 in
set_option maxHeartbeats 1000000 in
theorem fbI_early (s : ByteArray) (kn : Bool) (h : kn = false ∨ nc ≠ nd ∨ nc < 1 ∨ 200 < nc)
    (C : ∀ w, Calls Tryz.prog 53 #[.int .i64 mode] w fun e w' => e = .returned (.tuple #[.string s, .bool kn]) ∧ w = w') :
    Calls Tryz.prog 31 #[.int .i64 mode, .agg #[.int .u64 bx, .int .u64 by', .bool bc], .slice (some ⟨gc, oc, none⟩) nc cc, .slice (some ⟨gd, od, none⟩) nd cd] w fun e w' => e = .returned (.tuple #[.agg #[.string ⟨#[]⟩, .int .u64 0, .int .u64 0, .bool false, .slice none 0 0, .slice none 0 0], .bool false]) ∧ Below w.heap.size w w' := by
  have r8 : B6 ((w.alloc (Obj.cells #[.int .u64 bx, .int .u64 by', .bool bc] 27)).alloc (Obj.cells #[.string ⟨#[]⟩, .int .u64 0, .int .u64 0, .bool false, .slice none 0 0, .slice none 0 0] 65)) (w.heap.size + 1) ⟨#[]⟩ 0 0 false none 0 0 none 0 0 := (B6.new _ _ _ _ _ _ _ _ _ _ _).at (by simp)
  have hb : Below w.heap.size w ((w.alloc (Obj.cells #[.int .u64 bx, .int .u64 by', .bool bc] 27)).alloc (Obj.cells #[.string ⟨#[]⟩, .int .u64 0, .int .u64 0, .bool false, .slice none 0 0, .slice none 0 0] 65)) := ((Below.refl _ w).alloc (Nat.le_refl _) _).alloc (by simp) _
  have d0 := r8.c0
  have d1 := r8.c1
  have d2 := r8.c2
  have d3 := r8.c3
  have d4 := r8.c4
  have d5 := r8.c5
  have df := r8.frz
  go_enter Tryz.func31, Tryz.ntmps31
  go_wp2_with fail
  refine (C _).mono ?_
  rintro e w1 ⟨rfl, rfl⟩
  clear C
  cases kn with
  | false =>
    clear h
    go_wp2
    exact bodyPost_ret (v := .tuple #[.agg #[.string ⟨#[]⟩, .int .u64 0, .int .u64 0, .bool false, .slice none 0 0, .slice none 0 0], .bool false]) (bat_res (fn := Tryz.f31) (p := 8) (u := 9) Tryz.results31 _ rfl r8) rfl ⟨rfl, hb⟩
  | true =>
    by_cases h1 : nc = nd
    · subst h1
      by_cases h2 : nc < 1
      · have g2 : (nc : Int) < 1 := by omega
        clear h
        go_wp2
        exact bodyPost_ret (v := .tuple #[.agg #[.string ⟨#[]⟩, .int .u64 0, .int .u64 0, .bool false, .slice none 0 0, .slice none 0 0], .bool false]) (bat_res (fn := Tryz.f31) (p := 8) (u := 9) Tryz.results31 _ rfl r8) rfl ⟨rfl, hb⟩
      · have g2 : ¬ (nc : Int) < 1 := by omega
        have g3 : (200 : Int) < (nc : Int) := by
          rcases h with h | h | h | h
          · simp at h
          · exact absurd rfl h
          · exact absurd h h2
          · omega
        clear h
        go_wp2
        exact bodyPost_ret (v := .tuple #[.agg #[.string ⟨#[]⟩, .int .u64 0, .int .u64 0, .bool false, .slice none 0 0, .slice none 0 0], .bool false]) (bat_res (fn := Tryz.f31) (p := 8) (u := 9) Tryz.results31 _ rfl r8) rfl ⟨rfl, hb⟩
    · have g1 : ((nc : Int) != (nd : Int)) = true := by
        simp only [bne_iff_ne, ne_eq]
        omega
      clear h
      go_wp2
      exact bodyPost_ret (v := .tuple #[.agg #[.string ⟨#[]⟩, .int .u64 0, .int .u64 0, .bool false, .slice none 0 0, .slice none 0 0], .bool false]) (bat_res (fn := Tryz.f31) (p := 8) (u := 9) Tryz.results31 _ rfl r8) rfl ⟨rfl, hb⟩
set_option maxRecDepth 100000 in
set_option maxHeartbeats 2000000 in
theorem fbI_late (s : ByteArray) (fx fy : Int) (fc ob o1 o2 : Bool) (cs ds : List Pt) (h1 : 1 ≤ nc) (h2 : nc ≤ 200)
    (C : ∀ w, Calls Tryz.prog 53 #[.int .i64 mode] w fun e w' => e = .returned (.tuple #[.string s, .bool true]) ∧ w = w')
    (F : ∀ w, Calls Tryz.prog 36 #[.agg #[.int .u64 bx, .int .u64 by', .bool bc]] w fun e w' => e = .returned (.tuple #[.agg #[.int .u64 fx, .int .u64 fy, .bool fc], .bool ob]) ∧ Below w.heap.size w w')
    (F1 : ∀ w', Below w.heap.size w w' → Calls Tryz.prog 54 #[.slice (some ⟨gc, oc, none⟩) nc cc] w' fun e w'' => (∃ v, e = .returned (.tuple #[v, .bool o1]) ∧ (o1 = true → w''.ownsRow w'.heap.size 62 3 v nc (cells3 cs)) ∧ (o1 = false → v = .slice none 0 0)) ∧ Below w'.heap.size w' w'')
    (F2 : ∀ w', Below w.heap.size w w' → Calls Tryz.prog 54 #[.slice (some ⟨gd, od, none⟩) nc cd] w' fun e w'' => (∃ v, e = .returned (.tuple #[v, .bool o2]) ∧ (o2 = true → w''.ownsRow w'.heap.size 62 3 v nc (cells3 ds)) ∧ (o2 = false → v = .slice none 0 0)) ∧ Below w'.heap.size w' w'') :
    Calls Tryz.prog 31 #[.int .i64 mode, .agg #[.int .u64 bx, .int .u64 by', .bool bc], .slice (some ⟨gc, oc, none⟩) nc cc, .slice (some ⟨gd, od, none⟩) nc cd] w fun e w' => (∃ a1 n1 k1 a2 n2 k2, e = .returned (.tuple #[.agg #[.string s, .int .u64 fx, .int .u64 fy, .bool fc, .slice a1 n1 k1, .slice a2 n2 k2], .bool (ob && o1 && o2)]) ∧
      (o1 = true → o2 = true → ∃ g1 g2, a1 = some ⟨g1, 0, none⟩ ∧ n1 = nc ∧ Cps w' g1 cs ∧ a2 = some ⟨g2, 0, none⟩ ∧ n2 = nc ∧ Cps w' g2 ds)) ∧ Below w.heap.size w w' := by
  have r8 : B6 ((w.alloc (Obj.cells #[.int .u64 bx, .int .u64 by', .bool bc] 27)).alloc (Obj.cells #[.string ⟨#[]⟩, .int .u64 0, .int .u64 0, .bool false, .slice none 0 0, .slice none 0 0] 65)) (w.heap.size + 1) ⟨#[]⟩ 0 0 false none 0 0 none 0 0 := (B6.new _ _ _ _ _ _ _ _ _ _ _).at (by simp)
  have hb : Below w.heap.size w ((w.alloc (Obj.cells #[.int .u64 bx, .int .u64 by', .bool bc] 27)).alloc (Obj.cells #[.string ⟨#[]⟩, .int .u64 0, .int .u64 0, .bool false, .slice none 0 0, .slice none 0 0] 65)) := ((Below.refl _ w).alloc (Nat.le_refl _) _).alloc (by simp) _
  have g2 : ¬ (nc : Int) < 1 := by omega
  have g3 : ¬ (200 : Int) < (nc : Int) := by omega
  go_enter Tryz.func31, Tryz.ntmps31
  go_wp2_with fail
  refine (C _).mono ?_
  rintro e w1 ⟨rfl, rfl⟩
  clear C
  go_wp2_with fail
  refine (F _).mono ?_
  rintro e w2 ⟨rfl, b2⟩
  have k12 := K3.new w2 62 fx fy fc
  replace r8 := (r8.keep b2).alloc (Obj.cells #[.int .u64 fx, .int .u64 fy, .bool fc] 62)
  replace hb := hb.trans (b2.mono hb.size)
  replace hb := hb.alloc hb.size (Obj.cells #[.int .u64 fx, .int .u64 fy, .bool fc] 62)
  clear F b2
  go_wp2_with fail
  refine (F1 _ hb).mono ?_
  rintro e w3 ⟨⟨v1, rfl, hy1, hn1⟩, b3⟩
  replace k12 := k12.keep b3
  replace r8 := r8.keep b3
  replace hb := hb.trans (b3.mono hb.size)
  obtain ⟨a1, m1, q1, rfl, hc1⟩ : ∃ a1 m1 q1, v1 = .slice a1 m1 q1 ∧ (o1 = true → ∃ g1, a1 = some ⟨g1, 0, none⟩ ∧ m1 = nc ∧ Cps w3 g1 cs) := by
    cases o1 with
    | false => exact ⟨none, 0, 0, hn1 rfl, fun h => by cases h⟩
    | true =>
      have ho := hy1 rfl
      rcases ho.2 with ⟨_, h0⟩ | ⟨g, cap, cur, hv, -⟩
      · omega
      · subst hv
        exact ⟨_, _, _, rfl, fun _ => ⟨g, rfl, rfl, Cps.of_owns ho⟩⟩
  clear F1 b3 hy1 hn1
  go_wp2_with fail
  refine (F2 _ hb).mono ?_
  rintro e w4 ⟨⟨v2, rfl, hy2, hn2⟩, b4⟩
  replace k12 := k12.keep b4
  replace r8 := r8.keep b4
  replace hb := hb.trans (b4.mono hb.size)
  have hc1' : Hid (o1 = true → ∃ g1, a1 = some ⟨g1, 0, none⟩ ∧ m1 = nc ∧ Cps w4 g1 cs) := fun h => by
    obtain ⟨g1, e1, e2, e3⟩ := hc1 h
    exact ⟨g1, e1, e2, e3.keep b4⟩
  clear hc1
  obtain ⟨a2, m2, q2, rfl, hc2⟩ : ∃ a2 m2 q2, v2 = .slice a2 m2 q2 ∧ Hid (o2 = true → ∃ g2, a2 = some ⟨g2, 0, none⟩ ∧ m2 = nc ∧ Cps w4 g2 ds) := by
    cases o2 with
    | false => exact ⟨none, 0, 0, hn2 rfl, fun h => by cases h⟩
    | true =>
      have ho := hy2 rfl
      rcases ho.2 with ⟨_, h0⟩ | ⟨g, cap, cur, hv, -⟩
      · omega
      · subst hv
        exact ⟨_, _, _, rfl, fun _ => ⟨g, rfl, rfl, Cps.of_owns ho⟩⟩
  clear F2 b4 hy2 hn2
  have d0 := r8.c0
  have d1 := r8.c1
  have d2 := r8.c2
  have d3 := r8.c3
  have d4 := r8.c4
  have d5 := r8.c5
  have df := r8.frz
  have e0 := k12.c0
  have e1 := k12.c1
  have e2 := k12.c2
  have hpost : ∀ W5, W5 = set6 w4 (w.heap.size + 1) (.string s) (.int .u64 fx) (.int .u64 fy) (.bool fc) (.slice a1 m1 q1) (.slice a2 m2 q2) → (o1 = true → o2 = true → ∃ g1 g2, a1 = some ⟨g1, 0, none⟩ ∧ m1 = nc ∧ Cps W5 g1 cs ∧ a2 = some ⟨g2, 0, none⟩ ∧ m2 = nc ∧ Cps W5 g2 ds) := by
    rintro W5 rfl h1 h2
    obtain ⟨g1, p1, p2, p3⟩ := hc1'.out h1
    obtain ⟨g2, p4, p5, p6⟩ := hc2.out h2
    have mv : ∀ g L, Cps w4 g L → 0 < L.length → Cps (set6 w4 (w.heap.size + 1) (.string s) (.int .u64 fx) (.int .u64 fy) (.bool fc) (.slice a1 m1 q1) (.slice a2 m2 q2)) g L := by
      intro g L hL hpos
      have hne : g ≠ w.heap.size + 1 := by
        rintro rfl
        obtain ⟨p, hp⟩ : ∃ p, L[0]? = some p := ⟨_, List.getElem?_eq_getElem hpos⟩
        have := hL.c0 0 p hp
        rw [show (0 + 0 * 3 : Nat) = 0 from rfl, d0] at this
        cases this
      have ec : ∀ i, (set6 w4 (w.heap.size + 1) (.string s) (.int .u64 fx) (.int .u64 fy) (.bool fc) (.slice a1 m1 q1) (.slice a2 m2 q2)).cell? ⟨g, i, none⟩ = w4.cell? ⟨g, i, none⟩ := fun i => World.cell?_of_block (w := w4) (a := ⟨g, i, none⟩) (set6_other hne _ _ _ _ _ _)
      refine ⟨?_, fun i p hp => (ec _).trans (hL.c0 i p hp), fun i p hp => (ec _).trans (hL.c1 i p hp), fun i p hp => (ec _).trans (hL.c2 i p hp)⟩
      have := (set6_below (Below.refl w4.heap.size w4) (b := w4.heap.size) (Nat.le_refl _) (.bool true) (.bool true) (.bool true) (.bool true) (.bool true) (.bool true)).size
      have h3 : (set6 w4 (w.heap.size + 1) (.string s) (.int .u64 fx) (.int .u64 fy) (.bool fc) (.slice a1 m1 q1) (.slice a2 m2 q2)).heap.size = w4.heap.size := by simp [set6, World.setCell]
      rw [h3]; exact hL.lt
    have hk : ∀ L : List Pt, (∀ g, Cps w4 g L → 0 < L.length ∨ L = []) := fun L g _ => by cases L <;> simp
    have mv' : ∀ g L, Cps w4 g L → Cps (set6 w4 (w.heap.size + 1) (.string s) (.int .u64 fx) (.int .u64 fy) (.bool fc) (.slice a1 m1 q1) (.slice a2 m2 q2)) g L := by
      intro g L hL
      cases L with
      | nil =>
        refine ⟨?_, fun i p hp => by simp at hp, fun i p hp => by simp at hp, fun i p hp => by simp at hp⟩
        have h3 : (set6 w4 (w.heap.size + 1) (.string s) (.int .u64 fx) (.int .u64 fy) (.bool fc) (.slice a1 m1 q1) (.slice a2 m2 q2)).heap.size = w4.heap.size := by simp [set6, World.setCell]
        rw [h3]; exact hL.lt
      | cons p r => exact mv g _ hL (by simp)
    exact ⟨g1, g2, p1, p2, mv' g1 _ p3, p4, p5, mv' g2 _ p6⟩
  clear hc1' hc2
  cases ob with
  | false =>
    go_wp2
    refine bodyPost_ret (v := .tuple #[.agg #[.string s, .int .u64 fx, .int .u64 fy, .bool fc, .slice a1 m1 q1, .slice a2 m2 q2], .bool false]) (bat_res (fn := Tryz.f31) (p := 8) (u := 9) Tryz.results31 _ rfl (r8.set _ _ _ _ _ _ _ _ _ _)) rfl ⟨⟨a1, m1, q1, a2, m2, q2, rfl, hpost _ rfl⟩, set6_below hb (by omega) _ _ _ _ _ _⟩
  | true =>
    cases o1 with
    | false =>
      go_wp2
      refine bodyPost_ret (v := .tuple #[.agg #[.string s, .int .u64 fx, .int .u64 fy, .bool fc, .slice a1 m1 q1, .slice a2 m2 q2], .bool false]) (bat_res (fn := Tryz.f31) (p := 8) (u := 9) Tryz.results31 _ rfl (r8.set _ _ _ _ _ _ _ _ _ _)) rfl ⟨⟨a1, m1, q1, a2, m2, q2, rfl, fun h => by cases h⟩, set6_below hb (by omega) _ _ _ _ _ _⟩
    | true =>
      go_wp2
      refine bodyPost_ret (v := .tuple #[.agg #[.string s, .int .u64 fx, .int .u64 fy, .bool fc, .slice a1 m1 q1, .slice a2 m2 q2], .bool o2]) (bat_res (fn := Tryz.f31) (p := 8) (u := 9) Tryz.results31 _ rfl (r8.set _ _ _ _ _ _ _ _ _ _)) rfl (by
        have hp := hpost _ rfl
        refine ⟨?_, set6_below hb (by omega) _ _ _ _ _ _⟩
        exact ⟨a1, m1, q1, a2, m2, ⟨q2, rfl⟩, fun h => by
          obtain ⟨g1, g2, x1, x2, x3, x4, x5, x6⟩ := hp (by trivial) h
          exact ⟨g1, x1, x2, x3, g2, x4, x5, x6⟩⟩)
end
/-- the program's look at a batch that is in order -/
theorem fbI_yes (mode : Int) (b : Tri) (cs ds : List Tri) (gc oc cc gd od cd : Nat) (w : World) (hc : Pts w gc oc cs) (hd : Pts w gd od ds) (h : batB mode b b cs ds = true) :
    Calls Tryz.prog 31 #[.int .i64 mode, triW b, .slice (some ⟨gc, oc, none⟩) cs.length cc, .slice (some ⟨gd, od, none⟩) ds.length cd] w fun e w' => ∃ g1 k1 g2 k2, e = .returned (.tuple #[.agg #[.string (ctxB mode.toNat), .int .u64 (px (asT b)), .int .u64 (py (asT b)), .bool (pb (asT b)), .slice (some ⟨g1, 0, none⟩) cs.length k1, .slice (some ⟨g2, 0, none⟩) cs.length k2], .bool true]) ∧
      Cps w' g1 (cs.map asT) ∧ Cps w' g2 (ds.map asT) ∧ Below w.heap.size w w' := by
  have h' := h
  rw [batB_iff] at h'
  obtain ⟨h1, h2, -, h4, h5, h6, h7⟩ := h'
  obtain ⟨k, rfl⟩ : ∃ k : Nat, mode = (k : Int) := ⟨mode.toNat, by omega⟩
  have a6 : cs.all onT = true := List.all_eq_true.2 h6
  have a7 : ds.all onT = true := List.all_eq_true.2 h7
  rw [Int.toNat_natCast, ← h5]
  have F1 := fun w' hb => fpsI_any cs cs.length gc oc cc w' rfl h4.2 (hc.below (B := w.heap.size) hb hc.lt)
  have F2 := fun w' hb => fpsI_any ds cs.length gd od cd w' h5.symm h4.2 (hd.below (B := w.heap.size) hb hd.lt)
  refine (fbI_late k _ _ _ gc oc cs.length cc gd od cd w (ctxB k) _ _ _ (onT b) (cs.all onT) (ds.all onT) (cs.map asT) (ds.map asT) h4.1 h4.2 (fun w => ctxI_yes k w (by omega)) (fnd_tri b) F1 F2).mono ?_
  rintro e w' ⟨⟨a1, n1, k1, a2, n2, k2, rfl, hx⟩, hb⟩
  obtain ⟨g1, g2, rfl, rfl, q1, rfl, rfl, q2⟩ := hx a6 a7
  refine ⟨g1, k1, g2, k2, ?_, q1, q2, hb⟩
  rw [h2, a6, a7]; rfl
theorem fbI_no (mode : Int) (b : Tri) (cs ds : List Tri) (gc oc cc gd od cd : Nat) (w : World) (hc : Pts w gc oc cs) (hd : Pts w gd od ds) (h : batB mode b b cs ds = false) :
    Calls Tryz.prog 31 #[.int .i64 mode, triW b, .slice (some ⟨gc, oc, none⟩) cs.length cc, .slice (some ⟨gd, od, none⟩) ds.length cd] w fun e w' => ∃ s x y c a1 n1 k1 a2 n2 k2, e = .returned (.tuple #[.agg #[.string s, .int .u64 x, .int .u64 y, .bool c, .slice a1 n1 k1, .slice a2 n2 k2], .bool false]) ∧ Below w.heap.size w w' := by
  by_cases hh : (0 ≤ mode ∧ mode ≤ 2) ∧ cs.length = ds.length ∧ 1 ≤ cs.length ∧ cs.length ≤ 200
  · obtain ⟨h1, h5, h3, h4⟩ := hh
    obtain ⟨k, rfl⟩ : ∃ k : Nat, mode = (k : Int) := ⟨mode.toNat, by omega⟩
    have F1 := fun w' hb => fpsI_any cs cs.length gc oc cc w' rfl h4 (hc.below (B := w.heap.size) hb hc.lt)
    have F2 := fun w' hb => fpsI_any ds cs.length gd od cd w' h5.symm h4 (hd.below (B := w.heap.size) hb hd.lt)
    have e : (onT b && cs.all onT && ds.all onT) = false := by
      cases hx : onT b && cs.all onT && ds.all onT with
      | false => rfl
      | true =>
        simp only [Bool.and_eq_true] at hx
        have : batB k b b cs ds = true := (batB_iff _ _ _ _ _).2 ⟨h1, hx.1.1, hx.1.1, ⟨h3, h4⟩, h5, List.all_eq_true.1 hx.1.2, List.all_eq_true.1 hx.2⟩
        rw [h] at this; cases this
    rw [← h5]
    refine (fbI_late k _ _ _ gc oc cs.length cc gd od cd w (ctxB k) _ _ _ (onT b) (cs.all onT) (ds.all onT) (cs.map asT) (ds.map asT) h3 h4 (fun w => ctxI_yes k w (by omega)) (fnd_tri b) F1 F2).mono ?_
    rintro e' w' ⟨⟨a1, n1, k1, a2, n2, k2, rfl, -⟩, hb⟩
    exact ⟨_, _, _, _, _, _, _, _, _, _, by rw [e], hb⟩
  · by_cases hm : 0 ≤ mode ∧ mode ≤ 2
    · obtain ⟨k, rfl⟩ : ∃ k : Nat, mode = (k : Int) := ⟨mode.toNat, by omega⟩
      refine (fbI_early k _ _ _ gc oc cs.length cc gd od ds.length cd w (ctxB k) true ?_ (fun w => ctxI_yes k w (by omega))).mono ?_
      · right
        by_cases h1 : cs.length = ds.length
        · right
          by_cases h2 : cs.length < 1
          · exact .inl h2
          · exact .inr (by have : ¬ cs.length ≤ 200 := fun h' => hh ⟨hm, h1, by omega, h'⟩; omega)
        · exact .inl h1
      · rintro e w' ⟨rfl, hb⟩
        exact ⟨_, _, _, _, _, _, _, _, _, _, rfl, hb⟩
    · refine (fbI_early mode _ _ _ gc oc cs.length cc gd od ds.length cd w ⟨#[]⟩ false (.inl rfl) (fun w => ctxI_no mode w hm)).mono ?_
      rintro e w' ⟨rfl, hb⟩
      exact ⟨_, _, _, _, _, _, _, _, _, _, rfl, hb⟩
end Go.Proofs.YtagnikeaellbiaaGreatDoor
