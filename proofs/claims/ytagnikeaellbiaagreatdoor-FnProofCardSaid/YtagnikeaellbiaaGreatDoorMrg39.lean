import Derived.Test.YtagnikeaellbiaaGreatDoorMrg17
import Derived.Test.YtagnikeaellbiaaGreatDoorMrg35
import Derived.Test.YtagnikeaellbiaaGreatDoorMrg38
import Derived.Test.YtagnikeaellbiaaGreatDoorMrg32
import Derived.Test.YtagnikeaellbiaaGreatDoorMrg8
import Derived.Test.YtagnikeaellbiaaGreatDoorMrg0
import Derived.Test.YtagnikeaellbiaaGreatDoorChecked
import Derived.WalkKit
import Derived.ProofKit
namespace Go.Proofs.YtagnikeaellbiaaGreatDoor
open Go.RowKit M
set_option linter.unusedVariables false

set_option maxRecDepth 100000 in
theorem baseS (w : World) : Calls Tryz.prog 21 #[] w fun e w' => e = .returned (ptW gG) ∧ Below w.heap.size w w' := by
  go_enter Tryz.func21, Tryz.ntmps21
  go_wp2
  refine bodyPost_ret (v := .agg #[.int .u64 1, .int .u64 509478702933351334, .bool false]) (by simp [results, Tryz.results21, go_sem]) rfl ⟨rfl, (Below.refl _ w).alloc (Nat.le_refl _) _⟩
end Go.Proofs.YtagnikeaellbiaaGreatDoor

/-
  The batch that a law makes of a list: wBatch.
-/
namespace Go.Proofs.YtagnikeaellbiaaGreatDoor
open Go.RowKit M
set_option linter.unusedVariables false

theorem wpList_append_ow2 {P : Program} {w : World} {ops : Array Oper} {rest : List Oper} {o : Oper} {a : Act} {Q : Exit → Act → World → Prop} (hgd : o.guard = none) (s x : Operand) (t : TypeId)
    (ho : o.op = .call { callee := .builtin .append, args := #[s, x], argTypes := #[t, t] })
    (base : Nat) (e : TypeId) (i : TypeInfo) (z : Value) (size bytes : Nat) (ht : P.underlying t = some (.slice e)) (hi : P.info? e = some i) (hz : i.zero = some z)
    (hsize : i.size = size) (hby : i.bytes = bytes) (hzs : z.cells.size = size) (hsz : 0 < size)
    (v : Value) (n : Nat) (xs : List Value) (hs : a.eval s = v) (hown : w.ownsRow base e size v n xs)
    (ad : Addr) (m c : Nat) (news : List Value) (hx : a.eval x = .slice (some ad) m c) (hl : news.length = m * size) (hnews : ∀ j u, news[j]? = some u → w.cell? (ad.add j) = some u) (h1 : ∀ u ∈ news, u.oneCell' = true)
    (hm : 0 < m) (h63 : n + m ≤ maxLen) (hbytes : (n + m) * bytes ≤ 140737488355328) (hbase : base ≤ w.heap.size)
    (h : ∀ g cap w', w'.ownsRow base e size (.slice (some ⟨g, 0, none⟩) (n + m) cap) (n + m) (xs ++ news) → w.grownBy w' v.ownBlock → g < w'.heap.size → (v.ownBlock = some g ∨ g = w.heap.size) → wpList P ops Q rest (a.put o.dst (.slice (some ⟨g, 0, none⟩) (n + m) cap)) w') : wpList P ops Q (o :: rest) a w := by
  refine wpList_plain hgd fun K hK => ?_
  obtain ⟨g, cap, w', hr, h2, h3, h4, h5⟩ := run_append_lies (P := P) w t o.type base e i z size bytes ht hi hz hsize hby hzs hsz v n xs hown ad m c news hl hnews h1 hm h63 hbytes hbase w.heap.size rfl
  unfold Oper.wp execOp
  simp only [ho, resolve, invoke, builtin, Sem.run_bind, Sem.run_pure, Result.andThen_ok, List.map_toArray, List.map_cons, List.map_nil, hs, hx, hr]
  exact hK _ _ (h g cap w' h2 h3 h5 h4)
theorem infoPt' : (Tryz.prog.info? 27).map (fun i => (i.zero, i.size, i.bytes)) = some (some (.agg #[.int .u64 0, .int .u64 0, .bool false]), 3, 24) := by kernel_rfl
/-- the points of the batch -/
def bC (pk : Nat → Nat) (i : Nat) : Pt := nt (ky pk (9 * i + 3)) gG
def bD (pk : Nat → Nat) (i : Nat) : Pt := nt (ky pk 1) (bC pk i)
theorem bC_on (pk : Nat → Nat) (i : Nat) : on (bC pk i) := nt_on gG_on _
theorem bD_on (pk : Nat → Nat) (i : Nat) : on (bD pk i) := nt_on (bC_on pk i) _
theorem cells3_succ (f : Nat → Pt) (j : Nat) : cells3 ((List.range (j + 1)).map f) = cells3 ((List.range j).map f) ++ [.int .u64 (px (f j)), .int .u64 (py (f j)), .bool (pb (f j))] := by
  rw [List.range_succ, List.map_append, cells3_app]
  rfl
theorem baseP (w : World) : Calls Tryz.prog 21 #[] w fun e w' => e = .returned (.agg #[.int .u64 (px gG), .int .u64 (py gG), .bool (pb gG)]) ∧ Below w.heap.size w w' := by
  rw [← ptW_eq]; exact baseS w
theorem R3.grown {W W' : World} {b : Nat} {x y : Int} {c : Bool} {row : Option Nat} (h : R3 W b x y c) (hg : W.grownBy W' row) (hne : some b ≠ row) : R3 W' b x y c := (hg.block b (Array.getElem?_eq_some_iff.1 h).1 hne).trans h
set_option maxRecDepth 100000 in
set_option maxHeartbeats 4000000 in
theorem wBatch_own (v : Value) (w : World) (pk : Nat → Nat) (hv : Gives w v pk) :
    Calls Tryz.prog 20 #[v] w fun e w' => ∃ g1 k1 g2 k2, e = .returned (.tuple #[.int .i64 (pk 2 % 3 : Nat), .int .u64 (ky pk 1 : Nat), .slice (some ⟨g1, 0, none⟩) (pk 0 % 4 + 1) k1, .slice (some ⟨g2, 0, none⟩) (pk 0 % 4 + 1) k2]) ∧
      w'.ownsRow w.heap.size 27 3 (.slice (some ⟨g1, 0, none⟩) (pk 0 % 4 + 1) k1) (pk 0 % 4 + 1) (cells3 ((List.range (pk 0 % 4 + 1)).map (bC pk))) ∧
      w'.ownsRow w.heap.size 27 3 (.slice (some ⟨g2, 0, none⟩) (pk 0 % 4 + 1) k2) (pk 0 % 4 + 1) (cells3 ((List.range (pk 0 % 4 + 1)).map (bD pk))) ∧ Below w.heap.size w w' := by
  obtain ⟨i0, hi, hz0, hz1, hz2⟩ := info_parts infoPt'
  obtain ⟨CS, hCS⟩ : ∃ CS, Hid (CS = fun j => cells3 ((List.range j).map (bC pk))) := ⟨_, rfl⟩
  obtain ⟨DS, hDS⟩ : ∃ DS, Hid (DS = fun j => cells3 ((List.range j).map (bD pk))) := ⟨_, rfl⟩
  have hc1 : Hid (∀ j, CS (j + 1) = CS j ++ [.int .u64 (px (bC pk j)), .int .u64 (py (bC pk j)), .bool (pb (bC pk j))]) := fun j => by rw [hCS.out]; exact cells3_succ _ j
  have hd1 : Hid (∀ j, DS (j + 1) = DS j ++ [.int .u64 (px (bD pk j)), .int .u64 (py (bD pk j)), .bool (pb (bD pk j))]) := fun j => by rw [hDS.out]; exact cells3_succ _ j
  have hc0 : Hid (CS 0 = []) := by simp only [Hid]; rw [hCS.out]; rfl
  have hd0 : Hid (DS 0 = []) := by simp only [Hid]; rw [hDS.out]; rfl
  rw [show cells3 ((List.range (pk 0 % 4 + 1)).map (bC pk)) = CS (pk 0 % 4 + 1) by rw [hCS.out], show cells3 ((List.range (pk 0 % 4 + 1)).map (bD pk)) = DS (pk 0 % 4 + 1) by rw [hDS.out]]
  clear hCS hDS
  have K1 := hv.key 1 (by omega)
  have P0 := fun w' hb => (hv.below (w' := w') hb).pick 0 (by omega)
  have P2 := fun w' hb => (hv.below (w' := w') hb).pick 2 (by omega)
  have KJ : Hid (∀ w', Below w.heap.size w w' → ∀ j : Nat, j < 4 → Calls Tryz.prog 41 #[v, .int .i64 (9 * (j : Int) + 3)] w' fun e w'' => e = .returned (.int .u64 (ky pk (9 * j + 3) : Nat)) ∧ w' = w'') := fun w' hb j hj => by
    have := (hv.below (w' := w') hb).key (9 * j + 3) (by omega)
    rwa [show ((9 * j + 3 : Nat) : Int) = 9 * (j : Int) + 3 by omega] at this
  have T1 : Hid (∀ (w : World) (j : Nat), Calls Tryz.prog 22 #[.int .u64 (ky pk (9 * j + 3) : Nat), .agg #[.int .u64 (px gG), .int .u64 (py gG), .bool (pb gG)]] w fun e w' => e = .returned (.agg #[.int .u64 (px (bC pk j)), .int .u64 (py (bC pk j)), .bool (pb (bC pk j))]) ∧ Below w.heap.size w w') := fun w j => tiS_pt gG_on _ (by have := ky_lt pk (9 * j + 3); omega) w
  have T2 : Hid (∀ (w : World) (j : Nat), Calls Tryz.prog 22 #[.int .u64 (ky pk 1 : Nat), .agg #[.int .u64 (px (bC pk j)), .int .u64 (py (bC pk j)), .bool (pb (bC pk j))]] w fun e w' => e = .returned (.agg #[.int .u64 (px (bD pk j)), .int .u64 (py (bD pk j)), .bool (pb (bD pk j))]) ∧ Below w.heap.size w w') := fun w j => tiS_pt (bC_on pk j) _ (by have := ky_lt pk 1; omega) w
  have BP := baseP
  have z2 : ((pk 2 : Nat) : Int) % 3 = ((pk 2 % 3 : Nat) : Int) := rfl
  have z0 : ((pk 0 : Nat) : Int) % 4 = ((pk 0 % 4 : Nat) : Int) := rfl
  have hm : pk 0 % 4 < 4 := Nat.mod_lt _ (by decide)
  generalize pk 0 % 4 = m at *
  generalize pk 2 % 3 = md at *
  generalize ky pk 1 = k at *
  generalize px gG = gx at *
  generalize py gG = gy at *
  generalize pb gG = gb at *
  go_enter Tryz.func20, Tryz.ntmps20
  go_wp2_with fail
  refine K1.mono ?_
  rintro e w' ⟨rfl, rfl⟩
  clear K1
  have hbz := ((Below.refl _ w).alloc (Nat.le_refl _) (Obj.cells #[] 27)).alloc (by simp) (Obj.cells #[] 27)
  have o1 : ((w.alloc (Obj.cells #[] 27)).alloc (Obj.cells #[] 27)).ownsRow w.heap.size 27 3 (.slice (some ⟨w.heap.size, 0, none⟩) 0 0) 0 (CS 0) := by rw [hc0.out]; exact (World.ownsRow_made w #[] 0 (Nat.le_refl _) (by unfold maxLen; omega) rfl).alloc _
  have o2 : ((w.alloc (Obj.cells #[] 27)).alloc (Obj.cells #[] 27)).ownsRow w.heap.size 27 3 (.slice (some ⟨w.heap.size + 1, 0, none⟩) 0 0) 0 (DS 0) := by
    rw [hd0.out]
    have := World.ownsRow_made (base := w.heap.size) (e := 27) (size := 3) (w.alloc (Obj.cells #[] 27)) #[] 0 (by simp) (by unfold maxLen; omega) rfl
    rwa [show (w.alloc (Obj.cells #[] 27)).heap.size = w.heap.size + 1 by simp] at this
  go_wp2
  go_loopw [7, 8, 9] (fun cv dv iv wr => ∃ (j g1 k1 g2 k2 : Nat), j ≤ m + 1 ∧ iv = .int .i64 (j : Int) ∧ cv = .slice (some ⟨g1, 0, none⟩) j k1 ∧ dv = .slice (some ⟨g2, 0, none⟩) j k2 ∧ g1 ≠ g2 ∧ wr.ownsRow w.heap.size 27 3 (.slice (some ⟨g1, 0, none⟩) j k1) j (CS j) ∧ wr.ownsRow w.heap.size 27 3 (.slice (some ⟨g2, 0, none⟩) j k2) j (DS j) ∧ Below w.heap.size w wr) (fun _ _ i _ => m + 1 - (intOf i).toNat)
  case atStart => exact ⟨0, _, _, _, _, by omega, rfl, rfl, rfl, by omega, o1, o2, hbz⟩
  case round =>
    clear o1 o2 hbz hc0 hd0
    obtain ⟨j, g1, k1, g2, k2, hj, rfl, rfl, rfl, hne, hc, hd, hbl⟩ := hrel
    have hsz := hbl.size
    have P0 := P0 _ hbl
    have P2 := P2 _ hbl
    by_cases hlt : j < m + 1
    · have hli : (j : Int) ≤ (m : Int) := by omega
      have KJ := KJ.out _ hbl j (by omega)
      have T1 := fun w => T1.out w j
      have T2 := fun w => T2.out w j
      have hcj := hc1.out j
      have hdj := hd1.out j
      have e1 : IntKind.i64.wrap (9 * (j : Int)) = 9 * (j : Int) := i64_in _ (by omega) (by omega)
      have e2 : IntKind.i64.wrap (9 * (j : Int) + 3) = 9 * (j : Int) + 3 := i64_in _ (by omega) (by omega)
      clear P2
      generalize bC pk j = q at *
      generalize bD pk j = r at *
      generalize ky pk (9 * j + 3) = kj at *
      go_wp2_with fail
      refine P0.mono ?_
      rintro e w' ⟨rfl, rfl⟩
      clear P0
      go_wp2_with fail
      refine KJ.mono ?_
      rintro e w' ⟨rfl, rfl⟩
      clear KJ
      go_wp2_with fail
      refine (BP _).mono ?_
      rintro e w1 ⟨rfl, b1⟩
      go_wp2_with fail
      refine (T1 _).mono ?_
      rintro e w2 ⟨rfl, b2⟩
      clear T1
      have hB1 : Below wr.heap.size wr (w2.alloc (Obj.cells #[.int .u64 (px q), .int .u64 (py q), .bool (pb q)] 27)) := by
        have h2 := b1.trans (b2.mono b1.size)
        exact h2.alloc h2.size _
      have hw2 : wr.heap.size ≤ w2.heap.size := by have h2 := b1.trans (b2.mono b1.size); exact h2.size
      have hg1 := (hc.lt g1 rfl).2
      have hg2 := (hd.lt g2 rfl).2
      replace hc := below_own3 hc hB1
      replace hd := below_own3 hd hB1
      replace hbl := hbl.trans (hB1.mono hbl.size)
      have rq : R3 (w2.alloc (Obj.cells #[.int .u64 (px q), .int .u64 (py q), .bool (pb q)] 27)) w2.heap.size (px q) (py q) (pb q) := R3.new _ _ _ _
      clear b1 b2 hB1
      go_wp2_with (first
        | (at_builtin; refine wpList_append_ow2 rfl _ _ 31 rfl w.heap.size 27 i0 (.agg #[.int .u64 0, .int .u64 0, .bool false]) 3 24 Tryz.underlying31 hi hz0 hz1 hz2 rfl (by decide) (.slice (some ⟨g1, 0, none⟩) j k1) j (CS j) rfl (hc.alloc _) ⟨w2.heap.size + 1, 0, none⟩ 1 1 [.int .u64 (px (q)), .int .u64 (py (q)), .bool (pb (q))] rfl rfl (World.news_of_block (cs := #[.int .u64 (px (q)), .int .u64 (py (q)), .bool (pb (q))]) (by have := heap_alloc_new (w2.alloc (Obj.cells #[.int .u64 (px q), .int .u64 (py q), .bool (pb q)] 27)) (Obj.cells #[.int .u64 (px (q)), .int .u64 (py (q)), .bool (pb (q))] 27); simpa using this)) (by simp [Value.oneCell']) (by decide) (by unfold maxLen; omega) (by omega) (by simp; omega) ?_; intro g3 k3 w3 hc3 hgr hl3 hor; have rq3 := (rq.alloc _).grown hgr (by simp only [Value.ownBlock, ne_eq, Option.some.injEq]; omega); have d0 := rq3.c0; have d1 := rq3.c1; have d2 := rq3.c2)
        | fail)
      refine (T2 _).mono ?_
      rintro e w4 ⟨rfl, b4⟩
      clear T2 d0 d1 d2 rq3 rq
      have hne3 : g3 ≠ g2 := by
        rcases hor with h | h
        · simp only [Value.ownBlock, Option.some.injEq] at h; omega
        · simp at h; omega
      have hc4 : w4.ownsRow w.heap.size 27 3 (.slice (some ⟨g3, 0, none⟩) (j + 1) k3) (j + 1) (CS (j + 1)) := by rw [hcj]; exact below_own3 hc3 b4
      have hd4 := below_own3 ((hd.alloc _).kept hgr (.inr (by simp only [Value.ownBlock, ne_eq, Option.some.injEq]; omega))) b4
      have hbl3 : Below w.heap.size w w3 := (hbl.alloc hbl.size _).grown hgr (by simp; omega) (fun r hr => (hc.lt r hr).1)
      have hbl4 := hbl3.trans (b4.mono hbl3.size)
      have hsz4 := hbl4.size
      have hg24 := (hd4.lt g2 rfl).2
      clear hc hd hbl hc3 hgr hbl3 b4 hor
      go_wp2_with (first
        | (at_builtin; refine wpList_append_ow2 rfl _ _ 31 rfl w.heap.size 27 i0 (.agg #[.int .u64 0, .int .u64 0, .bool false]) 3 24 Tryz.underlying31 hi hz0 hz1 hz2 rfl (by decide) (.slice (some ⟨g2, 0, none⟩) j k2) j (DS j) rfl (hd4.alloc _) ⟨w4.heap.size, 0, none⟩ 1 1 [.int .u64 (px r), .int .u64 (py r), .bool (pb r)] rfl rfl (World.news_of_block (cs := #[.int .u64 (px r), .int .u64 (py r), .bool (pb r)]) (heap_alloc_new w4 (Obj.cells #[.int .u64 (px r), .int .u64 (py r), .bool (pb r)] 27))) (by simp [Value.oneCell']) (by decide) (by unfold maxLen; omega) (by omega) (by simp; omega) ?_; intro g5 k5 w5 hd5 hgr hl5 hor)
        | go_in)
      have R1 : w5.ownsRow w.heap.size 27 3 (.slice (some ⟨g3, 0, none⟩) (j + 1) k3) (j + 1) (CS (j + 1)) := (hc4.alloc _).kept hgr (.inr (by simp only [Value.ownBlock, ne_eq, Option.some.injEq]; omega))
      have R2 : w5.ownsRow w.heap.size 27 3 (.slice (some ⟨g5, 0, none⟩) (j + 1) k5) (j + 1) (DS (j + 1)) := by rw [hdj]; exact hd5
      have R3' : Below w.heap.size w w5 := (hbl4.alloc hbl4.size _).grown hgr (by simp; omega) (fun r hr => (hd4.lt r hr).1)
      have R4 : g3 ≠ g5 := by
        have := (hc4.lt g3 rfl).2
        rcases hor with h | h
        · simp only [Value.ownBlock, Option.some.injEq] at h; omega
        · simp at h; omega
      clear hc4 hd4 hbl4 hgr hor hd5
      go_wp2
      go_roundw
      case rel =>
        first
          | exact ⟨j + 1, g3, k3, g5, k5, by omega, by go_num, rfl, rfl, R4, R1, R2, R3'⟩
          | ((repeat apply Exists.intro); exact ⟨⟨j + 1, g3, k3, g5, k5, by omega, by go_num, rfl, rfl, R4, R1, R2, R3'⟩, rfl⟩)
      case measure => simp [intOf]; omega
    · obtain rfl : j = m + 1 := by omega
      have hli : ¬ ((m + 1 : Nat) : Int) ≤ (m : Int) := by omega
      clear hlt hj hc1 hd1 KJ T1 T2 BP
      go_wp2_with fail
      refine P0.mono ?_
      rintro e w' ⟨rfl, rfl⟩
      clear P0
      go_wp2_with fail
      refine P2.mono ?_
      rintro e w' ⟨rfl, rfl⟩
      go_wp2
      exact bodyPost_ret (v := .tuple #[.int .i64 (md : Nat), .int .u64 (k : Nat), .slice (some ⟨g1, 0, none⟩) (m + 1) k1, .slice (some ⟨g2, 0, none⟩) (m + 1) k2]) (by simp [results, Tryz.results20, z2]) rfl ⟨g1, k1, g2, k2, rfl, hc, hd, hbl⟩
theorem px_nn {p : Pt} (hp : on p) : ((px p).toNat : Int) = px p := by obtain ⟨t, -, h, -⟩ := pt_nat hp; rw [h]; rfl
theorem py_nn {p : Pt} (hp : on p) : ((py p).toNat : Int) = py p := by obtain ⟨t, -, -, h, -⟩ := pt_nat hp; rw [h]; rfl
theorem ptT_as {p : Pt} (hp : on p) : asT (ptT p) = p ∧ onT (ptT p) = true := by
  obtain ⟨t, h1, h2, h3, h4, h5⟩ := pt_nat hp
  have e : ptT p = t := by unfold ptT; rw [h2, h3, h4]; rfl
  rw [e]; exact ⟨h1, h5⟩
theorem triW_pt {p : Pt} (hp : on p) : triW (ptT p) = ptW p := by rw [triW_of (ptT_as hp).2, (ptT_as hp).1]
theorem Cps.pts {W : World} {g : Nat} {ps : List Pt} (h : Cps W g ps) (hp : ∀ p ∈ ps, on p) : Pts W g 0 (ps.map ptT) := by
  have k : ∀ (i : Nat) (t : Tri), (ps.map ptT)[i]? = some t → ∃ p, ps[i]? = some p ∧ ptT p = t := fun i t ht => by rw [List.getElem?_map] at ht; exact Option.map_eq_some_iff.1 ht
  refine ⟨h.lt, fun i t ht => ?_, fun i t ht => ?_, fun i t ht => ?_⟩ <;> obtain ⟨p, h1, rfl⟩ := k i t ht
  · rw [h.c0 i p h1]; exact congrArg some (congrArg _ (px_nn (hp p (List.mem_of_getElem? h1))).symm)
  · rw [h.c1 i p h1]; exact congrArg some (congrArg _ (py_nn (hp p (List.mem_of_getElem? h1))).symm)
  · rw [h.c2 i p h1]; rfl
/-- the batch's points, as fields -/
noncomputable def bCs (pk : Nat → Nat) : List Tri := ((List.range (pk 0 % 4 + 1)).map (bC pk)).map ptT
noncomputable def bDs (pk : Nat → Nat) : List Tri := ((List.range (pk 0 % 4 + 1)).map (bD pk)).map ptT
theorem bCs_len (pk : Nat → Nat) : (bCs pk).length = pk 0 % 4 + 1 := by simp [bCs]
theorem bDs_len (pk : Nat → Nat) : (bDs pk).length = pk 0 % 4 + 1 := by simp [bDs]
theorem asT_ptT {ps : List Pt} (hp : ∀ p ∈ ps, on p) : (ps.map ptT).map asT = ps := by
  rw [List.map_map]
  conv => rhs; rw [← List.map_id ps]
  exact List.map_congr_left fun p h => (ptT_as (hp p h)).1
theorem bC_all (pk : Nat → Nat) : ∀ p ∈ (List.range (pk 0 % 4 + 1)).map (bC pk), on p := fun p h => by obtain ⟨i, -, rfl⟩ := List.mem_map.1 h; exact bC_on pk i
theorem bD_all (pk : Nat → Nat) : ∀ p ∈ (List.range (pk 0 % 4 + 1)).map (bD pk), on p := fun p h => by obtain ⟨i, -, rfl⟩ := List.mem_map.1 h; exact bD_on pk i
theorem bDs_nt (pk : Nat → Nat) : (bDs pk).map asT = ((bCs pk).map asT).map (nt (ky pk 1)) := by
  unfold bDs bCs
  rw [asT_ptT (bC_all pk), asT_ptT (bD_all pk), List.map_map]
  rfl
/-- the public key -/
noncomputable def bP (pk : Nat → Nat) : Tri := ptT (nt (ky pk 1) gG)
noncomputable def bG : Tri := ptT gG
theorem bP_nt (pk : Nat → Nat) : asT (bP pk) = nt (ky pk 1) (asT bG) := by unfold bP bG; rw [(ptT_as (nt_on gG_on _)).1, (ptT_as gG_on).1]
theorem bat_ok (pk : Nat → Nat) : batB (pk 2 % 3 : Nat) bG (bP pk) (bCs pk) (bDs pk) = true := by
  rw [batB_iff]
  have h1 := Nat.mod_lt (pk 2) (show 0 < 3 by decide)
  have h2 := Nat.mod_lt (pk 0) (show 0 < 4 by decide)
  refine ⟨by omega, (ptT_as gG_on).2, (ptT_as (nt_on gG_on _)).2, by rw [bCs_len]; omega, by rw [bCs_len, bDs_len], fun t ht => ?_, fun t ht => ?_⟩
  · obtain ⟨p, h, rfl⟩ := List.mem_map.1 ht; exact (ptT_as (bC_all pk p h)).2
  · obtain ⟨p, h, rfl⟩ := List.mem_map.1 ht; exact (ptT_as (bD_all pk p h)).2
theorem own_le {W : World} {base : Nat} {e : TypeId} {size g n cap : Nat} {xs : List Value} (h : W.ownsRow base e size (.slice (some ⟨g, 0, none⟩) n cap) n xs) : n ≤ cap := by
  rcases h.2 with ⟨h0, _⟩ | ⟨g', cap', cur, hv, -, -, hle, -⟩
  · cases h0
  · injection hv with e1 e2 e3
    omega
theorem wBatch_any (v : Value) (w : World) (pk : Nat → Nat) (hv : Gives w v pk) :
    Calls Tryz.prog 20 #[v] w fun e w' => ∃ g1 k1 g2 k2, e = .returned (.tuple #[.int .i64 (pk 2 % 3 : Nat), .int .u64 (ky pk 1 : Nat), .slice (some ⟨g1, 0, none⟩) (bCs pk).length k1, .slice (some ⟨g2, 0, none⟩) (bDs pk).length k2]) ∧ (pk 0 % 4 + 1 ≤ k1 ∧ pk 0 % 4 + 1 ≤ k2) ∧ (Pts w' g1 0 (bCs pk) ∧ Pts w' g2 0 (bDs pk)) ∧ Below w.heap.size w w' := by
  refine (wBatch_own v w pk hv).mono ?_
  rintro e w' ⟨g1, k1, g2, k2, rfl, h1, h2, hb⟩
  refine ⟨g1, k1, g2, k2, by rw [bCs_len, bDs_len], ⟨own_le h1, own_le h2⟩, ⟨(Cps.of_owns h1).pts (bC_all pk), (Cps.of_owns h2).pts (bD_all pk)⟩, hb⟩
end Go.Proofs.YtagnikeaellbiaaGreatDoor

namespace Go.Proofs.YtagnikeaellbiaaGreatDoor
open Go.RowKit
set_option linter.unusedVariables false
set_option maxRecDepth 100000
section
variable {A : Act} {w : World} {dst : Option Tmp} {ty : TypeId} {ps : String} {af : Array Edge} {gd : Option (Nat × Bool)} {x y : Operand} {b i : Nat}
theorem F.fa_prf0 (hx : A.eval x = .pointer (some ⟨b, i, none⟩)) :
    Does Tryz.prog { dst := dst, op := .fieldAddr 37 x 0, type := ty, pos := ps, after := af, guard := gd } A w fun v' w' => v' = .pointer (some ⟨b, i, none⟩) ∧ Below w.heap.size w w' := by
  have h : (execOp A.eval { dst := dst, op := .fieldAddr 37 x 0, type := ty, pos := ps, after := af, guard := gd }).run Tryz.prog w = .ok (.value (.pointer (some ⟨b, i, none⟩))) w := by generalize A.eval = ev at *; simp [execOp, hx, go_sem]
  exact does_value h ⟨rfl, Below.refl _ _⟩
theorem F.fa_prf1 (hx : A.eval x = .pointer (some ⟨b, i, none⟩)) :
    Does Tryz.prog { dst := dst, op := .fieldAddr 37 x 1, type := ty, pos := ps, after := af, guard := gd } A w fun v' w' => v' = .pointer (some ⟨b, i + 1, none⟩) ∧ Below w.heap.size w w' := by
  have h : (execOp A.eval { dst := dst, op := .fieldAddr 37 x 1, type := ty, pos := ps, after := af, guard := gd }).run Tryz.prog w = .ok (.value (.pointer (some ⟨b, i + 1, none⟩))) w := by generalize A.eval = ev at *; simp [execOp, hx, go_sem]
  exact does_value h ⟨rfl, Below.refl _ _⟩
theorem F.ld_u64 {v0 : Value} (hx : A.eval x = .pointer (some ⟨b, i, none⟩)) (h0 : w.cell? ⟨b, i, none⟩ = some v0) :
    Does Tryz.prog { dst := dst, op := .load 22 x, type := ty, pos := ps, after := af, guard := gd } A w fun v' w' => v' = v0 ∧ Below w.heap.size w w' := by
  have h : (execOp A.eval { dst := dst, op := .load 22 x, type := ty, pos := ps, after := af, guard := gd }).run Tryz.prog w = .ok (.value (v0)) w := by generalize A.eval = ev at *; simp [execOp, hx, h0, go_sem]
  exact does_value h ⟨rfl, Below.refl _ _⟩
theorem F.cl1 {F : FuncId} {at_ : Array TypeId} {r : Value} {x0 : Operand} {u0 : Value} (hcf : ∀ (args : Array Value) (w : World), (callFunc F args).run Tryz.prog w = .ok (.enter F args) w) (h0 : A.eval x0 = u0)
    (hc : Calls Tryz.prog F #[u0] w fun e w' => e = .returned r ∧ Below w.heap.size w w') :
    Does Tryz.prog { dst := dst, op := .call { callee := .value (.func F), args := #[x0], argTypes := at_ }, type := ty, pos := ps, after := af, guard := gd } A w fun v' w' => v' = r ∧ Below w.heap.size w w' := by
  have hF : A.eval (.func F) = .func (.func F) #[] #[] := rfl
  have h : (execOp A.eval { dst := dst, op := .call { callee := .value (.func F), args := #[x0], argTypes := at_ }, type := ty, pos := ps, after := af, guard := gd }).run Tryz.prog w = .ok (.enter F #[u0]) w := by generalize A.eval = ev at *; simp [execOp, hF, hcf, h0, go_sem]
  exact does_call h (hc.mono fun _ _ ⟨h, h'⟩ => ⟨r, h, rfl, h'⟩)
theorem F.as {u : Value} (hx : A.eval x = u) :
    Does Tryz.prog { dst := dst, op := .assign x, type := ty, pos := ps, after := af, guard := gd } A w fun v' w' => v' = u ∧ Below w.heap.size w w' := by
  have h : (execOp A.eval { dst := dst, op := .assign x, type := ty, pos := ps, after := af, guard := gd }).run Tryz.prog w = .ok (.value (u)) w := by generalize A.eval = ev at *; simp [execOp, hx, go_sem]
  exact does_value h ⟨rfl, Below.refl _ _⟩
theorem F.cat {a b : ByteArray} (hx : A.eval x = .string a) (hy : A.eval y = .string b) (hz : ¬ (9223372036854775807 < a.size + b.size)) :
    Does Tryz.prog { dst := dst, op := .binOp .add 9 x y 9, type := ty, pos := ps, after := af, guard := gd } A w fun v' w' => v' = .string (a ++ b) ∧ Below w.heap.size w w' := by
  have h : (execOp A.eval { dst := dst, op := .binOp .add 9 x y 9, type := ty, pos := ps, after := af, guard := gd }).run Tryz.prog w = .ok (.value (.string (a ++ b))) w := by generalize A.eval = ev at *; simp [execOp, hx, hy, hz, go_sem]
  exact does_value h ⟨rfl, Below.refl _ _⟩
end
end Go.Proofs.YtagnikeaellbiaaGreatDoor
