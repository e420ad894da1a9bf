import Derived.Test.YtagnikeaellbiaaGreatDoorChecked
import Derived.WalkKit
import Derived.Test.YtagnikeaellbiaaGreatDoorMrg32
import Derived.Test.YtagnikeaellbiaaGreatDoorMrg18
import Derived.Test.YtagnikeaellbiaaGreatDoorMrg4
import Derived.Test.YtagnikeaellbiaaGreatDoorMrg21
namespace Go.Proofs.YtagnikeaellbiaaGreatDoor
open Go.RowKit
theorem cf_spec_l5Sized (args : Array Value) (w : World) : (callFunc 49 args).run Tryz.prog w = .ok (.enter 49 args) w := by kernel_rfl
theorem cf_spec_PutPoint (args : Array Value) (w : World) : (callFunc 50 args).run Tryz.prog w = .ok (.enter 50 args) w := by kernel_rfl
theorem cf_spec_l5Scalar (args : Array Value) (w : World) : (callFunc 52 args).run Tryz.prog w = .ok (.enter 52 args) w := by kernel_rfl
theorem cf_spec_Times (args : Array Value) (w : World) : (callFunc 22 args).run Tryz.prog w = .ok (.enter 22 args) w := by kernel_rfl
theorem cf_spec_l3Sum (args : Array Value) (w : World) : (callFunc 39 args).run Tryz.prog w = .ok (.enter 39 args) w := by kernel_rfl
theorem cf_spec_l5Mix (args : Array Value) (w : World) : (callFunc 30 args).run Tryz.prog w = .ok (.enter 30 args) w := by kernel_rfl
theorem cf_spec_l5Challenge (args : Array Value) (w : World) : (callFunc 33 args).run Tryz.prog w = .ok (.enter 33 args) w := by kernel_rfl
theorem cf_spec_l5Weights (args : Array Value) (w : World) : (callFunc 29 args).run Tryz.prog w = .ok (.enter 29 args) w := by kernel_rfl
theorem cf_spec_MulMod (args : Array Value) (w : World) : (callFunc 34 args).run Tryz.prog w = .ok (.enter 34 args) w := by kernel_rfl
theorem cf_spec_l2Add (args : Array Value) (w : World) : (callFunc 35 args).run Tryz.prog w = .ok (.enter 35 args) w := by kernel_rfl
theorem cf_spec_PutWord (args : Array Value) (w : World) : (callFunc 77 args).run Tryz.prog w = .ok (.enter 77 args) w := by kernel_rfl
theorem cf_impl_PutWord (args : Array Value) (w : World) : (callFunc 45 args).run Tryz.prog w = .ok (.enter 45 args) w := by kernel_rfl
theorem cf_impl_transcript_with (args : Array Value) (w : World) : (callFunc 81 args).run Tryz.prog w = .ok (.enter 81 args) w := by kernel_rfl
theorem cf_impl_context_scalar (args : Array Value) (w : World) : (callFunc 83 args).run Tryz.prog w = .ok (.enter 83 args) w := by kernel_rfl
theorem cf_impl_context_tag (args : Array Value) (w : World) : (callFunc 82 args).run Tryz.prog w = .ok (.enter 82 args) w := by kernel_rfl
theorem cf_impl_hashOf (args : Array Value) (w : World) : (callFunc 80 args).run Tryz.prog w = .ok (.enter 80 args) w := by kernel_rfl
theorem cf_impl_curvePoint_times (args : Array Value) (w : World) : (callFunc 46 args).run Tryz.prog w = .ok (.enter 46 args) w := by kernel_rfl
theorem cf_impl_curvePoint_plus (args : Array Value) (w : World) : (callFunc 67 args).run Tryz.prog w = .ok (.enter 67 args) w := by kernel_rfl
theorem cf_impl_curvePoint_triple (args : Array Value) (w : World) : (callFunc 71 args).run Tryz.prog w = .ok (.enter 71 args) w := by kernel_rfl
theorem cf_impl_triple_multiple (args : Array Value) (w : World) : (callFunc 72 args).run Tryz.prog w = .ok (.enter 72 args) w := by kernel_rfl
theorem cf_impl_triple_plus (args : Array Value) (w : World) : (callFunc 84 args).run Tryz.prog w = .ok (.enter 84 args) w := by kernel_rfl
theorem cf_impl_weighted (args : Array Value) (w : World) : (callFunc 56 args).run Tryz.prog w = .ok (.enter 56 args) w := by kernel_rfl
theorem cf_impl_batch_weights (args : Array Value) (w : World) : (callFunc 55 args).run Tryz.prog w = .ok (.enter 55 args) w := by kernel_rfl
theorem cf_impl_batch_challenge (args : Array Value) (w : World) : (callFunc 62 args).run Tryz.prog w = .ok (.enter 62 args) w := by kernel_rfl
theorem cf_impl_number_impl_primeN_times (args : Array Value) (w : World) : (callFunc 64 args).run Tryz.prog w = .ok (.enter 64 args) w := by kernel_rfl
theorem cf_impl_number_impl_primeN_minus (args : Array Value) (w : World) : (callFunc 63 args).run Tryz.prog w = .ok (.enter 63 args) w := by kernel_rfl
end Go.Proofs.YtagnikeaellbiaaGreatDoor

/-
  The program's weights of a batch.
-/
namespace Go.Proofs.YtagnikeaellbiaaGreatDoor
open Go.RowKit M
set_option linter.unusedVariables false

theorem catA_le (t : ByteArray) : ∀ (l r : List ByteArray), (catA t l).size ≤ (catA t (l ++ r)).size := by
  intro l r
  unfold catA
  rw [List.foldl_append]
  generalize List.foldl (· ++ ·) t l = u
  induction r generalizing u with
  | nil => exact Nat.le_refl _
  | cons a r ih =>
    rw [List.foldl_cons]
    refine Nat.le_trans ?_ (ih (u ++ a))
    rw [ByteArray.size_append]; omega
/-- a transcript goes on with parts that lie in a new block -/
theorem with_blk (t : ByteArray) (L : List (Value × ByteArray)) (g n : Nat) (T : TypeId) (cs : Array Value) (w : World) (hr : w.heap[g]? = some (.cells cs T)) (hcs : cs.toList = L.map (·.1)) (hl : L.length = n) (hn : n ≤ 100) (hW : ∀ vs ∈ L, Writ vs.1 vs.2)
    (hz : (catA t (L.map (·.2))).size ≤ 100000) :
    Calls Tryz.prog 81 #[.string t, .slice (some ⟨g, 0, none⟩) n n] w fun e w' => e = .returned (.string (catA t (L.map (·.2)))) ∧ Below w.heap.size w w' := by
  refine withI_any t g n L w hl hn (Array.getElem?_eq_some_iff.1 hr).1 (fun i v s hi => ⟨?_, hW _ (List.mem_of_getElem? hi)⟩) (fun i hi => ?_)
  · rw [cell_of_row _ _ _ _ _ _ hr, ← Array.getElem?_toList, hcs, List.getElem?_map, hi]; rfl
  · refine Nat.le_trans ?_ hz
    have := catA_le t ((L.take i).map (·.2)) ((L.drop i).map (·.2))
    rwa [← List.map_append, List.take_append_drop] at this
/-- the hash of one text that lies in a new block -/
theorem hash_blk (s : ByteArray) (g : Nat) (T : TypeId) (w : World) (hT : TabK w) (hr : w.heap[g]? = some (.cells #[.string s] T)) (hs : s.size ≤ 1000000) :
    Calls Tryz.prog 80 #[.slice (some ⟨g, 0, none⟩) 1 1] w fun e w' => e = .returned (.string (strOfNums (shaF (byt s)))) ∧ Below w.heap.size w w' := by
  have := hashOfI_any g 1 1 [s] w hT (by simp [sizeB]; omega) rfl (by omega) (by omega) (fun i hi => by
    obtain rfl : i = 0 := by omega
    rw [cell_of_row _ _ _ _ _ _ hr]; rfl)
  rwa [show catB [s] = byt s by simp [catB]] at this
theorem does_append_ow {w : World} {o : Oper} {a : Act} (s x : Operand) (t : TypeId) (ho : o.op = .call { callee := .builtin .append, args := #[s, x], argTypes := #[t, t] })
    (base : Nat) (e : TypeId) (i : TypeInfo) (z : Value) (size bytes : Nat) (ht : Tryz.prog.underlying t = some (.slice e)) (hi : Tryz.prog.info? e = some i) (hz : i.zero = some z)
    (hsize : i.size = size) (hby : i.bytes = bytes) (hzs : z.cells.size = size) (hsz : 0 < size)
    (v : Value) (n : Nat) (xs : List Value) (hs : a.eval s = v) (hown : w.ownsRow base e size v n xs)
    (ad : Addr) (m c : Nat) (news : List Value) (hx : a.eval x = .slice (some ad) m c) (hl : news.length = m * size) (hnews : ∀ j u, news[j]? = some u → w.cell? (ad.add j) = some u) (h1 : ∀ u ∈ news, u.oneCell' = true)
    (hm : 0 < m) (h63 : n + m ≤ maxLen) (hbytes : (n + m) * bytes ≤ 140737488355328) (hbase : base ≤ w.heap.size) :
    Does Tryz.prog o a w fun v' w' => ∃ g cap, v' = .slice (some ⟨g, 0, none⟩) (n + m) cap ∧ w'.ownsRow base e size (.slice (some ⟨g, 0, none⟩) (n + m) cap) (n + m) (xs ++ news) ∧ w.grownBy w' v.ownBlock := by
  intro Q K hK
  obtain ⟨g, cap, w', hr, h2, h3, -, h5⟩ := run_append_lies (P := Tryz.prog) w t o.type base e i z size bytes ht hi hz hsize hby hzs hsz v n xs hown ad m c news hl hnews h1 hm h63 hbytes hbase w.heap.size rfl
  unfold Oper.wp execOp
  simp only [ho, resolve, invoke, builtin, Sem.run_bind, Sem.run_pure, Result.andThen_ok, List.map_toArray, List.map_cons, List.map_nil, hs, hx, hr]
  exact hK _ _ ⟨g, cap, rfl, h2, h3⟩
theorem own_ne {W : World} {base : Nat} {e T : TypeId} {size : Nat} {v : Value} {n : Nat} {xs : List Value} {b : Nat} {cs : Array Value} (hown : W.ownsRow base e size v n xs) (h : W.heap[b]? = some (.cells cs T)) (hne : T ≠ e) : v.ownBlock ≠ some b := by
  rcases hown.2 with ⟨rfl, _⟩ | ⟨g, cap, cur, rfl, hbg, hg, -⟩
  · intro h'; cases h'
  · intro h'
    have h2 : g = b := by simpa [Value.ownBlock] using h'
    subst h2
    rw [h] at hg
    cases hg
    exact hne rfl
theorem infoN5 : (Tryz.prog.info? 77).map (fun i => (i.zero, i.size, i.bytes)) = some (some (.agg #[.int .u64 0]), 1, 8) := by kernel_rfl
theorem eml (s : ByteArray) : (⟨#[]⟩ : ByteArray) ++ s = s := ByteArray.empty_append

set_option maxRecDepth 100000 in
set_option maxHeartbeats 4000000 in
theorem wgtI_of (k n g1 k1 g2 k2 : Nat) (b : Pt) (cs ds : List Pt) (w : World) (hT : TabK w) (hk : k < 3) (h1 : 1 ≤ n) (hn : n ≤ 200) (hlc : cs.length = n) (hld : ds.length = n) (hc : Cps w g1 cs) (hd : Cps w g2 ds) :
    Calls Tryz.prog 55 #[.agg #[.string (ctxB k), .int .u64 (px b), .int .u64 (py b), .bool (pb b), .slice (some ⟨g1, 0, none⟩) n k1, .slice (some ⟨g2, 0, none⟩) n k2]] w fun e w' => ∃ g cap, e = .returned (.slice (some ⟨g, 0, none⟩) n cap) ∧ w'.ownsRow w.heap.size 77 1 (.slice (some ⟨g, 0, none⟩) n cap) n ((wgts k b cs ds n).map (Value.int .u64)) ∧ Below w.heap.size w w' := by
  obtain ⟨i0, hi, hz0, hz1, hz2⟩ := info_parts infoN5
  obtain ⟨WS, hWS⟩ : ∃ WS, Hid (WS = wgts k b cs ds) := ⟨_, rfl⟩
  rw [← hWS.out]
  have hgw : 3 < w.heap.size := World.block_lt_of_cell? w _ (hT 0 (by omega))
  have hzc := ctxB_size k hk
  have hzt := seedT_size k hk
  have hst : Hid (∀ i, i < n → ∃ c d, cs[i]? = some c ∧ ds[i]? = some d ∧ WS (i + 1) = WS i ++ [((scaN (sizB (seedB k b) ++ numB i ++ sizB (ptB c) ++ sizB (ptB d) ++ compB) k : Nat) : Int)]) := fun i hi => by
    obtain ⟨c, hc⟩ : ∃ c, cs[i]? = some c := ⟨_, List.getElem?_eq_getElem (by omega)⟩
    obtain ⟨d, hd⟩ : ∃ d, ds[i]? = some d := ⟨_, List.getElem?_eq_getElem (by omega)⟩
    refine ⟨c, d, hc, hd, ?_⟩
    rw [hWS.out, wgts_succ]
    have e1 : cs.getD i none = c := by rw [List.getD_eq_getElem?_getD, hc]; rfl
    have e2 : ds.getD i none = d := by rw [List.getD_eq_getElem?_getD, hd]; rfl
    rw [e1, e2]; rfl
  have hW0 : WS 0 = [] := by rw [hWS.out]; rfl
  clear hWS
  have hTG := fun w => tagI_any (ctxB k) ⟨#[83, 101, 101, 100, 45]⟩ w (by omega) (by decide)
  have hSQ : (⟨#[83, 101, 101, 100, 45]⟩ : ByteArray) ++ ctxB k = seedT k := (tagB_ctx _ k).symm
  rw [hSQ] at hTG
  clear hSQ
  have hss : (seedB k b).size = 32 := by unfold seedB; rw [strOfNums_size, shaF_length]
  have hWB := writC b
  have hWS2 := writZ (seedT k) (by omega)
  have hzb : (sizB (ptB b)).size = 10 := by rw [sizB_size, ptB_size]
  have hzz : (sizB (seedT k)).size = 19 := by rw [sizB_size, hzt]
  have hWI : ∀ (f j : Nat) (w : World), w.heap[j]? = some (.cells #[.iface 62 (.agg #[.int .u64 (px b), .int .u64 (py b), .bool (pb b)]), .iface 130 (.string (seedT k))] 165) →
      Calls Tryz.prog 81 #[.string ⟨#[]⟩, .slice (some ⟨j, 0, none⟩) 2 2] w fun e w' => e = .returned (.string (seedM k b)) ∧ Below w.heap.size w w' := fun f j w hr => by
    have := with_blk ⟨#[]⟩ [(.iface 62 (.agg #[.int .u64 (px b), .int .u64 (py b), .bool (pb b)]), sizB (ptB b)), (.iface 130 (.string (seedT k)), sizB (seedT k))] j 2 _ _ w hr rfl rfl (by omega) (by
      intro vs hvs
      simp only [List.mem_cons, List.not_mem_nil, or_false] at hvs
      rcases hvs with rfl | rfl
      · exact hWB
      · exact hWS2) (by simp only [catA, List.map_cons, List.map_nil, List.foldl_cons, List.foldl_nil, ByteArray.size_append, hzb, hzz]; decide)
    rw [show catA ⟨#[]⟩ (List.map (·.2) [((.iface 62 (.agg #[.int .u64 (px b), .int .u64 (py b), .bool (pb b)]) : Value), sizB (ptB b)), (.iface 130 (.string (seedT k)), sizB (seedT k))]) = seedM k b by
      show (⟨#[]⟩ : ByteArray) ++ sizB (ptB b) ++ sizB (seedT k) = _
      rw [eml]; rfl] at this
    exact this
  have hSM : (seedM k b).size ≤ 1000000 := by unfold seedM; rw [ByteArray.size_append, hzb, hzz]; decide
  have hHS : ∀ (j : Nat) (w : World), TabK w → w.heap[j]? = some (.cells #[.string (seedM k b)] 9) → Calls Tryz.prog 80 #[.slice (some ⟨j, 0, none⟩) 1 1] w fun e w' => e = .returned (.string (seedB k b)) ∧ Below w.heap.size w w' := fun j w hT hr => hash_blk (seedM k b) j _ w hT hr hSM
  have hW1 : ∀ (w : World) (j : Nat), w.heap[j]? = some (.cells #[.iface 130 (.string (seedB k b))] 165) → Calls Tryz.prog 81 #[.string ⟨#[]⟩, .slice (some ⟨j, 0, none⟩) 1 1] w fun e w' => e = .returned (.string (sizB (seedB k b))) ∧ Below w.heap.size w w' := fun w j hr => by
    have := with_blk ⟨#[]⟩ [(.iface 130 (.string (seedB k b)), sizB (seedB k b))] j 1 _ _ w hr rfl rfl (by omega) (by
      intro vs hvs
      simp only [List.mem_cons, List.not_mem_nil, or_false] at hvs
      subst hvs
      exact writZ (seedB k b) (by omega)) (by simp only [catA, List.map_cons, List.map_nil, List.foldl_cons, List.foldl_nil, ByteArray.size_append, sizB_size, hss]; decide)
    rw [show catA ⟨#[]⟩ (List.map (·.2) [((.iface 130 (.string (seedB k b)) : Value), sizB (seedB k b))]) = sizB (seedB k b) from eml _] at this
    exact this
  clear hWB hWS2 hzz hSM
  generalize seedM k b = SM at *
  generalize seedT k = ST at *
  have r1 := B6.new w (ctxB k) (px b) (py b) (pb b) (some ⟨g1, 0, none⟩) n k1 (some ⟨g2, 0, none⟩) n k2
  have hb := (Below.refl _ w).alloc (Nat.le_refl _) (Obj.cells #[.string (ctxB k), .int .u64 (px b), .int .u64 (py b), .bool (pb b), .slice (some ⟨g1, 0, none⟩) n k1, .slice (some ⟨g2, 0, none⟩) n k2] 65)
  go_enter Tryz.func55, Tryz.ntmps55
  go_wp2
  generalize w.alloc (Obj.cells #[.string (ctxB k), .int .u64 (px b), .int .u64 (py b), .bool (pb b), .slice (some ⟨g1, 0, none⟩) n k1, .slice (some ⟨g2, 0, none⟩) n k2] 65) = W1 at *
  have hT1 : TabK W1.drew := fun i hi => (hb.cell (p := ⟨3, i, none⟩) hgw).trans (hT i hi)
  have hg1 : 3 < W1.drew.heap.size := Nat.lt_of_lt_of_le hgw hb.size
  have c0 : W1.drew.cell? ⟨w.heap.size, 0, none⟩ = _ := r1.c0
  have c1 : W1.drew.cell? ⟨w.heap.size, 1, none⟩ = _ := r1.c1
  have c2 : W1.drew.cell? ⟨w.heap.size, 2, none⟩ = _ := r1.c2
  have c3 : W1.drew.cell? ⟨w.heap.size, 3, none⟩ = _ := r1.c3
  refine pool_list [.val (.pointer (some ⟨w.heap.size, 1, none⟩)),
      .val (.agg #[.int .u64 (px b), .int .u64 (py b), .bool (pb b)]),
      .val (.iface 62 (.agg #[.int .u64 (px b), .int .u64 (py b), .bool (pb b)])),
      .val (.pointer (some ⟨w.heap.size, 0, none⟩)),
      .val (.string (ctxB k)),
      .val (.string ST),
      .val (.iface 130 (.string ST)),
      .new (.cells #[.iface 62 (.agg #[.int .u64 (px b), .int .u64 (py b), .bool (pb b)]), .iface 130 (.string ST)] 165) (.cells #[.iface 62 (.agg #[.int .u64 (px b), .int .u64 (py b), .bool (pb b)]), .iface 130 (.string ST)] 165) 1002,
      .val (.string SM),
      .new (.cells #[.string SM] 9) (.cells #[.string SM] 9) 1001,
      .val (.string (seedB k b)),
      .val (.string (seedB k b))] [[1], [7], [8], [1], [10], [11], [12], [9, 13], [14], [15], [16], [17]] (fun f => [(some 7, .pointer (some ⟨w.heap.size, 1, none⟩)), (some 8, .agg #[.int .u64 (px b), .int .u64 (py b), .bool (pb b)]), (some 9, .iface 62 (.agg #[.int .u64 (px b), .int .u64 (py b), .bool (pb b)])), (some 10, .pointer (some ⟨w.heap.size, 0, none⟩)), (some 11, .string (ctxB k)), (some 12, .string ST), (some 13, .iface 130 (.string ST)), (some 14, .slice (some ⟨f 7, 0, none⟩) 2 2), (some 15, .string SM), (some 16, .slice (some ⟨f 9, 0, none⟩) 1 1), (some 17, .string (seedB k b)), (some 3, .string (seedB k b))]) (by kernel_rfl) (by kernel_rfl) (by kernel_rfl) (by kernel_rfl) (fun _ => by kernel_rfl) ?_ ?_
  · intro ix hix
    match ix, hix with
    | 0, _ => exact ob_val [(1, .pointer (some ⟨w.heap.size, 0, none⟩))] rfl rfl (fun _ => by kernel_rfl) (fun A w ⟨e0, _⟩ hB => fa_bat1 e0)
    | 1, _ => exact ob_val [(7, .pointer (some ⟨w.heap.size, 1, none⟩))] rfl rfl (fun _ => by kernel_rfl) (fun A w ⟨e0, _⟩ hB => ld_cp e0 (keepC c1 hB) (keepC c2 hB) (keepC c3 hB))
    | 2, _ => exact ob_val [(8, .agg #[.int .u64 (px b), .int .u64 (py b), .bool (pb b)])] rfl rfl (fun _ => by kernel_rfl) (fun A w ⟨e0, _⟩ hB => mi_cp e0)
    | 3, _ => exact ob_val [(1, .pointer (some ⟨w.heap.size, 0, none⟩))] rfl rfl (fun _ => by kernel_rfl) (fun A w ⟨e0, _⟩ hB => fa_bat0 e0)
    | 4, _ => exact ob_val [(10, .pointer (some ⟨w.heap.size, 0, none⟩))] rfl rfl (fun _ => by kernel_rfl) (fun A w ⟨e0, _⟩ hB => ld_ctx e0 (keepC c0 hB))
    | 5, _ => exact ob_val [(11, .string (ctxB k))] rfl rfl (fun _ => by kernel_rfl) (fun A w ⟨e0, _⟩ hB => cl2 cf_impl_context_tag e0 rfl (hTG w))
    | 6, _ => exact ob_val [(12, .string ST)] rfl rfl (fun _ => by kernel_rfl) (fun A w ⟨e0, _⟩ hB => mi_sized e0)
    | 7, _ => exact ob_slc 2 [(9, .iface 62 (.agg #[.int .u64 (px b), .int .u64 (py b), .bool (pb b)])), (13, .iface 130 (.string ST))] rfl rfl (fun _ => by kernel_rfl) (fun A w ⟨e0, e1, _⟩ => sl_parts2 e0 e1)
    | 8, _ => exact ob_use 14 7 1002 (.cells #[.iface 62 (.agg #[.int .u64 (px b), .int .u64 (py b), .bool (pb b)]), .iface 130 (.string ST)] 165) (fun f => [(14, .slice (some ⟨f 7, 0, none⟩) 2 2)]) rfl rfl (by decide) (by kernel_rfl) rfl (fun _ => by kernel_rfl) (fun f A w ⟨e0, _⟩ hB hr => cl2 cf_impl_transcript_with rfl e0 (hWI 0 _ w hr))
    | 9, _ => exact ob_slc 1 [(15, .string SM)] rfl rfl (fun _ => by kernel_rfl) (fun A w ⟨e0, _⟩ => sl_strs1 e0)
    | 10, _ => exact ob_use 16 9 1001 (.cells #[.string SM] 9) (fun f => [(16, .slice (some ⟨f 9, 0, none⟩) 1 1)]) rfl rfl (by decide) (by kernel_rfl) rfl (fun _ => by kernel_rfl) (fun f A w ⟨e0, _⟩ hB hr => cl1 cf_impl_hashOf e0 (hHS _ w (keepT hT1 hg1 hB) hr))
    | 11, _ => exact ob_val [(17, .string (seedB k b))] rfl rfl (fun _ => by kernel_rfl) (fun A w ⟨e0, _⟩ hB => doV_assign e0)
    | ix + 12, h => exact absurd h (by simp)
  intro f W2 hb2 _ _
  have hb2' : Below W1.heap.size W1 W2 := (Below.refl _ W1).drew.trans hb2
  replace r1 := r1.keep hb2'
  replace hb := hb.trans (hb2'.mono hb.size)
  clear c0 c1 c2 c3 hWI hHS hTG hb2 hb2' hT1 hg1
  simp only [puts, List.foldl, Act.put, List.setIfInBounds_toArray, List.set_cons_zero, List.set_cons_succ]
  go_wp2_with fail
  refine (hW1 _ _ (heap_alloc_new W2 _)).mono ?_
  rintro e W3 ⟨rfl, b3⟩
  replace r1 := (r1.alloc (Obj.cells #[.iface 130 (.string (seedB k b))] 165)).keep b3
  replace hb := hb.alloc hb.size (Obj.cells #[.iface 130 (.string (seedB k b))] 165)
  replace hb := hb.trans (b3.mono hb.size)
  clear hW1 b3
  have d4 := r1.c4
  go_wp2
  clear d4
  go_loopw [5, 25] (fun ov iv wr => ∃ j : Nat, j ≤ n ∧ iv = .int .i64 (j : Int) ∧ wr.ownsRow w.heap.size 77 1 ov j ((WS j).map (Value.int .u64)) ∧ B6 wr w.heap.size (ctxB k) (px b) (py b) (pb b) (some ⟨g1, 0, none⟩) n k1 (some ⟨g2, 0, none⟩) n k2 ∧ (∀ t : TypeId, t ≠ 65 → True) ∧ Below w.heap.size w wr) (fun _ i _ => n - (intOf i).toNat)
  case atStart => exact ⟨0, by omega, rfl, by rw [hW0]; exact World.ownsRow_nil _ _ _ _, r1, fun _ _ => trivial, hb⟩
  case round =>
    clear hW0 r1 hb
    obtain ⟨j, hj, rfl, hown, r1, -, hbl⟩ := hrel
    have hsz := hbl.size
    by_cases hlt : j < n
    · have hli : (j : Int) < (n : Int) := by omega
      obtain ⟨cp, dp, hcp, hdp, hnx⟩ := hst.out j hlt
      have pc := (hc.below hbl hc.lt).drew
      have pd := (hd.below hbl hd.lt).drew
      have c0 := pc.c0 j cp hcp
      have c1 := pc.c1 j cp hcp
      have c2 := pc.c2 j cp hcp
      have d0 := pd.c0 j dp hdp
      have d1 := pd.c1 j dp hdp
      have d2 := pd.c2 j dp hdp
      have s0 : wr.drew.cell? ⟨w.heap.size, 0, none⟩ = _ := r1.c0
      have s4 : wr.drew.cell? ⟨w.heap.size, 4, none⟩ = _ := r1.c4
      have s5 : wr.drew.cell? ⟨w.heap.size, 5, none⟩ = _ := r1.c5
      have hTr : TabK wr.drew := fun i hi => (hbl.cell (p := ⟨3, i, none⟩) hgw).trans (hT i hi)
      have hgr0 : 3 < wr.drew.heap.size := Nat.lt_of_lt_of_le hgw hsz
      have hWX := writX j (by omega)
      have hWC := writC cp
      have hWD := writC dp
      have hTX : (sizB (seedB k b) ++ numB j ++ sizB (ptB cp) ++ sizB (ptB dp) ++ compB).size = 65 := by
        simp only [ByteArray.size_append, sizB_size, numB_size, ptB_size, hss]
        rw [show compB.size = 9 from rfl]
      have hWT : ∀ (i : Nat) (w : World), w.heap[i]? = some (.cells #[.iface 132 (.int .i64 (j : Int)), .iface 62 (.agg #[.int .u64 (px cp), .int .u64 (py cp), .bool (pb cp)]), .iface 62 (.agg #[.int .u64 (px dp), .int .u64 (py dp), .bool (pb dp)]), .iface 133 (.string compB)] 165) →
          Calls Tryz.prog 81 #[.string (sizB (seedB k b)), .slice (some ⟨i, 0, none⟩) 4 4] w fun e w' => e = .returned (.string (sizB (seedB k b) ++ numB j ++ sizB (ptB cp) ++ sizB (ptB dp) ++ compB)) ∧ Below w.heap.size w w' := fun i w hr =>
        with_blk (sizB (seedB k b)) [(.iface 132 (.int .i64 (j : Int)), numB j), (.iface 62 (.agg #[.int .u64 (px cp), .int .u64 (py cp), .bool (pb cp)]), sizB (ptB cp)), (.iface 62 (.agg #[.int .u64 (px dp), .int .u64 (py dp), .bool (pb dp)]), sizB (ptB dp)), (.iface 133 (.string compB), compB)] i 4 _ _ w hr rfl rfl (by omega) (by
          intro vs hvs
          simp only [List.mem_cons, List.not_mem_nil, or_false] at hvs
          rcases hvs with rfl | rfl | rfl | rfl
          · exact hWX
          · exact hWC
          · exact hWD
          · exact writP compB) (Nat.le_trans (Nat.le_of_eq hTX) (by decide))
      have hSC : ∀ w : World, TabK w → Calls Tryz.prog 83 #[.string (ctxB k), .string (sizB (seedB k b) ++ numB j ++ sizB (ptB cp) ++ sizB (ptB dp) ++ compB)] w fun e w' => e = .returned (.agg #[.int .u64 (scaN (sizB (seedB k b) ++ numB j ++ sizB (ptB cp) ++ sizB (ptB dp) ++ compB) k : Nat)]) ∧ Below w.heap.size w w' := fun w hT => scaI_any _ k w hT hk (by rw [hTX]; omega)
      clear hWX hWC hWD hTX hcp hdp pc pd
      generalize hz : ((scaN (sizB (seedB k b) ++ numB j ++ sizB (ptB cp) ++ sizB (ptB dp) ++ compB) k : Nat) : Int) = z at *
      clear hz
      generalize hTXT : sizB (seedB k b) ++ numB j ++ sizB (ptB cp) ++ sizB (ptB dp) ++ compB = TXT at *
      clear hTXT
      generalize hSB : sizB (seedB k b) = SB at *
      clear hSB
      go_wp2
      refine pool_prT 23 [.val (u5),
          .val (.pointer (some ⟨w.heap.size, 0, none⟩)),
          .val (.string (ctxB k)),
          .val (.string SB),
          .val (.int .i64 (j : Int)),
          .val (.iface 132 (.int .i64 (j : Int))),
          .val (.pointer (some ⟨w.heap.size, 4, none⟩)),
          .val (.slice (some ⟨g1, 0, none⟩) n k1),
          .val (.int .i64 (j : Int)),
          .val (.pointer (some ⟨g1, 0 + j * 3, none⟩)),
          .val (.agg #[.int .u64 (px cp), .int .u64 (py cp), .bool (pb cp)]),
          .val (.iface 62 (.agg #[.int .u64 (px cp), .int .u64 (py cp), .bool (pb cp)])),
          .val (.pointer (some ⟨w.heap.size, 5, none⟩)),
          .val (.slice (some ⟨g2, 0, none⟩) n k2),
          .val (.int .i64 (j : Int)),
          .val (.pointer (some ⟨g2, 0 + j * 3, none⟩)),
          .val (.agg #[.int .u64 (px dp), .int .u64 (py dp), .bool (pb dp)]),
          .val (.iface 62 (.agg #[.int .u64 (px dp), .int .u64 (py dp), .bool (pb dp)])),
          .val (.iface 133 (.string compB)),
          .new (.cells #[.iface 132 (.int .i64 (j : Int)), .iface 62 (.agg #[.int .u64 (px cp), .int .u64 (py cp), .bool (pb cp)]), .iface 62 (.agg #[.int .u64 (px dp), .int .u64 (py dp), .bool (pb dp)]), .iface 133 (.string compB)] 165) (.cells #[.iface 132 (.int .i64 (j : Int)), .iface 62 (.agg #[.int .u64 (px cp), .int .u64 (py cp), .bool (pb cp)]), .iface 62 (.agg #[.int .u64 (px dp), .int .u64 (py dp), .bool (pb dp)]), .iface 133 (.string compB)] 165) 1004,
          .val (.string TXT),
          .val (.agg #[.int .u64 z]),
          .new (.cells #[.int .u64 z] 77) (.cells #[.int .u64 z] 77) 1001] [[5], [1], [29], [4], [6], [32], [1], [34], [6], [35, 36], [37], [38], [1], [40], [6], [41, 42], [43], [44], [], [33, 39, 45, 46], [31, 47], [30, 48], [49]] (fun f => [(some 28, u5), (some 29, .pointer (some ⟨w.heap.size, 0, none⟩)), (some 30, .string (ctxB k)), (some 31, .string SB), (some 32, .int .i64 (j : Int)), (some 33, .iface 132 (.int .i64 (j : Int))), (some 34, .pointer (some ⟨w.heap.size, 4, none⟩)), (some 35, .slice (some ⟨g1, 0, none⟩) n k1), (some 36, .int .i64 (j : Int)), (some 37, .pointer (some ⟨g1, 0 + j * 3, none⟩)), (some 38, .agg #[.int .u64 (px cp), .int .u64 (py cp), .bool (pb cp)]), (some 39, .iface 62 (.agg #[.int .u64 (px cp), .int .u64 (py cp), .bool (pb cp)])), (some 40, .pointer (some ⟨w.heap.size, 5, none⟩)), (some 41, .slice (some ⟨g2, 0, none⟩) n k2), (some 42, .int .i64 (j : Int)), (some 43, .pointer (some ⟨g2, 0 + j * 3, none⟩)), (some 44, .agg #[.int .u64 (px dp), .int .u64 (py dp), .bool (pb dp)]), (some 45, .iface 62 (.agg #[.int .u64 (px dp), .int .u64 (py dp), .bool (pb dp)])), (some 46, .iface 133 (.string compB)), (some 47, .slice (some ⟨f 19, 0, none⟩) 4 4), (some 48, .string TXT), (some 49, .agg #[.int .u64 z]), (some 50, .slice (some ⟨f 22, 0, none⟩) 1 1)]) (by kernel_rfl) (by kernel_rfl) (by kernel_rfl) (by kernel_rfl) (by decide) (by kernel_rfl) (fun _ => by kernel_rfl) ?_ ?_
      · intro ix hix
        match ix, hix with
        | 0, _ => exact ob_val [(5, u5)] rfl rfl (fun _ => by kernel_rfl) (fun A w ⟨e0, _⟩ hB => doV_move e0)
        | 1, _ => exact ob_val [(1, .pointer (some ⟨w.heap.size, 0, none⟩))] rfl rfl (fun _ => by kernel_rfl) (fun A w ⟨e0, _⟩ hB => fa_bat0 e0)
        | 2, _ => exact ob_val [(29, .pointer (some ⟨w.heap.size, 0, none⟩))] rfl rfl (fun _ => by kernel_rfl) (fun A w ⟨e0, _⟩ hB => ld_ctx e0 (keepC s0 hB))
        | 3, _ => exact ob_val [(4, .string SB)] rfl rfl (fun _ => by kernel_rfl) (fun A w ⟨e0, _⟩ hB => doV_move e0)
        | 4, _ => exact ob_val [(6, .int .i64 (j : Int))] rfl rfl (fun _ => by kernel_rfl) (fun A w ⟨e0, _⟩ hB => doV_move e0)
        | 5, _ => exact ob_val [(32, .int .i64 (j : Int))] rfl rfl (fun _ => by kernel_rfl) (fun A w ⟨e0, _⟩ hB => mi_index e0)
        | 6, _ => exact ob_val [(1, .pointer (some ⟨w.heap.size, 0, none⟩))] rfl rfl (fun _ => by kernel_rfl) (fun A w ⟨e0, _⟩ hB => fa_bat2 e0)
        | 7, _ => exact ob_val [(34, .pointer (some ⟨w.heap.size, 4, none⟩))] rfl rfl (fun _ => by kernel_rfl) (fun A w ⟨e0, _⟩ hB => ld_cpsl e0 (keepC s4 hB))
        | 8, _ => exact ob_val [(6, .int .i64 (j : Int))] rfl rfl (fun _ => by kernel_rfl) (fun A w ⟨e0, _⟩ hB => doV_move e0)
        | 9, _ => exact ob_val [(35, .slice (some ⟨g1, 0, none⟩) n k1), (36, .int .i64 (j : Int))] rfl rfl (fun _ => by kernel_rfl) (fun A w ⟨e0, e1, _⟩ hB => ix_cps e0 e1 (by omega))
        | 10, _ => exact ob_val [(37, .pointer (some ⟨g1, 0 + j * 3, none⟩))] rfl rfl (fun _ => by kernel_rfl) (fun A w ⟨e0, _⟩ hB => ld_cp e0 (keepC c0 hB) (keepC c1 hB) (keepC c2 hB))
        | 11, _ => exact ob_val [(38, .agg #[.int .u64 (px cp), .int .u64 (py cp), .bool (pb cp)])] rfl rfl (fun _ => by kernel_rfl) (fun A w ⟨e0, _⟩ hB => mi_cp e0)
        | 12, _ => exact ob_val [(1, .pointer (some ⟨w.heap.size, 0, none⟩))] rfl rfl (fun _ => by kernel_rfl) (fun A w ⟨e0, _⟩ hB => fa_bat3 e0)
        | 13, _ => exact ob_val [(40, .pointer (some ⟨w.heap.size, 5, none⟩))] rfl rfl (fun _ => by kernel_rfl) (fun A w ⟨e0, _⟩ hB => ld_cpsl e0 (keepC s5 hB))
        | 14, _ => exact ob_val [(6, .int .i64 (j : Int))] rfl rfl (fun _ => by kernel_rfl) (fun A w ⟨e0, _⟩ hB => doV_move e0)
        | 15, _ => exact ob_val [(41, .slice (some ⟨g2, 0, none⟩) n k2), (42, .int .i64 (j : Int))] rfl rfl (fun _ => by kernel_rfl) (fun A w ⟨e0, e1, _⟩ hB => ix_cps e0 e1 (by omega))
        | 16, _ => exact ob_val [(43, .pointer (some ⟨g2, 0 + j * 3, none⟩))] rfl rfl (fun _ => by kernel_rfl) (fun A w ⟨e0, _⟩ hB => ld_cp e0 (keepC d0 hB) (keepC d1 hB) (keepC d2 hB))
        | 17, _ => exact ob_val [(44, .agg #[.int .u64 (px dp), .int .u64 (py dp), .bool (pb dp)])] rfl rfl (fun _ => by kernel_rfl) (fun A w ⟨e0, _⟩ hB => mi_cp e0)
        | 18, _ => exact ob_val [] rfl rfl (fun _ => by kernel_rfl) (fun A w _ hB => mi_plain rfl)
        | 19, _ => exact ob_slc 4 [(33, .iface 132 (.int .i64 (j : Int))), (39, .iface 62 (.agg #[.int .u64 (px cp), .int .u64 (py cp), .bool (pb cp)])), (45, .iface 62 (.agg #[.int .u64 (px dp), .int .u64 (py dp), .bool (pb dp)])), (46, .iface 133 (.string compB))] rfl rfl (fun _ => by kernel_rfl) (fun A w ⟨e0, e1, e2, e3, _⟩ => sl_parts4 e0 e1 e2 e3)
        | 20, _ => exact ob_use 47 19 1004 (.cells #[.iface 132 (.int .i64 (j : Int)), .iface 62 (.agg #[.int .u64 (px cp), .int .u64 (py cp), .bool (pb cp)]), .iface 62 (.agg #[.int .u64 (px dp), .int .u64 (py dp), .bool (pb dp)]), .iface 133 (.string compB)] 165) (fun f => [(31, .string SB), (47, .slice (some ⟨f 19, 0, none⟩) 4 4)]) rfl rfl (by decide) (by kernel_rfl) rfl (fun _ => by kernel_rfl) (fun f A w ⟨e0, e1, _⟩ hB hr => cl2 cf_impl_transcript_with e0 e1 (hWT _ w hr))
        | 21, _ => exact ob_val [(30, .string (ctxB k)), (48, .string TXT)] rfl rfl (fun _ => by kernel_rfl) (fun A w ⟨e0, e1, _⟩ hB => cl2 cf_impl_context_scalar e0 e1 (hSC w (keepT hTr hgr0 hB)))
        | 22, _ => exact ob_slc 1 [(49, .agg #[.int .u64 z])] rfl rfl (fun _ => by kernel_rfl) (fun A w ⟨e0, _⟩ => sl_nN1 e0)
        | ix + 23, h => exact absurd h (by simp)
      intro f W4 hb4 hnew fuel hfuel
      have hb4' : Below wr.heap.size wr W4 := (Below.refl _ wr).drew.trans hb4
      replace r1 := r1.keep hb4'
      have hown4 := below_own3 hown hb4'
      replace hbl := hbl.trans (hb4'.mono hbl.size)
      have hs4 := hbl.size
      have hcell := (hnew 22 _ _ _ rfl (by decide)).2
      clear c0 c1 c2 d0 d1 d2 s0 s4 s5 hTr hgr0 hWT hSC hb4 hb4' hown hsz
      simp only [puts, List.foldl, Act.put, List.setIfInBounds_toArray, List.set_cons_zero, List.set_cons_succ]
      refine last_do2 23 24 hfuel (by kernel_rfl) (by kernel_rfl) (by kernel_rfl) rfl rfl rfl rfl
        (does_append_ow _ _ 98 rfl w.heap.size 77 i0 (.agg #[.int .u64 0]) 1 8 Tryz.underlying98 hi hz0 hz1 hz2 rfl (by decide) u5 j ((WS j).map (Value.int .u64)) rfl hown4 ⟨f 22, 0, none⟩ 1 1 [.int .u64 z] rfl rfl (World.news_of_block (cs := #[.int .u64 z]) hcell) (by simp [Value.oneCell']) (by decide) (by unfold maxLen; omega) (by omega) hs4) ?_
      rintro v w' ⟨g3, cap3, rfl, hown5, hgr⟩
      refine does_value (execS_assign rfl) ?_
      have R1 : w'.ownsRow w.heap.size 77 1 (.slice (some ⟨g3, 0, none⟩) (j + 1) cap3) (j + 1) ((WS (j + 1)).map (Value.int .u64)) := by rw [hnx, List.map_append]; exact hown5
      have R2 : Below w.heap.size w w' := hbl.grown hgr hs4 (fun r hr => (hown4.lt r hr).1)
      have R3' : B6 w' w.heap.size (ctxB k) (px b) (py b) (pb b) (some ⟨g1, 0, none⟩) n k1 (some ⟨g2, 0, none⟩) n k2 := by
        exact (hgr.block w.heap.size r1.lt (fun e => own_ne hown4 r1 (by decide) e.symm)).trans r1
      clear hown5 hgr hnew hcell hown4 hbl r1
      simp only [Act.put, List.setIfInBounds_toArray]
      go_wp2
      go_roundw
      case rel =>
        first
          | exact ⟨j + 1, by omega, by go_num, R1, R3', fun _ _ => trivial, R2⟩
          | ((repeat apply Exists.intro); exact ⟨⟨j + 1, by omega, by go_num, R1, R3', fun _ _ => trivial, R2⟩, rfl⟩)
      case measure => simp [intOf]; omega
    · obtain rfl : j = n := by omega
      obtain ⟨g, cap, rfl⟩ : ∃ g cap, u5 = .slice (some ⟨g, 0, none⟩) j cap := by
        rcases hown.2 with ⟨_, h0⟩ | ⟨g, cap, cur, hv, -⟩
        · omega
        · exact ⟨g, cap, hv⟩
      go_wp2
      go_ret
      exact ⟨g, cap, rfl, hown, hbl⟩
end Go.Proofs.YtagnikeaellbiaaGreatDoor

namespace Go.Proofs.YtagnikeaellbiaaGreatDoor
open Go.RowKit
set_option linter.unusedVariables false
set_option maxRecDepth 100000
section
variable {A : Act} {w : World} {dst : Option Tmp} {ty : TypeId} {ps : String} {af : Array Edge} {gd : Option (Nat × Bool)}
theorem cg0 {F : FuncId} {at_ : Array TypeId} {Fv : Nat → Value} {R : Nat → World → Prop} (hcf : ∀ (args : Array Value) (w : World), (callFunc F args).run Tryz.prog w = .ok (.enter F args) w) 
    (hc : Calls Tryz.prog F #[] w fun e w' => ∃ x, e = .returned (Fv x) ∧ R x w' ∧ Below w.heap.size w w') :
    Does Tryz.prog { dst := dst, op := .call { callee := .value (.func F), args := #[], argTypes := at_ }, type := ty, pos := ps, after := af, guard := gd } A w fun v' w' => ∃ x, v' = Fv x ∧ R x w' ∧ Below w.heap.size w w' := by
  have hF : A.eval (.func F) = .func (.func F) #[] #[] := rfl
  have h : (execOp A.eval { dst := dst, op := .call { callee := .value (.func F), args := #[], argTypes := at_ }, type := ty, pos := ps, after := af, guard := gd }).run Tryz.prog w = .ok (.enter F #[]) w := by generalize A.eval = ev at *; simp [execOp, hF, hcf, go_sem]
  exact does_call h (hc.mono fun _ _ ⟨x, h, h'⟩ => ⟨Fv x, h, x, rfl, h'⟩)
theorem cg1 {F : FuncId} {at_ : Array TypeId} {Fv : Nat → Value} {R : Nat → World → Prop} {x0 : Operand} {u0 : Value} (hcf : ∀ (args : Array Value) (w : World), (callFunc F args).run Tryz.prog w = .ok (.enter F args) w) (h0 : A.eval x0 = u0)
    (hc : Calls Tryz.prog F #[u0] w fun e w' => ∃ x, e = .returned (Fv x) ∧ R x w' ∧ Below w.heap.size w w') :
    Does Tryz.prog { dst := dst, op := .call { callee := .value (.func F), args := #[x0], argTypes := at_ }, type := ty, pos := ps, after := af, guard := gd } A w fun v' w' => ∃ x, v' = Fv x ∧ R x w' ∧ Below w.heap.size w w' := by
  have hF : A.eval (.func F) = .func (.func F) #[] #[] := rfl
  have h : (execOp A.eval { dst := dst, op := .call { callee := .value (.func F), args := #[x0], argTypes := at_ }, type := ty, pos := ps, after := af, guard := gd }).run Tryz.prog w = .ok (.enter F #[u0]) w := by generalize A.eval = ev at *; simp [execOp, hF, hcf, h0, go_sem]
  exact does_call h (hc.mono fun _ _ ⟨x, h, h'⟩ => ⟨Fv x, h, x, rfl, h'⟩)
theorem cg2 {F : FuncId} {at_ : Array TypeId} {Fv : Nat → Value} {R : Nat → World → Prop} {x0 x1 : Operand} {u0 u1 : Value} (hcf : ∀ (args : Array Value) (w : World), (callFunc F args).run Tryz.prog w = .ok (.enter F args) w) (h0 : A.eval x0 = u0) (h1 : A.eval x1 = u1)
    (hc : Calls Tryz.prog F #[u0, u1] w fun e w' => ∃ x, e = .returned (Fv x) ∧ R x w' ∧ Below w.heap.size w w') :
    Does Tryz.prog { dst := dst, op := .call { callee := .value (.func F), args := #[x0, x1], argTypes := at_ }, type := ty, pos := ps, after := af, guard := gd } A w fun v' w' => ∃ x, v' = Fv x ∧ R x w' ∧ Below w.heap.size w w' := by
  have hF : A.eval (.func F) = .func (.func F) #[] #[] := rfl
  have h : (execOp A.eval { dst := dst, op := .call { callee := .value (.func F), args := #[x0, x1], argTypes := at_ }, type := ty, pos := ps, after := af, guard := gd }).run Tryz.prog w = .ok (.enter F #[u0, u1]) w := by generalize A.eval = ev at *; simp [execOp, hF, hcf, h0, h1, go_sem]
  exact does_call h (hc.mono fun _ _ ⟨x, h, h'⟩ => ⟨Fv x, h, x, rfl, h'⟩)
theorem cg3 {F : FuncId} {at_ : Array TypeId} {Fv : Nat → Value} {R : Nat → World → Prop} {x0 x1 x2 : Operand} {u0 u1 u2 : Value} (hcf : ∀ (args : Array Value) (w : World), (callFunc F args).run Tryz.prog w = .ok (.enter F args) w) (h0 : A.eval x0 = u0) (h1 : A.eval x1 = u1) (h2 : A.eval x2 = u2)
    (hc : Calls Tryz.prog F #[u0, u1, u2] w fun e w' => ∃ x, e = .returned (Fv x) ∧ R x w' ∧ Below w.heap.size w w') :
    Does Tryz.prog { dst := dst, op := .call { callee := .value (.func F), args := #[x0, x1, x2], argTypes := at_ }, type := ty, pos := ps, after := af, guard := gd } A w fun v' w' => ∃ x, v' = Fv x ∧ R x w' ∧ Below w.heap.size w w' := by
  have hF : A.eval (.func F) = .func (.func F) #[] #[] := rfl
  have h : (execOp A.eval { dst := dst, op := .call { callee := .value (.func F), args := #[x0, x1, x2], argTypes := at_ }, type := ty, pos := ps, after := af, guard := gd }).run Tryz.prog w = .ok (.enter F #[u0, u1, u2]) w := by generalize A.eval = ev at *; simp [execOp, hF, hcf, h0, h1, h2, go_sem]
  exact does_call h (hc.mono fun _ _ ⟨x, h, h'⟩ => ⟨Fv x, h, x, rfl, h'⟩)
theorem cg4 {F : FuncId} {at_ : Array TypeId} {Fv : Nat → Value} {R : Nat → World → Prop} {x0 x1 x2 x3 : Operand} {u0 u1 u2 u3 : Value} (hcf : ∀ (args : Array Value) (w : World), (callFunc F args).run Tryz.prog w = .ok (.enter F args) w) (h0 : A.eval x0 = u0) (h1 : A.eval x1 = u1) (h2 : A.eval x2 = u2) (h3 : A.eval x3 = u3)
    (hc : Calls Tryz.prog F #[u0, u1, u2, u3] w fun e w' => ∃ x, e = .returned (Fv x) ∧ R x w' ∧ Below w.heap.size w w') :
    Does Tryz.prog { dst := dst, op := .call { callee := .value (.func F), args := #[x0, x1, x2, x3], argTypes := at_ }, type := ty, pos := ps, after := af, guard := gd } A w fun v' w' => ∃ x, v' = Fv x ∧ R x w' ∧ Below w.heap.size w w' := by
  have hF : A.eval (.func F) = .func (.func F) #[] #[] := rfl
  have h : (execOp A.eval { dst := dst, op := .call { callee := .value (.func F), args := #[x0, x1, x2, x3], argTypes := at_ }, type := ty, pos := ps, after := af, guard := gd }).run Tryz.prog w = .ok (.enter F #[u0, u1, u2, u3]) w := by generalize A.eval = ev at *; simp [execOp, hF, hcf, h0, h1, h2, h3, go_sem]
  exact does_call h (hc.mono fun _ _ ⟨x, h, h'⟩ => ⟨Fv x, h, x, rfl, h'⟩)
end
/-- a slice of n elements, whose block and capacity lie in one number -/
def slG (n x : Nat) : Value := .slice (some ⟨x / 18446744073709551616, 0, none⟩) n (x % 18446744073709551616)
theorem slG_of (n g cap : Nat) (h : cap < 18446744073709551616) : slG n (g * 18446744073709551616 + cap) = .slice (some ⟨g, 0, none⟩) n cap := by
  unfold slG
  rw [show (g * 18446744073709551616 + cap) / 18446744073709551616 = g by omega, show (g * 18446744073709551616 + cap) % 18446744073709551616 = cap by omega]
theorem own_cap {W : World} {base : Nat} {e : TypeId} {size g n cap : Nat} {xs : List Value} (h : W.ownsRow base e size (.slice (some ⟨g, 0, none⟩) n cap) n xs) : cap < 18446744073709551616 := by
  rcases h.2 with ⟨h0, _⟩ | ⟨g', cap', cur, hv, -, -, -, hm, -⟩
  · cases h0
  · have : cap = cap' := by injection hv
    subst this
    unfold maxLen at hm; omega
theorem own_turned {w w' : World} {B : Nat} {e : TypeId} {s : Nat} {v : Value} {n : Nat} {xs : List Value} {b : Nat} {ob : Obj} (h : w.ownsRow B e s v n xs) (hT : Turned b ob w w') (hne : v.ownBlock ≠ some b) : w'.ownsRow B e s v n xs := by
  refine ⟨h.1, ?_⟩
  rcases h.2 with h2 | ⟨g, cap, cur, hv, hbg, hg, hr⟩
  · exact .inl h2
  · refine .inr ⟨g, cap, cur, hv, hbg, ?_, hr⟩
    rw [hT.other g (fun e => hne (by rw [hv, ← e]; rfl))]; exact hg
/-- a row of elements of type e goes on to hold while blocks of other types are turned -/
theorem own_lasts (B : Nat) (e : TypeId) (s n : Nat) (xs : List Value) (obs : List Obj) (hne : ∀ ob ∈ obs, ∃ cs T, ob = .cells cs T ∧ T ≠ e) : G.Lasts (fun x w => w.ownsRow B e s (slG n x) n xs) obs :=
  ⟨fun x w w' h hb => below_own3 h hb, fun x w w' b ob ob' h hm hw hT => by
    obtain ⟨cs, T, rfl, hT'⟩ := hne ob hm
    exact own_turned h hT (own_ne h hw hT')⟩
end Go.Proofs.YtagnikeaellbiaaGreatDoor
