import Derived.Test.YtjmhmajfkdglnaaGreatDoorMrg36
import Derived.Test.YtjmhmajfkdglnaaGreatDoorMrg5
import Derived.Test.YtjmhmajfkdglnaaGreatDoorMrg31
import Derived.Test.YtjmhmajfkdglnaaGreatDoorMrg4
import Derived.Test.YtjmhmajfkdglnaaGreatDoorMrg21
import Derived.Test.YtjmhmajfkdglnaaGreatDoorMrg30
import Derived.Test.YtjmhmajfkdglnaaGreatDoorMrg20
set_option linter.unusedVariables false
set_option maxRecDepth 100000
set_option maxHeartbeats 16000000
namespace Go.Proofs.YtjmhmajfkdglnaaGreatDoor
open Go.RowKit M
theorem does_append {w : World} {o : Oper} {a : Act} (s x : Operand) (t : TypeId) (ho : o.op = .call { callee := .builtin .append, args := #[s, x], argTypes := #[t, t] })
    (base : Nat) (e : TypeId) (i : TypeInfo) (z : Value) (bytes : Nat) (ht : Tryz.prog.underlying t = some (.slice e)) (hi : Tryz.prog.info? e = some i) (hz : i.zero = some z)
    (hsize : i.size = 1) (hby : i.bytes = bytes) (hzs : z.cells.size = 1)
    (g n cap : Nat) (xs : List Value) (hs : a.eval s = .slice (some ⟨g, 0, none⟩) n cap) (hown : Row w base g n cap xs)
    (ad : Addr) (m c : Nat) (news : List Value) (hx : a.eval x = .slice (some ad) m c) (hl : news.length = m) (hnews : ∀ j u, news[j]? = some u → w.cell? (ad.add j) = some u) (h1 : ∀ u ∈ news, u.oneCell' = true)
    (h63 : n + m ≤ maxLen) (hbytes : (n + m) * bytes ≤ 140737488355328) (hbase : base ≤ w.heap.size) :
    Does Tryz.prog o a w fun v w' => ∃ g' cap', v = .slice (some ⟨g', 0, none⟩) (n + m) cap' ∧ Row w' base g' (n + m) cap' (xs ++ news) ∧ w.grownBy w' (some g) :=
  fun Q K hK => wp_append_row s x t ho base e i z bytes ht hi hz hsize hby hzs g n cap xs hs hown ad m c news hx hl hnews h1 h63 hbytes hbase w.heap.size rfl
    fun g' cap' w' h2 h3 _ _ => hK _ _ ⟨g', cap', rfl, h2, h3⟩
theorem puS_tri (t : Tri) (w : World) : Calls Tryz.prog 75 #[.agg #[.int .u64 (t.1 : Int), .int .u64 (t.2.1 : Int), .bool t.2.2]] w fun e w' => e = .returned (.string (ptB (asT t))) ∧ Below w.heap.size w w' := putS_any t.1 t.2.1 t.2.2 w
theorem infoW5 : (Tryz.prog.info? 22).map (fun i => (i.zero, i.size, i.bytes)) = some (some (.int .u64 0), 1, 8) := by kernel_rfl
theorem wgtS_any (k : Nat) (b : Tri) (cs ds : List Tri) (n gc oc cc gd od cd : Nat) (w : World) (hk : k < 3) (hlc : cs.length = n) (hld : ds.length = n) (hn : n ≤ 200) (hc : Pts w gc oc cs) (hd : Pts w gd od ds) :
    Calls Tryz.prog 88 #[.int .i64 k, .agg #[.int .u64 (b.1 : Int), .int .u64 (b.2.1 : Int), .bool b.2.2], .slice (some ⟨gc, oc, none⟩) n cc, .slice (some ⟨gd, od, none⟩) n cd] w fun e w' => ∃ g cap, e = .returned (.slice (some ⟨g, 0, none⟩) n cap) ∧ Row w' w.heap.size g n cap ((wgts k (asT b) (cs.map asT) (ds.map asT) n).map (Value.int .u64)) ∧ Below w.heap.size w w' := by
  obtain ⟨i0, hi, hz0, hz1, hz2⟩ := info_parts infoW5
  obtain ⟨WS, hWS⟩ : ∃ WS, Hid (WS = wgts k (asT b) (cs.map asT) (ds.map asT)) := ⟨_, rfl⟩
  rw [← hWS.out]
  have hPb := puS_tri b
  have hZb := fun w => sizS_any (ptB (asT b)) w (by rw [ptB_size]; omega)
  have hTg := fun w => tagS_any ⟨#[83, 101, 101, 100, 45]⟩ k w hk (by decide)
  have hzt := seedT_size k hk
  have hZt := fun w => sizS_any (seedT k) w (by omega)
  have hSh := fun w => shaS_any (seedM k (asT b)) w (by unfold seedM; rw [ByteArray.size_append, sizB_size, sizB_size, ptB_size]; omega)
  have hss : (seedB k (asT b)).size = 32 := by unfold seedB; rw [strOfNums_size, shaF_length]
  have hZs := fun w => sizS_any (seedB k (asT b)) w (by omega)
  have q0 : (sizB (ptB (asT b))).size + (sizB (seedT k)).size ≤ 9223372036854775807 := by rw [sizB_size, sizB_size, ptB_size]; omega
  change ∀ w, Calls _ _ _ _ (fun e w' => e = .returned (.string (seedT k)) ∧ _) at hTg
  change ∀ w, Calls _ _ #[.string (sizB (ptB (asT b)) ++ sizB (seedT k))] _ (fun e w' => e = .returned (.string (seedB k (asT b))) ∧ _) at hSh
  have hgw : Hid (∀ i, i < n → ∃ t u, cs[i]? = some t ∧ ds[i]? = some u ∧ WS (i + 1) = WS i ++ [((scaN (sizB (seedB k (asT b)) ++ numB i ++ sizB (ptB (asT t)) ++ sizB (ptB (asT u)) ++ compB) k : Nat) : Int)]) := fun i hi => by
    obtain ⟨t, ht⟩ : ∃ t, cs[i]? = some t := ⟨_, List.getElem?_eq_getElem (by omega)⟩
    obtain ⟨u, hu⟩ : ∃ u, ds[i]? = some u := ⟨_, List.getElem?_eq_getElem (by omega)⟩
    refine ⟨t, u, ht, hu, ?_⟩
    rw [hWS.out, wgts_succ]
    have e1 : (cs.map asT).getD i none = asT t := by rw [List.getD_eq_getElem?_getD, List.getElem?_map, ht]; rfl
    have e2 : (ds.map asT).getD i none = asT u := by rw [List.getD_eq_getElem?_getD, List.getElem?_map, hu]; rfl
    rw [e1, e2]; rfl
  have hW0 : WS 0 = [] := by rw [hWS.out]; rfl
  clear hWS
  generalize seedB k (asT b) = SD at *
  generalize seedT k = ST at *
  have hr5 := R3.new w b.1 b.2.1 b.2.2
  have hb5 := (Below.refl _ w).alloc (Nat.le_refl _) (Obj.cells #[.int .u64 (b.1 : Int), .int .u64 (b.2.1 : Int), .bool b.2.2] 28)
  go_enter Tryz.func88, Tryz.ntmps88
  go_wp2_with fail
  refine (hPb _).mono ?_
  rintro e w1 ⟨rfl, b1⟩
  replace hb5 := hb5.trans (b1.mono hb5.size)
  go_wp2_with fail
  refine (hZb _).mono ?_
  rintro e w2 ⟨rfl, b2⟩
  replace hb5 := hb5.trans (b2.mono hb5.size)
  go_wp2_with fail
  refine (hTg _).mono ?_
  rintro e w3 ⟨rfl, b3⟩
  replace hb5 := hb5.trans (b3.mono hb5.size)
  go_wp2_with fail
  refine (hZt _).mono ?_
  rintro e w4 ⟨rfl, b4⟩
  replace hb5 := hb5.trans (b4.mono hb5.size)
  go_wp2_with fail
  refine (hSh _).mono ?_
  rintro e w5 ⟨rfl, b5⟩
  replace hb5 := hb5.trans (b5.mono hb5.size)
  clear hPb hZb hTg hZt hSh b1 b2 b3 b4 b5 hr5 q0
  have hr0 : Row (w5.alloc (.cells #[] 22)) w.heap.size w5.heap.size 0 0 ((WS 0).map (Value.int .u64)) := by
    rw [hW0]
    exact Row.of_block (n := 0) (cs := #[]) (heap_alloc_new w5 _) hb5.size (by simp) (by simp)
  have hb6 := hb5.alloc hb5.size (Obj.cells #[] 22)
  clear hb5 hW0
  go_wp2
  go_loopw [10, 11] (fun ov iv wr => ∃ j g cap : Nat, j ≤ n ∧ iv = .int .i64 (j : Int) ∧ ov = .slice (some ⟨g, 0, none⟩) j cap ∧ Row wr w.heap.size g j cap ((WS j).map (Value.int .u64)) ∧ Below w.heap.size w wr) (fun _ i _ => n - (intOf i).toNat)
  case atStart => exact ⟨0, w5.heap.size, 0, by omega, rfl, rfl, hr0, hb6⟩
  case round =>
    clear hr0 hb6
    obtain ⟨j, g, cap, hj, rfl, rfl, hrow, hbl⟩ := hrel
    have hsz := hbl.size
    by_cases hlt : j < n
    · have hli : (j : Int) < (n : Int) := by omega
      obtain ⟨t, u, ht, hu, hnx⟩ := hgw.out j hlt
      have hcv := conv2 wr 0 (j : Int)
      have hn0 : (0 : Int) = ((j / 256 % 256 : Nat) : Int) := by omega
      have hn1 : (j : Int) = ((j % 256 : Nat) : Int) := by omega
      have hnum : strOfNums [0, (j : Int)] = numB j := by unfold numB; rw [← hn0, ← hn1]
      clear hn0 hn1
      rw [hnum] at hcv
      have e1 : (j : Int).tdiv 256 = 0 := Int.tdiv_eq_zero_of_lt (by omega) (by omega)
      have e2 : IntKind.u8.wrap (j : Int) = (j : Int) := u8_in _ (by omega) (by omega)
      have pc := (hc.below hbl hc.lt).alloc (Obj.cells #[.int .u8 0, .int .u8 (j : Int)] 5) |>.drew
      have pd := (hd.below hbl hd.lt).alloc (Obj.cells #[.int .u8 0, .int .u8 (j : Int)] 5) |>.drew
      have c0 := pc.c0 j t ht
      have c1 := pc.c1 j t ht
      have c2 := pc.c2 j t ht
      have d0 := pd.c0 j u hu
      have d1 := pd.c1 j u hu
      have d2 := pd.c2 j u hu
      have PT := puS_tri t
      have PU := puS_tri u
      have ZT := fun w => sizS_any (ptB (asT t)) w (by rw [ptB_size]; omega)
      have ZU := fun w => sizS_any (ptB (asT u)) w (by rw [ptB_size]; omega)
      have SC := fun w => scaS_any (sizB SD ++ numB j ++ sizB (ptB (asT t)) ++ sizB (ptB (asT u)) ++ compB) k w hk (by
        simp only [ByteArray.size_append, sizB_size, numB_size, ptB_size, hss]
        rw [show compB.size = 9 from rfl]; omega)
      have q1 : (sizB SD).size + (numB j).size ≤ 9223372036854775807 := by rw [sizB_size, numB_size]; omega
      have q2 : (sizB SD ++ numB j).size + (sizB (ptB (asT t))).size ≤ 9223372036854775807 := by simp only [ByteArray.size_append, sizB_size, numB_size, ptB_size]; omega
      have q3 : (sizB SD ++ numB j ++ sizB (ptB (asT t))).size + (sizB (ptB (asT u))).size ≤ 9223372036854775807 := by simp only [ByteArray.size_append, sizB_size, numB_size, ptB_size]; omega
      have q4 : (sizB SD ++ numB j ++ sizB (ptB (asT t)) ++ sizB (ptB (asT u))).size + compB.size ≤ 9223372036854775807 := by
        simp only [ByteArray.size_append, sizB_size, numB_size, ptB_size]
        rw [show compB.size = 9 from rfl]; omega
      obtain ⟨tx, ty, tc⟩ := t
      obtain ⟨ux, uy, uc⟩ := u
      dsimp only at c0 c1 c2 d0 d1 d2 PT PU
      clear ht hu pc pd
      generalize hz : ((scaN (sizB SD ++ numB j ++ sizB (ptB (asT (tx, ty, tc))) ++ sizB (ptB (asT (ux, uy, uc))) ++ compB) k : Nat) : Int) = z at *
      clear hz
      generalize sizB (ptB (asT (tx, ty, tc))) = BT at *
      generalize sizB (ptB (asT (ux, uy, uc))) = BU at *
      generalize ptB (asT (tx, ty, tc)) = PTB at *
      generalize ptB (asT (ux, uy, uc)) = PUB at *
      generalize hNU : numB j = NU at *
      generalize hSB : sizB SD = SB at *
      clear hNU hSB
      go_wp2
      have hrow2 := hrow.alloc (Obj.cells #[.int .u8 0, .int .u8 (j : Int)] 5)
      have hb2 := hbl.alloc hsz (Obj.cells #[.int .u8 0, .int .u8 (j : Int)] 5)
      have hs2 := hb2.size
      generalize wr.alloc (Obj.cells #[.int .u8 0, .int .u8 (j : Int)] 5) = W2 at *
      clear hcv hrow hbl hsz
      refine pool_prT 23 [.val (.slice (some ⟨g, 0, none⟩) j cap),
          .val (.string SD),
          .val (.string SB),
          .val (.string NU),
          .val (.string (SB ++ NU)),
          .val (.slice (some ⟨gc, oc, none⟩) n cc),
          .val (.int .i64 (j : Int)),
          .val (.pointer (some ⟨gc, oc + j * 3, none⟩)),
          .val (.agg #[.int .u64 (tx : Int), .int .u64 (ty : Int), .bool tc]),
          .val (.string PTB),
          .val (.string BT),
          .val (.string (SB ++ NU ++ BT)),
          .val (.slice (some ⟨gd, od, none⟩) n cd),
          .val (.int .i64 (j : Int)),
          .val (.pointer (some ⟨gd, od + j * 3, none⟩)),
          .val (.agg #[.int .u64 (ux : Int), .int .u64 (uy : Int), .bool uc]),
          .val (.string PUB),
          .val (.string BU),
          .val (.string (SB ++ NU ++ BT ++ BU)),
          .val (.string (SB ++ NU ++ BT ++ BU ++ compB)),
          .val (.int .i64 (k : Int)),
          .val (.int .u64 z),
          .new (.cells #[.int .u64 z] 22) (.cells #[.int .u64 z] 22) 1001] [[10], [9], [36], [12], [37, 38], [2], [11], [40, 41], [42], [43], [44], [39, 45], [3], [11], [47, 48], [49], [50], [51], [46, 52], [53], [0], [54, 55], [56]] (fun f => [(some 35, .slice (some ⟨g, 0, none⟩) j cap), (some 36, .string SD), (some 37, .string SB), (some 38, .string NU), (some 39, .string (SB ++ NU)), (some 40, .slice (some ⟨gc, oc, none⟩) n cc), (some 41, .int .i64 (j : Int)), (some 42, .pointer (some ⟨gc, oc + j * 3, none⟩)), (some 43, .agg #[.int .u64 (tx : Int), .int .u64 (ty : Int), .bool tc]), (some 44, .string PTB), (some 45, .string BT), (some 46, .string (SB ++ NU ++ BT)), (some 47, .slice (some ⟨gd, od, none⟩) n cd), (some 48, .int .i64 (j : Int)), (some 49, .pointer (some ⟨gd, od + j * 3, none⟩)), (some 50, .agg #[.int .u64 (ux : Int), .int .u64 (uy : Int), .bool uc]), (some 51, .string PUB), (some 52, .string BU), (some 53, .string (SB ++ NU ++ BT ++ BU)), (some 54, .string (SB ++ NU ++ BT ++ BU ++ compB)), (some 55, .int .i64 (k : Int)), (some 56, .int .u64 z), (some 57, .slice (some ⟨f 22, 0, none⟩) 1 1)]) (by kernel_rfl) (by kernel_rfl) (by kernel_rfl) (by kernel_rfl) (by decide) (by kernel_rfl) (fun _ => by kernel_rfl) ?_ ?_
      · intro ix hix
        match ix, hix with
        | 0, _ => exact ob_val [(10, .slice (some ⟨g, 0, none⟩) j cap)] rfl rfl (fun _ => by kernel_rfl) (fun A w ⟨e0, _⟩ hB => doV_move e0)
        | 1, _ => exact ob_val [(9, .string SD)] rfl rfl (fun _ => by kernel_rfl) (fun A w ⟨e0, _⟩ hB => doV_move e0)
        | 2, _ => exact ob_val [(36, .string SD)] rfl rfl (fun _ => by kernel_rfl) (fun A w ⟨e0, _⟩ hB => cl1 cf_spec_l5Sized e0 (hZs w))
        | 3, _ => exact ob_val [(12, .string NU)] rfl rfl (fun _ => by kernel_rfl) (fun A w ⟨e0, _⟩ hB => doV_move e0)
        | 4, _ => exact ob_val [(37, .string SB), (38, .string NU)] rfl rfl (fun _ => by kernel_rfl) (fun A w ⟨e0, e1, _⟩ hB => doS_cat e0 e1 q1)
        | 5, _ => exact ob_val [(2, .slice (some ⟨gc, oc, none⟩) n cc)] rfl rfl (fun _ => by kernel_rfl) (fun A w ⟨e0, _⟩ hB => doV_move e0)
        | 6, _ => exact ob_val [(11, .int .i64 (j : Int))] rfl rfl (fun _ => by kernel_rfl) (fun A w ⟨e0, _⟩ hB => doV_move e0)
        | 7, _ => exact ob_val [(40, .slice (some ⟨gc, oc, none⟩) n cc), (41, .int .i64 (j : Int))] rfl rfl (fun _ => by kernel_rfl) (fun A w ⟨e0, e1, _⟩ hB => ix_pts e0 e1 (by omega))
        | 8, _ => exact ob_val [(42, .pointer (some ⟨gc, oc + j * 3, none⟩))] rfl rfl (fun _ => by kernel_rfl) (fun A w ⟨e0, _⟩ hB => ld_pt e0 (keepC c0 hB) (keepC c1 hB) (keepC c2 hB))
        | 9, _ => exact ob_val [(43, .agg #[.int .u64 (tx : Int), .int .u64 (ty : Int), .bool tc])] rfl rfl (fun _ => by kernel_rfl) (fun A w ⟨e0, _⟩ hB => cl1 cf_spec_PutPoint e0 (PT w))
        | 10, _ => exact ob_val [(44, .string PTB)] rfl rfl (fun _ => by kernel_rfl) (fun A w ⟨e0, _⟩ hB => cl1 cf_spec_l5Sized e0 (ZT w))
        | 11, _ => exact ob_val [(39, .string (SB ++ NU)), (45, .string BT)] rfl rfl (fun _ => by kernel_rfl) (fun A w ⟨e0, e1, _⟩ hB => doS_cat e0 e1 q2)
        | 12, _ => exact ob_val [(3, .slice (some ⟨gd, od, none⟩) n cd)] rfl rfl (fun _ => by kernel_rfl) (fun A w ⟨e0, _⟩ hB => doV_move e0)
        | 13, _ => exact ob_val [(11, .int .i64 (j : Int))] rfl rfl (fun _ => by kernel_rfl) (fun A w ⟨e0, _⟩ hB => doV_move e0)
        | 14, _ => exact ob_val [(47, .slice (some ⟨gd, od, none⟩) n cd), (48, .int .i64 (j : Int))] rfl rfl (fun _ => by kernel_rfl) (fun A w ⟨e0, e1, _⟩ hB => ix_pts e0 e1 (by omega))
        | 15, _ => exact ob_val [(49, .pointer (some ⟨gd, od + j * 3, none⟩))] rfl rfl (fun _ => by kernel_rfl) (fun A w ⟨e0, _⟩ hB => ld_pt e0 (keepC d0 hB) (keepC d1 hB) (keepC d2 hB))
        | 16, _ => exact ob_val [(50, .agg #[.int .u64 (ux : Int), .int .u64 (uy : Int), .bool uc])] rfl rfl (fun _ => by kernel_rfl) (fun A w ⟨e0, _⟩ hB => cl1 cf_spec_PutPoint e0 (PU w))
        | 17, _ => exact ob_val [(51, .string PUB)] rfl rfl (fun _ => by kernel_rfl) (fun A w ⟨e0, _⟩ hB => cl1 cf_spec_l5Sized e0 (ZU w))
        | 18, _ => exact ob_val [(46, .string (SB ++ NU ++ BT)), (52, .string BU)] rfl rfl (fun _ => by kernel_rfl) (fun A w ⟨e0, e1, _⟩ hB => doS_cat e0 e1 q3)
        | 19, _ => exact ob_val [(53, .string (SB ++ NU ++ BT ++ BU))] rfl rfl (fun _ => by kernel_rfl) (fun A w ⟨e0, _⟩ hB => doS_cat e0 rfl q4)
        | 20, _ => exact ob_val [(0, .int .i64 (k : Int))] rfl rfl (fun _ => by kernel_rfl) (fun A w ⟨e0, _⟩ hB => doV_move e0)
        | 21, _ => exact ob_val [(54, .string (SB ++ NU ++ BT ++ BU ++ compB)), (55, .int .i64 (k : Int))] rfl rfl (fun _ => by kernel_rfl) (fun A w ⟨e0, e1, _⟩ hB => cl2 cf_spec_l5Scalar e0 e1 (SC w))
        | 22, _ => exact ob_slc 1 [(56, .int .u64 z)] rfl rfl (fun _ => by kernel_rfl) (fun A w ⟨e0, _⟩ => sl_u64s1 e0)
        | ix + 23, h => exact absurd h (by simp)
      intro f W3 hb3 hnew fuel hfuel
      have hrow3 := hrow2.drew.below hb3 hrow2.hi
      have hb4 := hb2.drew.trans (hb3.mono hb2.size)
      have hs4 := hb4.size
      have hcell := (hnew 22 _ _ _ rfl (by decide)).2
      simp only [puts, List.foldl, Act.put, List.setIfInBounds_toArray, List.set_cons_zero, List.set_cons_succ]
      refine last_do2 23 24 hfuel (by kernel_rfl) (by kernel_rfl) (by kernel_rfl) rfl rfl rfl rfl
        (does_append _ _ 158 rfl w.heap.size 22 i0 (.int .u64 0) 8 Tryz.underlying158 hi hz0 hz1 hz2 rfl g j cap ((WS j).map (Value.int .u64)) rfl hrow3 ⟨f 22, 0, none⟩ 1 1 [.int .u64 z] rfl rfl (World.news_of_block (cs := #[.int .u64 z]) hcell) (by simp [Value.oneCell']) (by unfold maxLen; omega) (by omega) hs4) ?_
      rintro v w' ⟨g2, cap2, rfl, hrow4, hgr⟩
      refine does_value (execS_assign rfl) ?_
      have R1 : Row w' w.heap.size g2 (j + 1) cap2 ((WS (j + 1)).map (Value.int .u64)) := by rw [hnx, List.map_append]; exact hrow4
      have R2 : Below w.heap.size w w' := hb4.grown hgr hs4 (fun r hr => by simp at hr; have := hrow3.lo; omega)
      clear hrow4 hgr hnew hcell hrow3 hrow2 hb4 hb3 hb2 c0 c1 c2 d0 d1 d2 PT PU ZT ZU SC q1 q2 q3 q4
      simp only [Act.put, List.setIfInBounds_toArray]
      go_wp2
      go_roundw
      case rel =>
        first
          | exact ⟨j + 1, g2, cap2, by omega, by go_num, rfl, R1, R2⟩
          | ((repeat apply Exists.intro); exact ⟨⟨j + 1, g2, cap2, by omega, by go_num, rfl, R1, R2⟩, rfl⟩)
      case measure => simp [intOf]; omega
    · obtain rfl : j = n := by omega
      go_wp2
      go_ret
      exact ⟨g, cap, rfl, hrow, hbl⟩
theorem mixS_any (ws : List Int) (gw nw cw : Nat) (ps : List Tri) (n gp op' cp : Nat) (w : World) (hn : n ≤ 200) (hwl : n ≤ nw) (hws : ∀ i, i < n → 0 ≤ lk ws i ∧ lk ws i < 18446744073709551616)
    (hgw : gw < w.heap.size) (hwc : ∀ i, i < n → w.cell? ⟨gw, i, none⟩ = some (.int .u64 (lk ws i))) (hl : ps.length = n) (hp : Pts w gp op' ps) :
    Calls Tryz.prog 87 #[.slice (some ⟨gw, 0, none⟩) nw cw, .slice (some ⟨gp, op', none⟩) n cp] w fun e w' => e = .returned (.agg #[.int .u64 (px (mixTo ws (ps.map asT) n)), .int .u64 (py (mixTo ws (ps.map asT) n)), .bool (pb (mixTo ws (ps.map asT) n))]) ∧ Below w.heap.size w w' := by
  obtain ⟨MX, hMX⟩ : ∃ MX, Hid (MX = mixTo ws (ps.map asT)) := ⟨_, rfl⟩
  rw [← hMX.out]
  have hst : Hid (∀ j, j < n → ∃ (t : Tri) (k : Nat), ps[j]? = some t ∧ k < 18446744073709551616 ∧ lk ws j = (k : Int) ∧ MX (j + 1) = ad (MX j) (nt k (asT t))) := fun j hj => by
    obtain ⟨t, ht⟩ : ∃ t, ps[j]? = some t := ⟨_, List.getElem?_eq_getElem (by omega)⟩
    have h1 := hws j hj
    refine ⟨t, (lk ws j).toNat, ht, by omega, by omega, ?_⟩
    rw [hMX.out, mixTo]
    have e1 : (ps.map asT).getD j none = asT t := by rw [List.getD_eq_getElem?_getD, List.getElem?_map, ht]; rfl
    rw [e1]
  have hM0 : MX 0 = none := by rw [hMX.out]; rfl
  have hwc' : Hid (∀ i, i < n → w.cell? ⟨gw, i, none⟩ = some (.int .u64 (lk ws i))) := hwc
  clear hMX hws hwc
  have r4 := R3.new w 0 0 false
  have b4 := (Below.refl _ w).alloc (Nat.le_refl _) (Obj.cells #[.int .u64 0, .int .u64 0, .bool false] 28)
  go_enter Tryz.func87, Tryz.ntmps87
  go_wp2_with fail
  refine (zeroS _).mono ?_
  rintro e w1 ⟨rfl, rfl⟩
  have r5 : R3 (((w.alloc (Obj.cells #[.int .u64 0, .int .u64 0, .bool false] 28)).alloc (Obj.cells #[.int .u64 0, .int .u64 0, .bool true] 28)).alloc (Obj.cells #[.int .u64 0, .int .u64 0, .bool true] 28)) (w.heap.size + 1 + 1) 0 0 true := (R3.new _ 0 0 true).at (by simp)
  replace r4 := (r4.alloc (Obj.cells #[.int .u64 0, .int .u64 0, .bool true] 28)).alloc (Obj.cells #[.int .u64 0, .int .u64 0, .bool true] 28)
  replace b4 := (b4.alloc (by simp) (Obj.cells #[.int .u64 0, .int .u64 0, .bool true] 28)).alloc (by simp; omega) (Obj.cells #[.int .u64 0, .int .u64 0, .bool true] 28)
  go_wp2
  go_loopw [6] (fun iv wr => ∃ (j : Nat) (q : Pt), j ≤ n ∧ iv = .int .i64 (j : Int) ∧ Hid (q = MX j) ∧ R3 wr (w.heap.size + 1 + 1) (px q) (py q) (pb q) ∧ R3 wr w.heap.size 0 0 false ∧ Below w.heap.size w wr) (fun i _ => n - (intOf i).toNat)
  case atStart => exact ⟨0, none, by omega, rfl, hM0.symm, r5, r4, b4⟩
  case round =>
    clear r5 r4 b4 hM0
    obtain ⟨j, q, hj, rfl, hq, r5, r4, hbl⟩ := hrel
    by_cases hlt : j < n
    · have hli : (j : Int) < (n : Int) := by omega
      obtain ⟨t, k, ht, hk, hlk, hnx⟩ := hst.out j hlt
      rw [← hq.out] at hnx
      have a0 : wr.drew.cell? ⟨gw, 0 + j, none⟩ = some (.int .u64 (k : Int)) := by
        have h1 := hwc'.out j hlt
        rw [hlk] at h1
        rw [Nat.zero_add]
        exact (hbl.cell (p := ⟨gw, j, none⟩) hgw).trans h1
      have pp := (hp.below hbl hp.lt).drew
      have c0 := pp.c0 j t ht
      have c1 := pp.c1 j t ht
      have c2 := pp.c2 j t ht
      have T := fun w => tiS_tri k t w hk
      have S := sumS_xyz q (nt k (asT t))
      obtain ⟨q2, hq2⟩ : ∃ q2, q2 = nt k (asT t) := ⟨_, rfl⟩
      rw [← hq2] at T S hnx
      obtain ⟨q3, hq3⟩ : ∃ q3, q3 = ad q q2 := ⟨_, rfl⟩
      rw [← hq3] at S hnx
      have hnx' : Hid (q3 = MX (j + 1)) := hnx.symm
      obtain ⟨tx, ty, tc⟩ := t
      dsimp only at c0 c1 c2 T
      clear ht pp hq2 hq3 hnx hq hlk
      have d0 : wr.drew.cell? ⟨w.heap.size + 1 + 1, 0, none⟩ = some (.int .u64 (px q)) := r5.c0
      have d1 : wr.drew.cell? ⟨w.heap.size + 1 + 1, 1, none⟩ = some (.int .u64 (py q)) := r5.c1
      have d2 : wr.drew.cell? ⟨w.heap.size + 1 + 1, 2, none⟩ = some (.bool (pb q)) := r5.c2
      go_wp2
      refine pool_prT 11 [.val (.agg #[.int .u64 (px q), .int .u64 (py q), .bool (pb q)]),
          .val (.slice (some ⟨gw, 0, none⟩) nw cw),
          .val (.int .i64 (j : Int)),
          .val (.pointer (some ⟨gw, 0 + j, none⟩)),
          .val (.int .u64 (k : Int)),
          .val (.slice (some ⟨gp, op', none⟩) n cp),
          .val (.int .i64 (j : Int)),
          .val (.pointer (some ⟨gp, op' + j * 3, none⟩)),
          .val (.agg #[.int .u64 (tx : Int), .int .u64 (ty : Int), .bool tc]),
          .val (.agg #[.int .u64 (px q2), .int .u64 (py q2), .bool (pb q2)]),
          .val (.agg #[.int .u64 (px q3), .int .u64 (py q3), .bool (pb q3)])] [[5], [0], [6], [15, 16], [17], [1], [6], [19, 20], [21], [18, 22], [14, 23]] (fun f => [(some 14, .agg #[.int .u64 (px q), .int .u64 (py q), .bool (pb q)]), (some 15, .slice (some ⟨gw, 0, none⟩) nw cw), (some 16, .int .i64 (j : Int)), (some 17, .pointer (some ⟨gw, 0 + j, none⟩)), (some 18, .int .u64 (k : Int)), (some 19, .slice (some ⟨gp, op', none⟩) n cp), (some 20, .int .i64 (j : Int)), (some 21, .pointer (some ⟨gp, op' + j * 3, none⟩)), (some 22, .agg #[.int .u64 (tx : Int), .int .u64 (ty : Int), .bool tc]), (some 23, .agg #[.int .u64 (px q2), .int .u64 (py q2), .bool (pb q2)]), (some 24, .agg #[.int .u64 (px q3), .int .u64 (py q3), .bool (pb q3)])]) (by kernel_rfl) (by kernel_rfl) (by kernel_rfl) (by kernel_rfl) (by decide) (by kernel_rfl) (fun _ => by kernel_rfl) ?_ ?_
      · intro ix hix
        match ix, hix with
        | 0, _ => exact ob_val [(5, .pointer (some ⟨w.heap.size + 1 + 1, 0, none⟩))] rfl rfl (fun _ => by kernel_rfl) (fun A w ⟨e0, _⟩ hB => ld_pt e0 (keepC d0 hB) (keepC d1 hB) (keepC d2 hB))
        | 1, _ => exact ob_val [(0, .slice (some ⟨gw, 0, none⟩) nw cw)] rfl rfl (fun _ => by kernel_rfl) (fun A w ⟨e0, _⟩ hB => doV_move e0)
        | 2, _ => exact ob_val [(6, .int .i64 (j : Int))] rfl rfl (fun _ => by kernel_rfl) (fun A w ⟨e0, _⟩ hB => doV_move e0)
        | 3, _ => exact ob_val [(15, .slice (some ⟨gw, 0, none⟩) nw cw), (16, .int .i64 (j : Int))] rfl rfl (fun _ => by kernel_rfl) (fun A w ⟨e0, e1, _⟩ hB => ix_u64s e0 e1 (by omega))
        | 4, _ => exact ob_val [(17, .pointer (some ⟨gw, 0 + j, none⟩))] rfl rfl (fun _ => by kernel_rfl) (fun A w ⟨e0, _⟩ hB => ld_u64 e0 (keepC a0 hB))
        | 5, _ => exact ob_val [(1, .slice (some ⟨gp, op', none⟩) n cp)] rfl rfl (fun _ => by kernel_rfl) (fun A w ⟨e0, _⟩ hB => doV_move e0)
        | 6, _ => exact ob_val [(6, .int .i64 (j : Int))] rfl rfl (fun _ => by kernel_rfl) (fun A w ⟨e0, _⟩ hB => doV_move e0)
        | 7, _ => exact ob_val [(19, .slice (some ⟨gp, op', none⟩) n cp), (20, .int .i64 (j : Int))] rfl rfl (fun _ => by kernel_rfl) (fun A w ⟨e0, e1, _⟩ hB => ix_pts e0 e1 (by omega))
        | 8, _ => exact ob_val [(21, .pointer (some ⟨gp, op' + j * 3, none⟩))] rfl rfl (fun _ => by kernel_rfl) (fun A w ⟨e0, _⟩ hB => ld_pt e0 (keepC c0 hB) (keepC c1 hB) (keepC c2 hB))
        | 9, _ => exact ob_val [(18, .int .u64 (k : Int)), (22, .agg #[.int .u64 (tx : Int), .int .u64 (ty : Int), .bool tc])] rfl rfl (fun _ => by kernel_rfl) (fun A w ⟨e0, e1, _⟩ hB => cl2 cf_spec_Times e0 e1 (T w))
        | 10, _ => exact ob_val [(14, .agg #[.int .u64 (px q), .int .u64 (py q), .bool (pb q)]), (23, .agg #[.int .u64 (px q2), .int .u64 (py q2), .bool (pb q2)])] rfl rfl (fun _ => by kernel_rfl) (fun A w ⟨e0, e1, _⟩ hB => cl2 cf_spec_l3Sum e0 e1 (S w))
        | ix + 11, h => exact absurd h (by simp)
      intro f W3 hb3 _ fuel hfuel
      have hb3' : Below wr.heap.size wr W3 := (Below.refl _ wr).drew.trans hb3
      replace r5 := r5.below hb3' r5.lt
      replace r4 := r4.below hb3' r4.lt
      replace hbl := hbl.trans (hb3'.mono hbl.size)
      simp only [puts, List.foldl, Act.put, List.setIfInBounds_toArray, List.set_cons_zero, List.set_cons_succ]
      refine last_do1 11 hfuel (by kernel_rfl) (by kernel_rfl) rfl rfl ?_
      refine fun Q K hK => st_pt (z0 := px q3) (z1 := py q3) (z2 := pb q3) rfl rfl r5 Q K (fun v w' e => hK v w' ?_)
      subst e
      have R1 := r5.set (px q3) (py q3) (pb q3)
      have R2 := r4.other (b' := w.heap.size + 1 + 1) (by omega) (px q3) (py q3) (pb q3)
      have R3' : Below w.heap.size w (set3 W3 (w.heap.size + 1 + 1) (px q3) (py q3) (pb q3)) := set3_below hbl (by omega)
      change Below w.heap.size w (((W3.setCell _ _).setCell _ _).setCell _ _) at R3'
      change R3 (((W3.setCell _ _).setCell _ _).setCell _ _) _ _ _ _ at R1
      change R3 (((W3.setCell _ _).setCell _ _).setCell _ _) _ _ _ _ at R2
      clear c0 c1 c2 d0 d1 d2 a0 T S hb3 hb3' r5 r4 hbl
      generalize ((W3.setCell _ _).setCell _ _).setCell _ _ = W4 at *
      go_wp2
      go_roundw
      case rel =>
        first
          | exact ⟨j + 1, q3, by omega, by go_num, hnx', R1, R2, R3'⟩
          | ((repeat apply Exists.intro); exact ⟨⟨j + 1, q3, by omega, by go_num, hnx', R1, R2, R3'⟩, rfl⟩)
      case measure => simp [intOf]; omega
    · obtain rfl : j = n := by omega
      have hq' := hq.out
      subst hq'
      have c0 := r5.c0
      have c1 := r5.c1
      have c2 := r5.c2
      have d0 := r4.c0
      have d1 := r4.c1
      have d2 := r4.c2
      have f0 := r4.frz 0
      have f1 := r4.frz 1
      have f2 := r4.frz 2
      go_wp2
      exact bodyPost_ret (v := .agg #[.int .u64 (px (MX j)), .int .u64 (py (MX j)), .bool (pb (MX j))]) (point_res (fn := Tryz.f87) (p := 4) Tryz.results87 _ rfl (r4.set (px (MX j)) (py (MX j)) (pb (MX j)))) rfl ⟨rfl, set3_below hbl (Nat.le_refl _)⟩
theorem ppb_res {W : World} {b b2 : Nat} {x y x2 y2 : Int} {c c2 : Bool} {fn : Func} {p p2 u : Tmp} (h : fn.results = #[.cell p 28, .cell p2 28, .tmp u]) (tmps : Array Value) (hp : tmps.getD p undef = .pointer (some ⟨b, 0, none⟩)) (hp2 : tmps.getD p2 undef = .pointer (some ⟨b2, 0, none⟩)) (hc : R3 W b x y c) (hc2 : R3 W b2 x2 y2 c2) :
    (results fn tmps).run Tryz.prog W = .ok (.tuple #[.agg #[.int .u64 x, .int .u64 y, .bool c], .agg #[.int .u64 x2, .int .u64 y2, .bool c2], tmps.getD u undef]) W := by
  have hp' : tmps[p]?.getD undef = .pointer (some ⟨b, 0, none⟩) := by simpa using hp
  have hp2' : tmps[p2]?.getD undef = .pointer (some ⟨b2, 0, none⟩) := by simpa using hp2
  simp [results, h, hp', hp2', asAddr, run_loadVar_mid W b 0 28 [.int .u64 x, .int .u64 y, .bool c] _ hc.range Tryz.underlying28 rfl (by kernel_rfl), run_loadVar_mid W b2 0 28 [.int .u64 x2, .int .u64 y2, .bool c2] _ hc2.range Tryz.underlying28 rfl (by kernel_rfl)]
theorem R3.keep' {W W' : World} {b : Nat} {x y : Int} {c : Bool} (h : R3 W b x y c) (hb : Below W.heap.size W W') : R3 W' b x y c := h.below hb h.lt
noncomputable def comM (k : Nat) (b : Tri) (cs ds ps : List Tri) : Pt := mixTo (wgts k (asT b) (cs.map asT) (ds.map asT) cs.length) (ps.map asT) cs.length
theorem asT_list (ps : List Tri) : ∀ p ∈ ps.map asT, on p := fun p hp => by obtain ⟨t, -, rfl⟩ := List.mem_map.1 hp; exact asT_on t
theorem comM_on (k : Nat) (b : Tri) (cs ds ps : List Tri) : on (comM k b cs ds ps) := mixTo_on (asT_list ps) _
section
variable (bx by' : Int) (bc : Bool) (gc oc nc cc gd od nd cd : Nat) (w : World)
theorem comS_of (k : Nat) (ws : List Int) (hwl : ws.length = nc) (mx my zx zy : Int) (mc zc : Bool)
    (B : ∀ w', Below w.heap.size w w' → Calls Tryz.prog 86 #[.int .i64 k, .agg #[.int .u64 bx, .int .u64 by', .bool bc], .agg #[.int .u64 bx, .int .u64 by', .bool bc], .slice (some ⟨gc, oc, none⟩) nc cc, .slice (some ⟨gd, od, none⟩) nc cd] w' fun e w'' => e = .returned (.bool true) ∧ Below w'.heap.size w' w'')
    (Wg : ∀ w', Below w.heap.size w w' → Calls Tryz.prog 88 #[.int .i64 k, .agg #[.int .u64 bx, .int .u64 by', .bool bc], .slice (some ⟨gc, oc, none⟩) nc cc, .slice (some ⟨gd, od, none⟩) nc cd] w' fun e w'' => ∃ g cap, e = .returned (.slice (some ⟨g, 0, none⟩) nc cap) ∧ Row w'' w'.heap.size g nc cap (ws.map (Value.int .u64)) ∧ Below w'.heap.size w' w'')
    (M1 : ∀ g cap w', Below w.heap.size w w' → g < w'.heap.size → (∀ i, i < nc → w'.cell? ⟨g, i, none⟩ = some (.int .u64 (lk ws i))) → Calls Tryz.prog 87 #[.slice (some ⟨g, 0, none⟩) nc cap, .slice (some ⟨gc, oc, none⟩) nc cc] w' fun e w'' => e = .returned (.agg #[.int .u64 mx, .int .u64 my, .bool mc]) ∧ Below w'.heap.size w' w'')
    (M2 : ∀ g cap w', Below w.heap.size w w' → g < w'.heap.size → (∀ i, i < nc → w'.cell? ⟨g, i, none⟩ = some (.int .u64 (lk ws i))) → Calls Tryz.prog 87 #[.slice (some ⟨g, 0, none⟩) nc cap, .slice (some ⟨gd, od, none⟩) nc cd] w' fun e w'' => e = .returned (.agg #[.int .u64 zx, .int .u64 zy, .bool zc]) ∧ Below w'.heap.size w' w'') :
    Calls Tryz.prog 93 #[.int .i64 k, .agg #[.int .u64 bx, .int .u64 by', .bool bc], .slice (some ⟨gc, oc, none⟩) nc cc, .slice (some ⟨gd, od, none⟩) nc cd] w fun e w' => e = .returned (.tuple #[.agg #[.int .u64 mx, .int .u64 my, .bool mc], .agg #[.int .u64 zx, .int .u64 zy, .bool zc], .bool true]) ∧ Below w.heap.size w w' := by
  obtain ⟨X, hX⟩ : ∃ X, X = ((w.alloc (Obj.cells #[.int .u64 bx, .int .u64 by', .bool bc] 28)).alloc (Obj.cells #[.int .u64 0, .int .u64 0, .bool false] 28)).alloc (Obj.cells #[.int .u64 0, .int .u64 0, .bool false] 28) := ⟨_, rfl⟩
  have r0 : R3 X w.heap.size bx by' bc := by rw [hX]; exact ((R3.new _ bx by' bc).alloc _).alloc _
  have r1 : R3 X (w.heap.size + 1) 0 0 false := by rw [hX]; exact ((R3.new _ 0 0 false).at (by simp)).alloc _
  have r2 : R3 X (w.heap.size + 1 + 1) 0 0 false := by rw [hX]; exact (R3.new _ 0 0 false).at (by simp)
  have hb : Below w.heap.size w X := by rw [hX]; exact ((((Below.refl _ w).alloc (Nat.le_refl _) _).alloc (by simp) _).alloc (by simp; omega) _)
  rw [hX] at r0 r1 r2 hb
  clear hX
  go_enter Tryz.func93, Tryz.ntmps93
  go_wp2_with fail
  refine (B _ hb).mono ?_
  rintro e w1 ⟨rfl, b1⟩
  replace r0 := r0.keep' b1
  replace r1 := r1.keep' b1
  replace r2 := r2.keep' b1
  replace hb := hb.trans (b1.mono hb.size)
  clear B b1
  have a0 := r0.c0
  have a1 := r0.c1
  have a2 := r0.c2
  go_wp2_with fail
  refine (Wg _ hb).mono ?_
  rintro e w2 ⟨g, cap, rfl, hrow, b2⟩
  replace r1 := r1.keep' b2
  replace r2 := r2.keep' b2
  replace hb := hb.trans (b2.mono hb.size)
  clear Wg b2 a0 a1 a2 r0
  go_wp2_with fail
  refine (M1 g cap _ hb hrow.hi (fun i hi => hrow.cell i hi)).mono ?_
  rintro e w3 ⟨rfl, b3⟩
  replace hrow := hrow.below b3 hrow.hi
  replace r1 := r1.keep' b3
  replace r2 := r2.keep' b3
  replace hb := hb.trans (b3.mono hb.size)
  clear M1 b3
  go_wp2_with fail
  refine (M2 g cap _ hb hrow.hi (fun i hi => hrow.cell i hi)).mono ?_
  rintro e w4 ⟨rfl, b4⟩
  replace r1 := r1.keep' b4
  replace r2 := r2.keep' b4
  replace hb := hb.trans (b4.mono hb.size)
  clear M2 b4 hrow
  have c0 := r1.c0
  have c1 := r1.c1
  have c2 := r1.c2
  have f0 := r1.frz
  have d0 := r2.c0
  have d1 := r2.c1
  have d2 := r2.c2
  have e0 := r2.frz
  go_wp2
  have q1 := r1.set mx my mc |>.other (b' := w.heap.size + 1 + 1) (by omega) zx zy zc
  have q2 := (r2.other (b' := w.heap.size + 1) (by omega) mx my mc).set zx zy zc
  refine bodyPost_ret (v := .tuple #[.agg #[.int .u64 mx, .int .u64 my, .bool mc], .agg #[.int .u64 zx, .int .u64 zy, .bool zc], .bool true]) (ppb_res (fn := Tryz.f93) (p := 8) (p2 := 9) (u := 10) Tryz.results93 _ rfl rfl q1 q2) rfl ⟨rfl, set3_below (set3_below hb (by omega)) (by omega)⟩
end
theorem comS_yes (mode : Int) (b : Tri) (cs ds : List Tri) (gc oc cc gd od cd : Nat) (w : World) (hc : Pts w gc oc cs) (hd : Pts w gd od ds) (h : batB mode b b cs ds = true) :
    Calls Tryz.prog 93 #[.int .i64 mode, triW b, .slice (some ⟨gc, oc, none⟩) cs.length cc, .slice (some ⟨gd, od, none⟩) ds.length cd] w fun e w' => e = .returned (.tuple #[ptW (comM mode.toNat b cs ds cs), ptW (comM mode.toNat b cs ds ds), .bool true]) ∧ Below w.heap.size w w' := by
  have h' := h
  rw [batB_iff] at h'
  obtain ⟨h1, h2, h3, h4, h5, -, -⟩ := h'
  obtain ⟨k, rfl⟩ : ∃ k : Nat, mode = (k : Int) := ⟨mode.toNat, by omega⟩
  rw [Int.toNat_natCast, ptW_eq, ptW_eq, ← h5]
  have hlt := wgts_lt k (asT b) (cs.map asT) (ds.map asT) cs.length
  have hln := wgts_length k (asT b) (cs.map asT) (ds.map asT) cs.length
  have hin : ∀ i, i < cs.length → 0 ≤ lk (wgts k (asT b) (cs.map asT) (ds.map asT) cs.length) i ∧ lk (wgts k (asT b) (cs.map asT) (ds.map asT) cs.length) i < 18446744073709551616 := fun i hi => by
    have := hlt (lk (wgts k (asT b) (cs.map asT) (ds.map asT) cs.length) i) (by
      unfold lk
      rw [List.getD_eq_getElem?_getD, List.getElem?_eq_getElem (by omega)]
      exact List.getElem_mem _)
    omega
  refine comS_of _ _ _ gc oc cs.length cc gd od cd w k (wgts k (asT b) (cs.map asT) (ds.map asT) cs.length) hln _ _ _ _ _ _ (fun w' hb => ?_) (fun w' hb => ?_) (fun g cap w' hb hg hcl => ?_) (fun g cap w' hb hg hcl => ?_)
  · have := batS_any k b b cs ds gc oc cc gd od cd w' (hc.below hb hc.lt) (hd.below hb hd.lt)
    rw [h, ← h5] at this
    exact this
  · exact wgtS_any k b cs ds cs.length gc oc cc gd od cd w' (by omega) rfl h5.symm h4.2 (hc.below hb hc.lt) (hd.below hb hd.lt)
  · exact mixS_any _ g _ cap cs cs.length gc oc cc w' h4.2 (Nat.le_refl _) hin hg hcl rfl (hc.below hb hc.lt)
  · exact mixS_any _ g _ cap ds cs.length gd od cd w' h4.2 (Nat.le_refl _) hin hg hcl h5.symm (hd.below hb hd.lt)
theorem chlS_of (k : Nat) (bx by' mx my zx zy xx xy yx yy n : Int) (bc mc zc xc yc : Bool) (p1 p2 p3 p4 p5 s1 s2 s3 s4 s5 : ByteArray) (w : World)
    (h1 : s1.size ≤ 100) (h2 : s2.size ≤ 100) (h3 : s3.size ≤ 100) (h4 : s4.size ≤ 100) (h5 : s5.size ≤ 100)
    (P1 : ∀ w, Calls Tryz.prog 75 #[.agg #[.int .u64 bx, .int .u64 by', .bool bc]] w fun e w' => e = .returned (.string p1) ∧ Below w.heap.size w w')
    (P2 : ∀ w, Calls Tryz.prog 75 #[.agg #[.int .u64 mx, .int .u64 my, .bool mc]] w fun e w' => e = .returned (.string p2) ∧ Below w.heap.size w w')
    (P3 : ∀ w, Calls Tryz.prog 75 #[.agg #[.int .u64 zx, .int .u64 zy, .bool zc]] w fun e w' => e = .returned (.string p3) ∧ Below w.heap.size w w')
    (P4 : ∀ w, Calls Tryz.prog 75 #[.agg #[.int .u64 xx, .int .u64 xy, .bool xc]] w fun e w' => e = .returned (.string p4) ∧ Below w.heap.size w w')
    (P5 : ∀ w, Calls Tryz.prog 75 #[.agg #[.int .u64 yx, .int .u64 yy, .bool yc]] w fun e w' => e = .returned (.string p5) ∧ Below w.heap.size w w')
    (Z1 : ∀ w, Calls Tryz.prog 73 #[.string p1] w fun e w' => e = .returned (.string s1) ∧ Below w.heap.size w w')
    (Z2 : ∀ w, Calls Tryz.prog 73 #[.string p2] w fun e w' => e = .returned (.string s2) ∧ Below w.heap.size w w')
    (Z3 : ∀ w, Calls Tryz.prog 73 #[.string p3] w fun e w' => e = .returned (.string s3) ∧ Below w.heap.size w w')
    (Z4 : ∀ w, Calls Tryz.prog 73 #[.string p4] w fun e w' => e = .returned (.string s4) ∧ Below w.heap.size w w')
    (Z5 : ∀ w, Calls Tryz.prog 73 #[.string p5] w fun e w' => e = .returned (.string s5) ∧ Below w.heap.size w w')
    (SC : ∀ w, Calls Tryz.prog 84 #[.string (s1 ++ s2 ++ s3 ++ s4 ++ s5 ++ challB), .int .i64 k] w fun e w' => e = .returned (.int .u64 n) ∧ Below w.heap.size w w') :
    Calls Tryz.prog 89 #[.int .i64 k, .agg #[.int .u64 bx, .int .u64 by', .bool bc], .agg #[.int .u64 mx, .int .u64 my, .bool mc], .agg #[.int .u64 zx, .int .u64 zy, .bool zc], .agg #[.int .u64 xx, .int .u64 xy, .bool xc], .agg #[.int .u64 yx, .int .u64 yy, .bool yc]] w fun e w' => e = .returned (.int .u64 n) ∧ Below w.heap.size w w' := by
  obtain ⟨X, hX⟩ : ∃ X, X = ((((w.alloc (Obj.cells #[.int .u64 bx, .int .u64 by', .bool bc] 28)).alloc (Obj.cells #[.int .u64 mx, .int .u64 my, .bool mc] 28)).alloc (Obj.cells #[.int .u64 zx, .int .u64 zy, .bool zc] 28)).alloc (Obj.cells #[.int .u64 xx, .int .u64 xy, .bool xc] 28)).alloc (Obj.cells #[.int .u64 yx, .int .u64 yy, .bool yc] 28) := ⟨_, rfl⟩
  have r1 : R3 X w.heap.size bx by' bc := by rw [hX]; exact ((((R3.new _ bx by' bc).alloc _).alloc _).alloc _).alloc _
  have r2 : R3 X (w.heap.size + 1) mx my mc := by rw [hX]; exact ((((R3.new _ mx my mc).at (by simp)).alloc _).alloc _).alloc _
  have r3 : R3 X (w.heap.size + 1 + 1) zx zy zc := by rw [hX]; exact (((R3.new _ zx zy zc).at (by simp)).alloc _).alloc _
  have r4 : R3 X (w.heap.size + 1 + 1 + 1) xx xy xc := by rw [hX]; exact ((R3.new _ xx xy xc).at (by simp)).alloc _
  have r5 : R3 X (w.heap.size + 1 + 1 + 1 + 1) yx yy yc := by rw [hX]; exact (R3.new _ yx yy yc).at (by simp)
  have hb : Below w.heap.size w X := by
    rw [hX]
    exact (((((Below.refl _ w).alloc (Nat.le_refl _) _).alloc (by simp) _).alloc (by simp; omega) _).alloc (by simp; omega) _).alloc (by simp; omega) _
  have q1 : s1.size + s2.size ≤ 9223372036854775807 := by omega
  have q2 : (s1 ++ s2).size + s3.size ≤ 9223372036854775807 := by simp only [ByteArray.size_append]; omega
  have q3 : (s1 ++ s2 ++ s3).size + s4.size ≤ 9223372036854775807 := by simp only [ByteArray.size_append]; omega
  have q4 : (s1 ++ s2 ++ s3 ++ s4).size + s5.size ≤ 9223372036854775807 := by simp only [ByteArray.size_append]; omega
  have q5 : (s1 ++ s2 ++ s3 ++ s4 ++ s5).size + challB.size ≤ 9223372036854775807 := by
    simp only [ByteArray.size_append]
    rw [show challB.size = 9 from rfl]; omega
  go_enter Tryz.func89, Tryz.ntmps89
  go_wp2
  rw [← hX]
  clear hX
  have a0 : X.drew.cell? ⟨w.heap.size, 0, none⟩ = _ := r1.c0
  have a1 : X.drew.cell? ⟨w.heap.size, 1, none⟩ = _ := r1.c1
  have a2 : X.drew.cell? ⟨w.heap.size, 2, none⟩ = _ := r1.c2
  have b0 : X.drew.cell? ⟨w.heap.size + 1, 0, none⟩ = _ := r2.c0
  have b1 : X.drew.cell? ⟨w.heap.size + 1, 1, none⟩ = _ := r2.c1
  have b2 : X.drew.cell? ⟨w.heap.size + 1, 2, none⟩ = _ := r2.c2
  have c0 : X.drew.cell? ⟨w.heap.size + 1 + 1, 0, none⟩ = _ := r3.c0
  have c1 : X.drew.cell? ⟨w.heap.size + 1 + 1, 1, none⟩ = _ := r3.c1
  have c2 : X.drew.cell? ⟨w.heap.size + 1 + 1, 2, none⟩ = _ := r3.c2
  have d0 : X.drew.cell? ⟨w.heap.size + 1 + 1 + 1, 0, none⟩ = _ := r4.c0
  have d1 : X.drew.cell? ⟨w.heap.size + 1 + 1 + 1, 1, none⟩ = _ := r4.c1
  have d2 : X.drew.cell? ⟨w.heap.size + 1 + 1 + 1, 2, none⟩ = _ := r4.c2
  have e0' : X.drew.cell? ⟨w.heap.size + 1 + 1 + 1 + 1, 0, none⟩ = _ := r5.c0
  have e1' : X.drew.cell? ⟨w.heap.size + 1 + 1 + 1 + 1, 1, none⟩ = _ := r5.c1
  have e2' : X.drew.cell? ⟨w.heap.size + 1 + 1 + 1 + 1, 2, none⟩ = _ := r5.c2
  clear r1 r2 r3 r4 r5
  refine pool_list [.val (.agg #[.int .u64 bx, .int .u64 by', .bool bc]),
      .val (.string p1),
      .val (.string s1),
      .val (.agg #[.int .u64 mx, .int .u64 my, .bool mc]),
      .val (.string p2),
      .val (.string s2),
      .val (.string (s1 ++ s2)),
      .val (.agg #[.int .u64 zx, .int .u64 zy, .bool zc]),
      .val (.string p3),
      .val (.string s3),
      .val (.string (s1 ++ s2 ++ s3)),
      .val (.agg #[.int .u64 xx, .int .u64 xy, .bool xc]),
      .val (.string p4),
      .val (.string s4),
      .val (.string (s1 ++ s2 ++ s3 ++ s4)),
      .val (.agg #[.int .u64 yx, .int .u64 yy, .bool yc]),
      .val (.string p5),
      .val (.string s5),
      .val (.string (s1 ++ s2 ++ s3 ++ s4 ++ s5)),
      .val (.string (s1 ++ s2 ++ s3 ++ s4 ++ s5 ++ challB)),
      .val (.int .i64 (k : Int)),
      .val (.int .u64 n),
      .val (.int .u64 n)] [[7], [13], [14], [8], [16], [17], [15, 18], [9], [20], [21], [19, 22], [10], [24], [25], [23, 26], [11], [28], [29], [27, 30], [31], [0], [32, 33], [34]] (fun f => [(some 13, .agg #[.int .u64 bx, .int .u64 by', .bool bc]), (some 14, .string p1), (some 15, .string s1), (some 16, .agg #[.int .u64 mx, .int .u64 my, .bool mc]), (some 17, .string p2), (some 18, .string s2), (some 19, .string (s1 ++ s2)), (some 20, .agg #[.int .u64 zx, .int .u64 zy, .bool zc]), (some 21, .string p3), (some 22, .string s3), (some 23, .string (s1 ++ s2 ++ s3)), (some 24, .agg #[.int .u64 xx, .int .u64 xy, .bool xc]), (some 25, .string p4), (some 26, .string s4), (some 27, .string (s1 ++ s2 ++ s3 ++ s4)), (some 28, .agg #[.int .u64 yx, .int .u64 yy, .bool yc]), (some 29, .string p5), (some 30, .string s5), (some 31, .string (s1 ++ s2 ++ s3 ++ s4 ++ s5)), (some 32, .string (s1 ++ s2 ++ s3 ++ s4 ++ s5 ++ challB)), (some 33, .int .i64 (k : Int)), (some 34, .int .u64 n), (some 12, .int .u64 n)]) (by kernel_rfl) (by kernel_rfl) (by kernel_rfl) (by kernel_rfl) (fun _ => by kernel_rfl) ?_ ?_
  · intro ix hix
    match ix, hix with
    | 0, _ => exact ob_val [(7, .pointer (some ⟨w.heap.size, 0, none⟩))] rfl rfl (fun _ => by kernel_rfl) (fun A w ⟨e0, _⟩ hB => ld_pt e0 (keepC a0 hB) (keepC a1 hB) (keepC a2 hB))
    | 1, _ => exact ob_val [(13, .agg #[.int .u64 bx, .int .u64 by', .bool bc])] rfl rfl (fun _ => by kernel_rfl) (fun A w ⟨e0, _⟩ hB => cl1 cf_spec_PutPoint e0 (P1 w))
    | 2, _ => exact ob_val [(14, .string p1)] rfl rfl (fun _ => by kernel_rfl) (fun A w ⟨e0, _⟩ hB => cl1 cf_spec_l5Sized e0 (Z1 w))
    | 3, _ => exact ob_val [(8, .pointer (some ⟨w.heap.size + 1, 0, none⟩))] rfl rfl (fun _ => by kernel_rfl) (fun A w ⟨e0, _⟩ hB => ld_pt e0 (keepC b0 hB) (keepC b1 hB) (keepC b2 hB))
    | 4, _ => exact ob_val [(16, .agg #[.int .u64 mx, .int .u64 my, .bool mc])] rfl rfl (fun _ => by kernel_rfl) (fun A w ⟨e0, _⟩ hB => cl1 cf_spec_PutPoint e0 (P2 w))
    | 5, _ => exact ob_val [(17, .string p2)] rfl rfl (fun _ => by kernel_rfl) (fun A w ⟨e0, _⟩ hB => cl1 cf_spec_l5Sized e0 (Z2 w))
    | 6, _ => exact ob_val [(15, .string s1), (18, .string s2)] rfl rfl (fun _ => by kernel_rfl) (fun A w ⟨e0, e1, _⟩ hB => doS_cat e0 e1 q1)
    | 7, _ => exact ob_val [(9, .pointer (some ⟨w.heap.size + 1 + 1, 0, none⟩))] rfl rfl (fun _ => by kernel_rfl) (fun A w ⟨e0, _⟩ hB => ld_pt e0 (keepC c0 hB) (keepC c1 hB) (keepC c2 hB))
    | 8, _ => exact ob_val [(20, .agg #[.int .u64 zx, .int .u64 zy, .bool zc])] rfl rfl (fun _ => by kernel_rfl) (fun A w ⟨e0, _⟩ hB => cl1 cf_spec_PutPoint e0 (P3 w))
    | 9, _ => exact ob_val [(21, .string p3)] rfl rfl (fun _ => by kernel_rfl) (fun A w ⟨e0, _⟩ hB => cl1 cf_spec_l5Sized e0 (Z3 w))
    | 10, _ => exact ob_val [(19, .string (s1 ++ s2)), (22, .string s3)] rfl rfl (fun _ => by kernel_rfl) (fun A w ⟨e0, e1, _⟩ hB => doS_cat e0 e1 q2)
    | 11, _ => exact ob_val [(10, .pointer (some ⟨w.heap.size + 1 + 1 + 1, 0, none⟩))] rfl rfl (fun _ => by kernel_rfl) (fun A w ⟨e0, _⟩ hB => ld_pt e0 (keepC d0 hB) (keepC d1 hB) (keepC d2 hB))
    | 12, _ => exact ob_val [(24, .agg #[.int .u64 xx, .int .u64 xy, .bool xc])] rfl rfl (fun _ => by kernel_rfl) (fun A w ⟨e0, _⟩ hB => cl1 cf_spec_PutPoint e0 (P4 w))
    | 13, _ => exact ob_val [(25, .string p4)] rfl rfl (fun _ => by kernel_rfl) (fun A w ⟨e0, _⟩ hB => cl1 cf_spec_l5Sized e0 (Z4 w))
    | 14, _ => exact ob_val [(23, .string (s1 ++ s2 ++ s3)), (26, .string s4)] rfl rfl (fun _ => by kernel_rfl) (fun A w ⟨e0, e1, _⟩ hB => doS_cat e0 e1 q3)
    | 15, _ => exact ob_val [(11, .pointer (some ⟨w.heap.size + 1 + 1 + 1 + 1, 0, none⟩))] rfl rfl (fun _ => by kernel_rfl) (fun A w ⟨e0, _⟩ hB => ld_pt e0 (keepC e0' hB) (keepC e1' hB) (keepC e2' hB))
    | 16, _ => exact ob_val [(28, .agg #[.int .u64 yx, .int .u64 yy, .bool yc])] rfl rfl (fun _ => by kernel_rfl) (fun A w ⟨e0, _⟩ hB => cl1 cf_spec_PutPoint e0 (P5 w))
    | 17, _ => exact ob_val [(29, .string p5)] rfl rfl (fun _ => by kernel_rfl) (fun A w ⟨e0, _⟩ hB => cl1 cf_spec_l5Sized e0 (Z5 w))
    | 18, _ => exact ob_val [(27, .string (s1 ++ s2 ++ s3 ++ s4)), (30, .string s5)] rfl rfl (fun _ => by kernel_rfl) (fun A w ⟨e0, e1, _⟩ hB => doS_cat e0 e1 q4)
    | 19, _ => exact ob_val [(31, .string (s1 ++ s2 ++ s3 ++ s4 ++ s5))] rfl rfl (fun _ => by kernel_rfl) (fun A w ⟨e0, _⟩ hB => doS_cat e0 rfl q5)
    | 20, _ => exact ob_val [(0, .int .i64 (k : Int))] rfl rfl (fun _ => by kernel_rfl) (fun A w ⟨e0, _⟩ hB => doV_move e0)
    | 21, _ => exact ob_val [(32, .string (s1 ++ s2 ++ s3 ++ s4 ++ s5 ++ challB)), (33, .int .i64 (k : Int))] rfl rfl (fun _ => by kernel_rfl) (fun A w ⟨e0, e1, _⟩ hB => cl2 cf_spec_l5Scalar e0 e1 (SC w))
    | 22, _ => exact ob_val [(34, .int .u64 n)] rfl rfl (fun _ => by kernel_rfl) (fun A w ⟨e0, _⟩ hB => doV_assign e0)
    | ix + 23, h => exact absurd h (by simp)
  intro f W3 hb3 _ _
  have hb4 := hb.drew.trans (hb3.mono hb.size)
  simp only [puts, List.foldl, Act.put, List.setIfInBounds_toArray, List.set_cons_zero, List.set_cons_succ]
  go_wp2
  go_ret
  exact ⟨rfl, hb4⟩
theorem chlS_any (k : Nat) {b m z x y : Pt} (hb : on b) (hm : on m) (hz : on z) (hx : on x) (hy : on y) (w : World) (hk : k < 3) :
    Calls Tryz.prog 89 #[.int .i64 k, ptW b, ptW m, ptW z, ptW x, ptW y] w fun e w' => e = .returned (.int .u64 (chal k b m z x y : Nat)) ∧ Below w.heap.size w w' := by
  rw [ptW_eq, ptW_eq, ptW_eq, ptW_eq, ptW_eq]
  have hs : ∀ p, (sizB (ptB p)).size ≤ 100 := fun p => by rw [sizB_size, ptB_size]; omega
  have hl : ∀ p w, Calls Tryz.prog 73 #[.string (ptB p)] w fun e w' => e = .returned (.string (sizB (ptB p))) ∧ Below w.heap.size w w' := fun p w => sizS_any (ptB p) w (by rw [ptB_size]; omega)
  refine chlS_of k _ _ _ _ _ _ _ _ _ _ _ _ _ _ _ _ (ptB b) (ptB m) (ptB z) (ptB x) (ptB y) (sizB (ptB b)) (sizB (ptB m)) (sizB (ptB z)) (sizB (ptB x)) (sizB (ptB y)) w (hs b) (hs m) (hs z) (hs x) (hs y)
    (puS_pt hb) (puS_pt hm) (puS_pt hz) (puS_pt hx) (puS_pt hy) (hl b) (hl m) (hl z) (hl x) (hl y) (fun w => scaS_any (chalT b m z x y) k w hk ?_)
  unfold chalT
  simp only [ByteArray.size_append, sizB_size, ptB_size]
  rw [show challB.size = 9 from rfl]; omega
end Go.Proofs.YtjmhmajfkdglnaaGreatDoor
