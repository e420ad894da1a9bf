import Derived.Test.YtjmhmajfkdglnaaGreatDoorMrg30
import Derived.Test.YtjmhmajfkdglnaaGreatDoorMrg37
import Derived.Test.YtjmhmajfkdglnaaGreatDoorMrg14
import Derived.Test.YtjmhmajfkdglnaaGreatDoorMrg26
import Derived.Test.YtjmhmajfkdglnaaGreatDoorMrg20
import Derived.Test.YtjmhmajfkdglnaaGreatDoorMrg36
set_option linter.unusedVariables false
set_option maxRecDepth 100000
set_option maxHeartbeats 16000000
namespace Go.Proofs.YtjmhmajfkdglnaaGreatDoor
open Go.RowKit M
def P2 (W : World) (t : TypeId) (b : Nat) (x y : Int) : Prop := W.heap[b]? = some (.cells #[.int .u64 x, .int .u64 y] t)
section
variable {W W' : World} {t : TypeId} {b : Nat} {x y : Int}
theorem P2.c0 (h : P2 W t b x y) : W.cell? ⟨b, 0, none⟩ = some (.int .u64 x) := by unfold P2 at h; simp [World.cell?, h]
theorem P2.c1 (h : P2 W t b x y) : W.cell? ⟨b, 1, none⟩ = some (.int .u64 y) := by unfold P2 at h; simp [World.cell?, h]
theorem P2.lt (h : P2 W t b x y) : b < W.heap.size := (Array.getElem?_eq_some_iff.1 h).1
theorem P2.keep (h : P2 W t b x y) (hb : Below W.heap.size W W') : P2 W' t b x y := (hb.block b h.lt).trans h
theorem P2.new (w : World) (t : TypeId) (x y : Int) : P2 (w.alloc (.cells #[.int .u64 x, .int .u64 y] t)) t w.heap.size x y := heap_alloc_new w _
theorem P2.at {b' : Nat} (h : P2 W t b x y) (e : b = b') : P2 W t b' x y := e ▸ h
end
section
variable (ax ay bx by' pc ps : Int) (ac bc : Bool) (gc oc nc cc gd od nd cd : Nat) (w : World)
theorem chkS_no (mode : Int) (ob : Bool) (h : ob = false ∨ 2305843010818082053 ≤ pc ∨ 2305843010818082053 ≤ ps)
    (B : ∀ w', Below w.heap.size w w' → Calls Tryz.prog 86 #[.int .i64 mode, .agg #[.int .u64 ax, .int .u64 ay, .bool ac], .agg #[.int .u64 bx, .int .u64 by', .bool bc], .slice (some ⟨gc, oc, none⟩) nc cc, .slice (some ⟨gd, od, none⟩) nd cd] w' fun e w'' => e = .returned (.bool ob) ∧ Below w'.heap.size w' w'') :
    Calls Tryz.prog 54 #[.int .i64 mode, .agg #[.int .u64 ax, .int .u64 ay, .bool ac], .agg #[.int .u64 bx, .int .u64 by', .bool bc], .slice (some ⟨gc, oc, none⟩) nc cc, .slice (some ⟨gd, od, none⟩) nd cd, .agg #[.int .u64 pc, .int .u64 ps]] w fun e w' => e = .returned (.bool false) ∧ Below w.heap.size w w' := by
  obtain ⟨X, hX⟩ : ∃ X, X = ((w.alloc (Obj.cells #[.int .u64 ax, .int .u64 ay, .bool ac] 28)).alloc (Obj.cells #[.int .u64 bx, .int .u64 by', .bool bc] 28)).alloc (Obj.cells #[.int .u64 pc, .int .u64 ps] 40) := ⟨_, rfl⟩
  have r2 : P2 X 40 (w.heap.size + 1 + 1) pc ps := by rw [hX]; exact (P2.new _ _ pc ps).at (by simp)
  have hb : Below w.heap.size w X := by rw [hX]; exact ((((Below.refl _ w).alloc (Nat.le_refl _) _).alloc (by simp) _).alloc (by simp; omega) _)
  rw [hX] at r2 hb
  clear hX
  go_enter Tryz.func54, Tryz.ntmps54
  go_wp2_with fail
  refine (B _ hb).mono ?_
  rintro e w1 ⟨rfl, b1⟩
  replace r2 := r2.keep b1
  replace hb := hb.trans (b1.mono hb.size)
  clear B b1
  have d0 := r2.c0
  have d1 := r2.c1
  cases ob with
  | false =>
    clear h
    go_wp2
    go_ret
    exact ⟨rfl, hb⟩
  | true =>
    by_cases hk : 2305843010818082053 ≤ pc
    · clear h
      go_wp2
      go_ret
      exact ⟨rfl, hb⟩
    · have hr : 2305843010818082053 ≤ ps := by
        rcases h with h | h | h
        · cases h
        · exact absurd h hk
        · exact h
      clear h
      go_wp2
      go_ret
      exact ⟨rfl, hb⟩
theorem chkS_of (md : Nat) (mx my zx zy sax say cbx cby xx xy smx smy czx czy yx yy c : Int) (mc zc sac cbc xc smc czc yc : Bool) (hk : pc < 2305843010818082053) (hr : ps < 2305843010818082053)
    (B : ∀ w', Below w.heap.size w w' → Calls Tryz.prog 86 #[.int .i64 md, .agg #[.int .u64 ax, .int .u64 ay, .bool ac], .agg #[.int .u64 bx, .int .u64 by', .bool bc], .slice (some ⟨gc, oc, none⟩) nc cc, .slice (some ⟨gd, od, none⟩) nd cd] w' fun e w'' => e = .returned (.bool true) ∧ Below w'.heap.size w' w'')
    (CO : ∀ w', Below w.heap.size w w' → Calls Tryz.prog 93 #[.int .i64 md, .agg #[.int .u64 bx, .int .u64 by', .bool bc], .slice (some ⟨gc, oc, none⟩) nc cc, .slice (some ⟨gd, od, none⟩) nd cd] w' fun e w'' => e = .returned (.tuple #[.agg #[.int .u64 mx, .int .u64 my, .bool mc], .agg #[.int .u64 zx, .int .u64 zy, .bool zc], .bool true]) ∧ Below w'.heap.size w' w'')
    (T1 : ∀ w, Calls Tryz.prog 37 #[.int .u64 ps, .agg #[.int .u64 ax, .int .u64 ay, .bool ac]] w fun e w' => e = .returned (.agg #[.int .u64 sax, .int .u64 say, .bool sac]) ∧ Below w.heap.size w w')
    (T2 : ∀ w, Calls Tryz.prog 37 #[.int .u64 pc, .agg #[.int .u64 bx, .int .u64 by', .bool bc]] w fun e w' => e = .returned (.agg #[.int .u64 cbx, .int .u64 cby, .bool cbc]) ∧ Below w.heap.size w w')
    (S1 : ∀ w, Calls Tryz.prog 42 #[.agg #[.int .u64 sax, .int .u64 say, .bool sac], .agg #[.int .u64 cbx, .int .u64 cby, .bool cbc]] w fun e w' => e = .returned (.agg #[.int .u64 xx, .int .u64 xy, .bool xc]) ∧ Below w.heap.size w w')
    (T3 : ∀ w, Calls Tryz.prog 37 #[.int .u64 ps, .agg #[.int .u64 mx, .int .u64 my, .bool mc]] w fun e w' => e = .returned (.agg #[.int .u64 smx, .int .u64 smy, .bool smc]) ∧ Below w.heap.size w w')
    (T4 : ∀ w, Calls Tryz.prog 37 #[.int .u64 pc, .agg #[.int .u64 zx, .int .u64 zy, .bool zc]] w fun e w' => e = .returned (.agg #[.int .u64 czx, .int .u64 czy, .bool czc]) ∧ Below w.heap.size w w')
    (S2 : ∀ w, Calls Tryz.prog 42 #[.agg #[.int .u64 smx, .int .u64 smy, .bool smc], .agg #[.int .u64 czx, .int .u64 czy, .bool czc]] w fun e w' => e = .returned (.agg #[.int .u64 yx, .int .u64 yy, .bool yc]) ∧ Below w.heap.size w w')
    (C : ∀ w, Calls Tryz.prog 89 #[.int .i64 md, .agg #[.int .u64 bx, .int .u64 by', .bool bc], .agg #[.int .u64 mx, .int .u64 my, .bool mc], .agg #[.int .u64 zx, .int .u64 zy, .bool zc], .agg #[.int .u64 xx, .int .u64 xy, .bool xc], .agg #[.int .u64 yx, .int .u64 yy, .bool yc]] w fun e w' => e = .returned (.int .u64 c) ∧ Below w.heap.size w w') :
    Calls Tryz.prog 54 #[.int .i64 md, .agg #[.int .u64 ax, .int .u64 ay, .bool ac], .agg #[.int .u64 bx, .int .u64 by', .bool bc], .slice (some ⟨gc, oc, none⟩) nc cc, .slice (some ⟨gd, od, none⟩) nd cd, .agg #[.int .u64 pc, .int .u64 ps]] w fun e w' => e = .returned (.bool (pc == c)) ∧ Below w.heap.size w w' := by
  obtain ⟨X, hX⟩ : ∃ X, X = ((w.alloc (Obj.cells #[.int .u64 ax, .int .u64 ay, .bool ac] 28)).alloc (Obj.cells #[.int .u64 bx, .int .u64 by', .bool bc] 28)).alloc (Obj.cells #[.int .u64 pc, .int .u64 ps] 40) := ⟨_, rfl⟩
  have ra : R3 X w.heap.size ax ay ac := by rw [hX]; exact ((R3.new _ ax ay ac).alloc _).alloc _
  have rb : R3 X (w.heap.size + 1) bx by' bc := by rw [hX]; exact ((R3.new _ bx by' bc).at (by simp)).alloc _
  have rp : P2 X 40 (w.heap.size + 1 + 1) pc ps := by rw [hX]; exact (P2.new _ _ pc ps).at (by simp)
  have hb : Below w.heap.size w X := by rw [hX]; exact ((((Below.refl _ w).alloc (Nat.le_refl _) _).alloc (by simp) _).alloc (by simp; omega) _)
  rw [hX] at ra rb rp hb
  clear hX
  go_enter Tryz.func54, Tryz.ntmps54
  go_wp2_with fail
  refine (B _ hb).mono ?_
  rintro e w1 ⟨rfl, b1⟩
  replace ra := ra.keep' b1
  replace rb := rb.keep' b1
  replace rp := rp.keep b1
  replace hb := hb.trans (b1.mono hb.size)
  clear B b1
  have a0 := rb.c0
  have a1 := rb.c1
  have a2 := rb.c2
  have d0 := rp.c0
  have d1 := rp.c1
  go_wp2_with fail
  refine (CO _ hb).mono ?_
  rintro e w2 ⟨rfl, b2⟩
  replace ra := ra.keep' b2
  replace rb := rb.keep' b2
  replace rp := rp.keep b2
  replace hb := hb.trans (b2.mono hb.size)
  clear CO b2 a0 a1 a2 d0 d1
  obtain ⟨W3, hW3⟩ : ∃ W3, W3 = (w2.alloc (Obj.cells #[.int .u64 mx, .int .u64 my, .bool mc] 28)).alloc (Obj.cells #[.int .u64 zx, .int .u64 zy, .bool zc] 28) := ⟨_, rfl⟩
  have hB3 : Below w2.heap.size w2 W3 := by rw [hW3]; exact ((Below.refl _ w2).alloc (Nat.le_refl _) _).alloc (by simp) _
  replace ra := ra.keep' hB3
  replace rb := rb.keep' hB3
  replace rp := rp.keep hB3
  replace hb := hb.trans (hB3.mono hb.size)
  have rm : R3 W3 w2.heap.size mx my mc := by rw [hW3]; exact (R3.new _ mx my mc).alloc _
  have rz : R3 W3 (w2.heap.size + 1) zx zy zc := by rw [hW3]; exact (R3.new _ zx zy zc).at (by simp)
  clear hB3
  go_wp2
  rw [← hW3]
  clear hW3
  generalize w2.heap.size = H2 at *
  have a0 : W3.drew.cell? ⟨w.heap.size, 0, none⟩ = _ := ra.c0
  have a1 : W3.drew.cell? ⟨w.heap.size, 1, none⟩ = _ := ra.c1
  have a2 : W3.drew.cell? ⟨w.heap.size, 2, none⟩ = _ := ra.c2
  have b0 : W3.drew.cell? ⟨w.heap.size + 1, 0, none⟩ = _ := rb.c0
  have b1 : W3.drew.cell? ⟨w.heap.size + 1, 1, none⟩ = _ := rb.c1
  have b2 : W3.drew.cell? ⟨w.heap.size + 1, 2, none⟩ = _ := rb.c2
  have d0 : W3.drew.cell? ⟨w.heap.size + 1 + 1, 0, none⟩ = _ := rp.c0
  have d1 : W3.drew.cell? ⟨w.heap.size + 1 + 1, 1, none⟩ = _ := rp.c1
  refine pool_list [.val (.pointer (some ⟨w.heap.size + 1 + 1, 1, none⟩)),
      .val (.int .u64 ps),
      .val (.agg #[.int .u64 ax, .int .u64 ay, .bool ac]),
      .val (.agg #[.int .u64 sax, .int .u64 say, .bool sac]),
      .val (.pointer (some ⟨w.heap.size + 1 + 1, 0, none⟩)),
      .val (.int .u64 pc),
      .val (.agg #[.int .u64 bx, .int .u64 by', .bool bc]),
      .val (.agg #[.int .u64 cbx, .int .u64 cby, .bool cbc]),
      .val (.agg #[.int .u64 xx, .int .u64 xy, .bool xc]),
      .new (.cells #[.int .u64 0, .int .u64 0, .bool false] 28) (.cells #[.int .u64 xx, .int .u64 xy, .bool xc] 28) 10,
      .put 9] [[11], [44], [7], [45, 46], [11], [48], [8], [49, 50], [47, 51], [], [16, 52]] (fun f => [(some 44, .pointer (some ⟨w.heap.size + 1 + 1, 1, none⟩)), (some 45, .int .u64 ps), (some 46, .agg #[.int .u64 ax, .int .u64 ay, .bool ac]), (some 47, .agg #[.int .u64 sax, .int .u64 say, .bool sac]), (some 48, .pointer (some ⟨w.heap.size + 1 + 1, 0, none⟩)), (some 49, .int .u64 pc), (some 50, .agg #[.int .u64 bx, .int .u64 by', .bool bc]), (some 51, .agg #[.int .u64 cbx, .int .u64 cby, .bool cbc]), (some 52, .agg #[.int .u64 xx, .int .u64 xy, .bool xc]), (some 16, .pointer (some ⟨f 9, 0, none⟩)), (none, undef)]) (by kernel_rfl) (by kernel_rfl) (by kernel_rfl) (by kernel_rfl) (fun _ => by kernel_rfl) ?_ ?_
  · intro ix hix
    match ix, hix with
    | 0, _ => exact ob_val [(11, .pointer (some ⟨w.heap.size + 1 + 1, 0, none⟩))] rfl rfl (fun _ => by kernel_rfl) (fun A w ⟨e0, _⟩ hB => fa_prf1 e0)
    | 1, _ => exact ob_val [(44, .pointer (some ⟨w.heap.size + 1 + 1, 1, none⟩))] rfl rfl (fun _ => by kernel_rfl) (fun A w ⟨e0, _⟩ hB => ld_u64 e0 (keepC d1 hB))
    | 2, _ => exact ob_val [(7, .pointer (some ⟨w.heap.size, 0, none⟩))] rfl rfl (fun _ => by kernel_rfl) (fun A w ⟨e0, _⟩ hB => ld_pt e0 (keepC a0 hB) (keepC a1 hB) (keepC a2 hB))
    | 3, _ => exact ob_val [(45, .int .u64 ps), (46, .agg #[.int .u64 ax, .int .u64 ay, .bool ac])] rfl rfl (fun _ => by kernel_rfl) (fun A w ⟨e0, e1, _⟩ hB => cl2 cf_spec_Times e0 e1 (T1 w))
    | 4, _ => exact ob_val [(11, .pointer (some ⟨w.heap.size + 1 + 1, 0, none⟩))] rfl rfl (fun _ => by kernel_rfl) (fun A w ⟨e0, _⟩ hB => fa_prf0 e0)
    | 5, _ => exact ob_val [(48, .pointer (some ⟨w.heap.size + 1 + 1, 0, none⟩))] rfl rfl (fun _ => by kernel_rfl) (fun A w ⟨e0, _⟩ hB => ld_u64 e0 (keepC d0 hB))
    | 6, _ => exact ob_val [(8, .pointer (some ⟨w.heap.size + 1, 0, none⟩))] rfl rfl (fun _ => by kernel_rfl) (fun A w ⟨e0, _⟩ hB => ld_pt e0 (keepC b0 hB) (keepC b1 hB) (keepC b2 hB))
    | 7, _ => exact ob_val [(49, .int .u64 pc), (50, .agg #[.int .u64 bx, .int .u64 by', .bool bc])] rfl rfl (fun _ => by kernel_rfl) (fun A w ⟨e0, e1, _⟩ hB => cl2 cf_spec_Times e0 e1 (T2 w))
    | 8, _ => exact ob_val [(47, .agg #[.int .u64 sax, .int .u64 say, .bool sac]), (51, .agg #[.int .u64 cbx, .int .u64 cby, .bool cbc])] rfl rfl (fun _ => by kernel_rfl) (fun A w ⟨e0, e1, _⟩ hB => cl2 cf_spec_l3Sum e0 e1 (S1 w))
    | 9, _ => exact ob_new rfl rfl (fun A w => al_pt)
    | 10, _ => exact ob_put 16 (fun f => [(16, .pointer (some ⟨f 9, 0, none⟩)), (52, .agg #[.int .u64 xx, .int .u64 xy, .bool xc])]) rfl rfl rfl (by decide) (by kernel_rfl) rfl (fun _ => by kernel_rfl) (fun f A w ⟨e0, e1, _⟩ hr => pu_pt e0 e1 hr)
    | ix + 11, h => exact absurd h (by simp)
  intro f W4 hb4 hnew _
  have hb4' : Below W3.heap.size W3 W4 := (Below.refl _ W3).drew.trans hb4
  have rx : R3 W4 (f 9) xx xy xc := (hnew 9 _ _ _ rfl (by decide)).2
  replace ra := ra.keep' hb4'
  replace rb := rb.keep' hb4'
  replace rp := rp.keep hb4'
  replace rm := rm.keep' hb4'
  replace rz := rz.keep' hb4'
  replace hb := hb.trans (hb4'.mono hb.size)
  generalize f 9 = X9 at *
  clear a0 a1 a2 b0 b1 b2 d0 d1 T1 T2 S1 hb4 hb4' hnew
  simp only [puts, List.foldl, Act.put, List.setIfInBounds_toArray, List.set_cons_zero, List.set_cons_succ]
  go_wp2
  have c0 : W4.drew.cell? ⟨H2, 0, none⟩ = _ := rm.c0
  have c1 : W4.drew.cell? ⟨H2, 1, none⟩ = _ := rm.c1
  have c2 : W4.drew.cell? ⟨H2, 2, none⟩ = _ := rm.c2
  have b0 : W4.drew.cell? ⟨H2 + 1, 0, none⟩ = _ := rz.c0
  have b1 : W4.drew.cell? ⟨H2 + 1, 1, none⟩ = _ := rz.c1
  have b2 : W4.drew.cell? ⟨H2 + 1, 2, none⟩ = _ := rz.c2
  have d0 : W4.drew.cell? ⟨w.heap.size + 1 + 1, 0, none⟩ = _ := rp.c0
  have d1 : W4.drew.cell? ⟨w.heap.size + 1 + 1, 1, none⟩ = _ := rp.c1
  refine pool_list [.val (.pointer (some ⟨w.heap.size + 1 + 1, 1, none⟩)),
      .val (.int .u64 ps),
      .val (.agg #[.int .u64 mx, .int .u64 my, .bool mc]),
      .val (.agg #[.int .u64 smx, .int .u64 smy, .bool smc]),
      .val (.pointer (some ⟨w.heap.size + 1 + 1, 0, none⟩)),
      .val (.int .u64 pc),
      .val (.agg #[.int .u64 zx, .int .u64 zy, .bool zc]),
      .val (.agg #[.int .u64 czx, .int .u64 czy, .bool czc]),
      .val (.agg #[.int .u64 yx, .int .u64 yy, .bool yc]),
      .new (.cells #[.int .u64 0, .int .u64 0, .bool false] 28) (.cells #[.int .u64 yx, .int .u64 yy, .bool yc] 28) 10,
      .put 9] [[11], [53], [13], [54, 55], [11], [57], [14], [58, 59], [56, 60], [], [17, 61]] (fun f => [(some 53, .pointer (some ⟨w.heap.size + 1 + 1, 1, none⟩)), (some 54, .int .u64 ps), (some 55, .agg #[.int .u64 mx, .int .u64 my, .bool mc]), (some 56, .agg #[.int .u64 smx, .int .u64 smy, .bool smc]), (some 57, .pointer (some ⟨w.heap.size + 1 + 1, 0, none⟩)), (some 58, .int .u64 pc), (some 59, .agg #[.int .u64 zx, .int .u64 zy, .bool zc]), (some 60, .agg #[.int .u64 czx, .int .u64 czy, .bool czc]), (some 61, .agg #[.int .u64 yx, .int .u64 yy, .bool yc]), (some 17, .pointer (some ⟨f 9, 0, none⟩)), (none, undef)]) (by kernel_rfl) (by kernel_rfl) (by kernel_rfl) (by kernel_rfl) (fun _ => by kernel_rfl) ?_ ?_
  · intro ix hix
    match ix, hix with
    | 0, _ => exact ob_val [(11, .pointer (some ⟨w.heap.size + 1 + 1, 0, none⟩))] rfl rfl (fun _ => by kernel_rfl) (fun A w ⟨e0, _⟩ hB => fa_prf1 e0)
    | 1, _ => exact ob_val [(53, .pointer (some ⟨w.heap.size + 1 + 1, 1, none⟩))] rfl rfl (fun _ => by kernel_rfl) (fun A w ⟨e0, _⟩ hB => ld_u64 e0 (keepC d1 hB))
    | 2, _ => exact ob_val [(13, .pointer (some ⟨H2, 0, none⟩))] rfl rfl (fun _ => by kernel_rfl) (fun A w ⟨e0, _⟩ hB => ld_pt e0 (keepC c0 hB) (keepC c1 hB) (keepC c2 hB))
    | 3, _ => exact ob_val [(54, .int .u64 ps), (55, .agg #[.int .u64 mx, .int .u64 my, .bool mc])] rfl rfl (fun _ => by kernel_rfl) (fun A w ⟨e0, e1, _⟩ hB => cl2 cf_spec_Times e0 e1 (T3 w))
    | 4, _ => exact ob_val [(11, .pointer (some ⟨w.heap.size + 1 + 1, 0, none⟩))] rfl rfl (fun _ => by kernel_rfl) (fun A w ⟨e0, _⟩ hB => fa_prf0 e0)
    | 5, _ => exact ob_val [(57, .pointer (some ⟨w.heap.size + 1 + 1, 0, none⟩))] rfl rfl (fun _ => by kernel_rfl) (fun A w ⟨e0, _⟩ hB => ld_u64 e0 (keepC d0 hB))
    | 6, _ => exact ob_val [(14, .pointer (some ⟨H2 + 1, 0, none⟩))] rfl rfl (fun _ => by kernel_rfl) (fun A w ⟨e0, _⟩ hB => ld_pt e0 (keepC b0 hB) (keepC b1 hB) (keepC b2 hB))
    | 7, _ => exact ob_val [(58, .int .u64 pc), (59, .agg #[.int .u64 zx, .int .u64 zy, .bool zc])] rfl rfl (fun _ => by kernel_rfl) (fun A w ⟨e0, e1, _⟩ hB => cl2 cf_spec_Times e0 e1 (T4 w))
    | 8, _ => exact ob_val [(56, .agg #[.int .u64 smx, .int .u64 smy, .bool smc]), (60, .agg #[.int .u64 czx, .int .u64 czy, .bool czc])] rfl rfl (fun _ => by kernel_rfl) (fun A w ⟨e0, e1, _⟩ hB => cl2 cf_spec_l3Sum e0 e1 (S2 w))
    | 9, _ => exact ob_new rfl rfl (fun A w => al_pt)
    | 10, _ => exact ob_put 17 (fun f => [(17, .pointer (some ⟨f 9, 0, none⟩)), (61, .agg #[.int .u64 yx, .int .u64 yy, .bool yc])]) rfl rfl rfl (by decide) (by kernel_rfl) rfl (fun _ => by kernel_rfl) (fun f A w ⟨e0, e1, _⟩ hr => pu_pt e0 e1 hr)
    | ix + 11, h => exact absurd h (by simp)
  intro f W5 hb5 hnew _
  have hb5' : Below W4.heap.size W4 W5 := (Below.refl _ W4).drew.trans hb5
  have ry : R3 W5 (f 9) yx yy yc := (hnew 9 _ _ _ rfl (by decide)).2
  replace ra := ra.keep' hb5'
  replace rb := rb.keep' hb5'
  replace rp := rp.keep hb5'
  replace rm := rm.keep' hb5'
  replace rz := rz.keep' hb5'
  replace rx := rx.keep' hb5'
  replace hb := hb.trans (hb5'.mono hb.size)
  generalize f 9 = Y9 at *
  clear c0 c1 c2 b0 b1 b2 d0 d1 T3 T4 S2 hb5 hb5' hnew
  simp only [puts, List.foldl, Act.put, List.setIfInBounds_toArray, List.set_cons_zero, List.set_cons_succ]
  go_wp2
  have b0 : W5.drew.cell? ⟨w.heap.size + 1, 0, none⟩ = _ := rb.c0
  have b1 : W5.drew.cell? ⟨w.heap.size + 1, 1, none⟩ = _ := rb.c1
  have b2 : W5.drew.cell? ⟨w.heap.size + 1, 2, none⟩ = _ := rb.c2
  have c0 : W5.drew.cell? ⟨H2, 0, none⟩ = _ := rm.c0
  have c1 : W5.drew.cell? ⟨H2, 1, none⟩ = _ := rm.c1
  have c2 : W5.drew.cell? ⟨H2, 2, none⟩ = _ := rm.c2
  have z0 : W5.drew.cell? ⟨H2 + 1, 0, none⟩ = _ := rz.c0
  have z1 : W5.drew.cell? ⟨H2 + 1, 1, none⟩ = _ := rz.c1
  have z2 : W5.drew.cell? ⟨H2 + 1, 2, none⟩ = _ := rz.c2
  have x0 : W5.drew.cell? ⟨X9, 0, none⟩ = _ := rx.c0
  have x1 : W5.drew.cell? ⟨X9, 1, none⟩ = _ := rx.c1
  have x2 : W5.drew.cell? ⟨X9, 2, none⟩ = _ := rx.c2
  have y0 : W5.drew.cell? ⟨Y9, 0, none⟩ = _ := ry.c0
  have y1 : W5.drew.cell? ⟨Y9, 1, none⟩ = _ := ry.c1
  have y2 : W5.drew.cell? ⟨Y9, 2, none⟩ = _ := ry.c2
  have d0 : W5.drew.cell? ⟨w.heap.size + 1 + 1, 0, none⟩ = _ := rp.c0
  refine pool_list [.val (.pointer (some ⟨w.heap.size + 1 + 1, 0, none⟩)),
      .val (.int .u64 pc),
      .val (.int .i64 (md : Int)),
      .val (.agg #[.int .u64 bx, .int .u64 by', .bool bc]),
      .val (.agg #[.int .u64 mx, .int .u64 my, .bool mc]),
      .val (.agg #[.int .u64 zx, .int .u64 zy, .bool zc]),
      .val (.agg #[.int .u64 xx, .int .u64 xy, .bool xc]),
      .val (.agg #[.int .u64 yx, .int .u64 yy, .bool yc]),
      .val (.int .u64 c),
      .val (.bool (pc == c)),
      .val (.bool (pc == c))] [[11], [62], [0], [8], [13], [14], [16], [17], [64, 65, 66, 67, 68, 69], [63, 70], [71]] (fun f => [(some 62, .pointer (some ⟨w.heap.size + 1 + 1, 0, none⟩)), (some 63, .int .u64 pc), (some 64, .int .i64 (md : Int)), (some 65, .agg #[.int .u64 bx, .int .u64 by', .bool bc]), (some 66, .agg #[.int .u64 mx, .int .u64 my, .bool mc]), (some 67, .agg #[.int .u64 zx, .int .u64 zy, .bool zc]), (some 68, .agg #[.int .u64 xx, .int .u64 xy, .bool xc]), (some 69, .agg #[.int .u64 yx, .int .u64 yy, .bool yc]), (some 70, .int .u64 c), (some 71, .bool (pc == c)), (some 12, .bool (pc == c))]) (by kernel_rfl) (by kernel_rfl) (by kernel_rfl) (by kernel_rfl) (fun _ => by kernel_rfl) ?_ ?_
  · intro ix hix
    match ix, hix with
    | 0, _ => exact ob_val [(11, .pointer (some ⟨w.heap.size + 1 + 1, 0, none⟩))] rfl rfl (fun _ => by kernel_rfl) (fun A w ⟨e0, _⟩ hB => fa_prf0 e0)
    | 1, _ => exact ob_val [(62, .pointer (some ⟨w.heap.size + 1 + 1, 0, none⟩))] rfl rfl (fun _ => by kernel_rfl) (fun A w ⟨e0, _⟩ hB => ld_u64 e0 (keepC d0 hB))
    | 2, _ => exact ob_val [(0, .int .i64 (md : Int))] rfl rfl (fun _ => by kernel_rfl) (fun A w ⟨e0, _⟩ hB => doV_move e0)
    | 3, _ => exact ob_val [(8, .pointer (some ⟨w.heap.size + 1, 0, none⟩))] rfl rfl (fun _ => by kernel_rfl) (fun A w ⟨e0, _⟩ hB => ld_pt e0 (keepC b0 hB) (keepC b1 hB) (keepC b2 hB))
    | 4, _ => exact ob_val [(13, .pointer (some ⟨H2, 0, none⟩))] rfl rfl (fun _ => by kernel_rfl) (fun A w ⟨e0, _⟩ hB => ld_pt e0 (keepC c0 hB) (keepC c1 hB) (keepC c2 hB))
    | 5, _ => exact ob_val [(14, .pointer (some ⟨H2 + 1, 0, none⟩))] rfl rfl (fun _ => by kernel_rfl) (fun A w ⟨e0, _⟩ hB => ld_pt e0 (keepC z0 hB) (keepC z1 hB) (keepC z2 hB))
    | 6, _ => exact ob_val [(16, .pointer (some ⟨X9, 0, none⟩))] rfl rfl (fun _ => by kernel_rfl) (fun A w ⟨e0, _⟩ hB => ld_pt e0 (keepC x0 hB) (keepC x1 hB) (keepC x2 hB))
    | 7, _ => exact ob_val [(17, .pointer (some ⟨Y9, 0, none⟩))] rfl rfl (fun _ => by kernel_rfl) (fun A w ⟨e0, _⟩ hB => ld_pt e0 (keepC y0 hB) (keepC y1 hB) (keepC y2 hB))
    | 8, _ => exact ob_val [(64, .int .i64 (md : Int)), (65, .agg #[.int .u64 bx, .int .u64 by', .bool bc]), (66, .agg #[.int .u64 mx, .int .u64 my, .bool mc]), (67, .agg #[.int .u64 zx, .int .u64 zy, .bool zc]), (68, .agg #[.int .u64 xx, .int .u64 xy, .bool xc]), (69, .agg #[.int .u64 yx, .int .u64 yy, .bool yc])] rfl rfl (fun _ => by kernel_rfl) (fun A w ⟨e0, e1, e2, e3, e4, e5, _⟩ hB => cl6 cf_spec_l5Challenge e0 e1 e2 e3 e4 e5 (C w))
    | 9, _ => exact ob_val [(63, .int .u64 pc), (70, .int .u64 c)] rfl rfl (fun _ => by kernel_rfl) (fun A w ⟨e0, e1, _⟩ hB => eq_u64 e0 e1)
    | 10, _ => exact ob_val [(71, .bool (pc == c))] rfl rfl (fun _ => by kernel_rfl) (fun A w ⟨e0, _⟩ hB => doV_assign e0)
    | ix + 11, h => exact absurd h (by simp)
  intro f W6 hb6 _ _
  have hb6' := hb.drew.trans (hb6.mono hb.size)
  simp only [puts, List.foldl, Act.put, List.setIfInBounds_toArray, List.set_cons_zero, List.set_cons_succ]
  go_wp2
  go_ret
  exact ⟨rfl, hb6'⟩
end
noncomputable def chkC (md c s : Nat) (a b : Tri) (cs ds : List Tri) : Nat := chal md (asT b) (comM md b cs ds cs) (comM md b cs ds ds) (ad (nt s (asT a)) (nt c (asT b))) (ad (nt s (comM md b cs ds cs)) (nt c (comM md b cs ds ds)))
noncomputable def chkB (mode : Int) (a b : Tri) (cs ds : List Tri) (c s : Nat) : Bool := batB mode a b cs ds && decide (c < 2305843010818082053) && decide (s < 2305843010818082053) && decide (c = chkC mode.toNat c s a b cs ds)
theorem batB_b {mode : Int} {a b : Tri} {cs ds : List Tri} (h : batB mode a b cs ds = true) : batB mode b b cs ds = true := by
  rw [batB_iff] at h ⊢
  obtain ⟨h1, -, h3, h4⟩ := h
  exact ⟨h1, h3, h3, h4⟩
theorem chkS_any (mode : Int) (a b : Tri) (cs ds : List Tri) (c s gc oc cc gd od cd : Nat) (w : World) (hc : Pts w gc oc cs) (hd : Pts w gd od ds) :
    Calls Tryz.prog 54 #[.int .i64 mode, triW a, triW b, .slice (some ⟨gc, oc, none⟩) cs.length cc, .slice (some ⟨gd, od, none⟩) ds.length cd, .agg #[.int .u64 c, .int .u64 s]] w fun e w' => e = .returned (.bool (chkB mode a b cs ds c s)) ∧ Below w.heap.size w w' := by
  by_cases h : batB mode a b cs ds = true ∧ c < 2305843010818082053 ∧ s < 2305843010818082053
  · obtain ⟨hB, hlc, hls⟩ := h
    have hbb := batB_b hB
    have h' := hB
    rw [batB_iff] at h'
    obtain ⟨h1, h2, h3, h4, h5, -, -⟩ := h'
    obtain ⟨md, rfl⟩ : ∃ k : Nat, mode = (k : Int) := ⟨mode.toNat, by omega⟩
    have e : chkB md a b cs ds c s = ((c : Int) == ((chkC md c s a b cs ds : Nat) : Int)) := by
      unfold chkB
      rw [hB, decide_eq_true hlc, decide_eq_true hls, Int.toNat_natCast]
      rw [Bool.eq_iff_iff]
      simp
      omega
    rw [e]
    have hBt : ∀ w', Below w.heap.size w w' → Calls Tryz.prog 86 #[.int .i64 md, triW a, triW b, .slice (some ⟨gc, oc, none⟩) cs.length cc, .slice (some ⟨gd, od, none⟩) ds.length cd] w' fun e w'' => e = .returned (.bool true) ∧ Below w'.heap.size w' w'' := fun w' hb => by
      have := batS_any md a b cs ds gc oc cc gd od cd w' (hc.below hb hc.lt) (hd.below hb hd.lt)
      rw [hB] at this
      exact this
    have hCo : ∀ w', Below w.heap.size w w' → Calls Tryz.prog 93 #[.int .i64 md, triW b, .slice (some ⟨gc, oc, none⟩) cs.length cc, .slice (some ⟨gd, od, none⟩) ds.length cd] w' fun e w'' => e = .returned (.tuple #[ptW (comM md b cs ds cs), ptW (comM md b cs ds ds), .bool true]) ∧ Below w'.heap.size w' w'' := fun w' hb =>
      comS_yes md b cs ds gc oc cc gd od cd w' (hc.below hb hc.lt) (hd.below hb hd.lt) hbb
    have hom := comM_on md b cs ds cs
    have hoz := comM_on md b cs ds ds
    have hoa := asT_on a
    have hob := asT_on b
    have hC := fun w => chlS_any md hob hom hoz (ad_on (nt_on hoa s) (nt_on hob c)) (ad_on (nt_on hom s) (nt_on hoz c)) w (by omega)
    rw [triW_of h2, triW_of h3, ptW_eq, ptW_eq] at hBt
    rw [triW_of h3, ptW_eq, ptW_eq, ptW_eq] at hCo
    rw [ptW_eq, ptW_eq, ptW_eq, ptW_eq, ptW_eq] at hC
    rw [triW_of h2, triW_of h3, ptW_eq, ptW_eq]
    exact chkS_of _ _ _ _ c s _ _ gc oc cs.length cc gd od ds.length cd w md _ _ _ _ _ _ _ _ _ _ _ _ _ _ _ _ _ _ _ _ _ _ _ _ _ (by omega) (by omega) hBt hCo
      (tiS_pt hoa s (by omega)) (tiS_pt hob c (by omega)) (sumS_xyz _ _) (tiS_pt hom s (by omega)) (tiS_pt hoz c (by omega)) (sumS_xyz _ _) hC
  · have e : chkB mode a b cs ds c s = false := by
      cases hh : chkB mode a b cs ds c s with
      | false => rfl
      | true =>
        unfold chkB at hh
        simp only [Bool.and_eq_true, decide_eq_true_eq] at hh
        exact absurd ⟨hh.1.1.1, hh.1.1.2, hh.1.2⟩ h
    rw [e]
    refine chkS_no _ _ _ _ c s _ _ gc oc cs.length cc gd od ds.length cd w mode (batB mode a b cs ds) ?_ (fun w' hb => batS_any mode a b cs ds gc oc cc gd od cd w' (hc.below hb hc.lt) (hd.below hb hd.lt))
    cases hh : batB mode a b cs ds with
    | false => exact .inl rfl
    | true =>
      right
      by_cases hk : c < 2305843010818082053
      · right
        have : ¬ s < 2305843010818082053 := fun h' => h ⟨hh, hk, h'⟩
        omega
      · left; omega
def gT : Tri := (1, 509478702933351334, false)
theorem toT_g : toPt gT.1 gT.2.1 gT.2.2 = some gG := toPt_self (X := (1 : Fp)) (Y := (509478702933351334 : Fp)) gG_on
theorem asT_g : asT gT = gG := by
  unfold asT asPt
  rw [toT_g]
  rfl
theorem onT_g : onT gT = true := by
  unfold onT
  rw [toT_g]
  rfl
noncomputable def evB (es : List Tri) (pc ps : Nat) : Bool := match es with
  | [t] => elT t && decide (pc < 2305843010818082053) && decide (ps < 2305843010818082053)
  | _ => false
noncomputable def twB (mode : Int) (t : Tri) : Bool := if mode = 2 then elT t else decide (t = (0, 0, true))
noncomputable def rdyB (mode : Int) (blind : Nat) (es : List Tri) (pc ps : Nat) (t1 t2 tp : Tri) : Bool := keyB blind && elT tp && evB es pc ps && elT t1 && twB mode t2
noncomputable def verB (mode : Int) (es : List Tri) (pc ps : Nat) (t1 t2 tp : Tri) : Bool := if mode = 1 then chkB 1 gT tp [t1] es pc ps else if mode = 2 then chkB 2 gT t2 es [t1] pc ps else true
noncomputable def finC (mode : Int) (input info : ByteArray) (blind : Nat) (es : List Tri) (pc ps : Nat) (t1 t2 tp : Tri) : Int :=
  if txtB mode input.size info.size = true ∧ rdyB mode blind es pc ps t1 t2 tp = true then (if verB mode es pc ps t1 t2 tp = true then 0 else 4) else 1
noncomputable def finO (mode : Int) (input info : ByteArray) (blind : Nat) (es : List Tri) (pc ps : Nat) (t1 t2 tp : Tri) : ByteArray :=
  if finC mode input info blind es pc ps t1 t2 tp = 0 then outB mode input info (nt (M.ivn 2305843010818082053 blind) (asT (es.headD gT))) else ⟨#[]⟩
theorem evB_one {es : List Tri} {pc ps : Nat} (h : evB es pc ps = true) : ∃ t, es = [t] ∧ elT t = true ∧ pc < 2305843010818082053 ∧ ps < 2305843010818082053 := by
  match es, h with
  | [t], h =>
    unfold evB at h
    simp only [Bool.and_eq_true, decide_eq_true_eq] at h
    exact ⟨t, rfl, h.1.1, h.1.2, h.2⟩
theorem evB_len {es : List Tri} {pc ps : Nat} (h : es.length ≠ 1) : evB es pc ps = false := by
  match es, h with
  | [], _ => rfl
  | [t], h => exact absurd rfl h
  | _ :: _ :: _, _ => rfl
theorem evB_single (t : Tri) (pc ps : Nat) : evB [t] pc ps = (elT t && decide (pc < 2305843010818082053) && decide (ps < 2305843010818082053)) := rfl
theorem rdyB_iff {mode : Int} {blind : Nat} {es : List Tri} {pc ps : Nat} {t1 t2 tp : Tri} : rdyB mode blind es pc ps t1 t2 tp = true ↔ keyB blind = true ∧ elT tp = true ∧ evB es pc ps = true ∧ elT t1 = true ∧ twB mode t2 = true := by
  unfold rdyB
  simp only [Bool.and_eq_true, and_assoc]
abbrev finA (mode : Int) (input info : ByteArray) (blind : Nat) (es : List Tri) (pc ps : Nat) (t1 t2 tp : Tri) (g cap : Nat) : Array Value := #[.int .i64 mode, .string input, .string info, .int .u64 blind, .agg #[.slice (some ⟨g, 0, none⟩) es.length cap, .int .u64 pc, .int .u64 ps], .agg #[.int .u64 (t1.1 : Int), .int .u64 (t1.2.1 : Int), .bool t1.2.2, .int .u64 (t2.1 : Int), .int .u64 (t2.2.1 : Int), .bool t2.2.2], .agg #[.int .u64 (tp.1 : Int), .int .u64 (tp.2.1 : Int), .bool tp.2.2]]
theorem pts_one {W : World} {g o : Nat} {t : Tri} (h : Pts W g o [t]) : W.cell? ⟨g, o, none⟩ = some (.int .u64 (t.1 : Int)) ∧ W.cell? ⟨g, o + 1, none⟩ = some (.int .u64 (t.2.1 : Int)) ∧ W.cell? ⟨g, o + 2, none⟩ = some (.bool t.2.2) := by
  have e0 := h.c0 0 t rfl
  have e1 := h.c1 0 t rfl
  have e2 := h.c2 0 t rfl
  simp only [Nat.zero_mul, Nat.add_zero] at e0 e1 e2
  exact ⟨e0, e1, e2⟩
theorem Pts.one {W : World} {T : TypeId} {g : Nat} {t : Tri} (h : Bk W T g #[.int .u64 (t.1 : Int), .int .u64 (t.2.1 : Int), .bool t.2.2]) : Pts W g 0 [t] := by
  have e : ∀ i q, ([t] : List Tri)[i]? = some q → i = 0 ∧ q = t := fun i q h => by
    cases i with
    | zero => simp at h; exact ⟨rfl, h.symm⟩
    | succ i => simp at h
  refine ⟨h.lt, fun i q hq => ?_, fun i q hq => ?_, fun i q hq => ?_⟩ <;> obtain ⟨rfl, rfl⟩ := e i q hq
  · exact h.cell (k := 0) rfl
  · exact h.cell (k := 1) rfl
  · exact h.cell (k := 2) rfl
theorem geB (n : Nat) : decide (n < 2305843010818082053) = !decide ((2305843010818082053 : Int) ≤ (n : Int)) := by
  by_cases h : n < 2305843010818082053
  · rw [decide_eq_true h, decide_eq_false (by omega)]; rfl
  · rw [decide_eq_false h, decide_eq_true (by omega)]; rfl
theorem zrB (t : Tri) : decide (t = (0, 0, true)) = decide ((t.1 : Int) = 0 ∧ (t.2.1 : Int) = 0 ∧ t.2.2 = true) := by
  obtain ⟨x, y, c⟩ := t
  congr 1
  apply propext
  simp only [Prod.mk.injEq]
  constructor
  · rintro ⟨h0, h1, h2⟩; exact ⟨by omega, by omega, h2⟩
  · rintro ⟨h0, h1, h2⟩; exact ⟨by omega, by omega, h2⟩
theorem rdyB_eq (mode : Int) (blind : Nat) (es : List Tri) (pc ps : Nat) (t1 t2 tp : Tri) : rdyB mode blind es pc ps t1 t2 tp = (keyB blind && elT tp && decide (es.length = 1) && elT (es.headD gT) && !decide ((2305843010818082053 : Int) ≤ pc) && !decide ((2305843010818082053 : Int) ≤ ps) && elT t1 && (if mode = 2 then elT t2 else decide ((t2.1 : Int) = 0 ∧ (t2.2.1 : Int) = 0 ∧ t2.2.2 = true))) := by
  unfold rdyB twB
  rw [zrB t2]
  by_cases hl : es.length = 1
  · obtain ⟨t, rfl⟩ := List.length_eq_one_iff.1 hl
    rw [evB_single, decide_eq_true hl, geB pc, geB ps, show ([t] : List Tri).headD gT = t from rfl, Bool.and_true]
    ac_rfl
  · rw [evB_len hl, decide_eq_false hl]
    simp
theorem rdyS_any (mode : Int) (blind : Nat) (es : List Tri) (pc ps : Nat) (t1 t2 tp : Tri) (g cap : Nat) (w : World) (hp : Pts w g 0 es) :
    Calls Tryz.prog 53 #[.int .i64 mode, .int .u64 blind, .agg #[.slice (some ⟨g, 0, none⟩) es.length cap, .int .u64 pc, .int .u64 ps], .agg #[.int .u64 (t1.1 : Int), .int .u64 (t1.2.1 : Int), .bool t1.2.2, .int .u64 (t2.1 : Int), .int .u64 (t2.2.1 : Int), .bool t2.2.2], .agg #[.int .u64 (tp.1 : Int), .int .u64 (tp.2.1 : Int), .bool tp.2.2]] w fun e w' => e = .returned (.bool (rdyB mode blind es pc ps t1 t2 tp)) ∧ Below w.heap.size w w' :=
  rdS_of mode blind pc ps _ _ _ _ _ _ _ _ _ _ _ _ (keyB blind) (elT tp) (elT (es.headD gT)) (elT t1) (elT t2) _ g es.length cap w (rdyB_eq mode blind es pc ps t1 t2 tp)
    (fun h => by
      obtain ⟨t, rfl⟩ := List.length_eq_one_iff.1 h
      exact pts_one hp)
    (fun w => keyS_any (blind : Int) blind rfl w) (elS_any tp) (elS_any (es.headD gT)) (elS_any t1) (elS_any t2)
theorem gT_W : triW gT = .agg #[.int .u64 (px gG), .int .u64 (py gG), .bool (pb gG)] := by rw [triW_of onT_g, asT_g, ptW_eq]
theorem finS_any (mode : Int) (input info : ByteArray) (blind : Nat) (es : List Tri) (pc ps : Nat) (t1 t2 tp : Tri) (g cap : Nat) (w : World) (hp : Pts w g 0 es) :
    Calls Tryz.prog 24 (finA mode input info blind es pc ps t1 t2 tp g cap) w fun e w' => e = .returned (.tuple #[.string (finO mode input info blind es pc ps t1 t2 tp), .int .i64 (finC mode input info blind es pc ps t1 t2 tp)]) ∧ Below w.heap.size w w' := by
  have T := txtS_any mode input info
  have RD := fun w' (hb : Below w.heap.size w w') => rdyS_any mode blind es pc ps t1 t2 tp g cap w' (hp.below hb hp.lt)
  have bad : ¬ (txtB mode input.size info.size = true ∧ rdyB mode blind es pc ps t1 t2 tp = true) → finC mode input info blind es pc ps t1 t2 tp = 1 ∧ finO mode input info blind es pc ps t1 t2 tp = ⟨#[]⟩ := fun h => by
    have e : finC mode input info blind es pc ps t1 t2 tp = 1 := if_neg h
    exact ⟨e, by unfold finO; rw [e, if_neg (by decide)]⟩
  cases h1 : txtB mode input.size info.size with
  | false =>
    rw [h1] at T
    obtain ⟨e1, e2⟩ := bad (by simp [h1])
    rw [e1, e2]
    exact fnS_a mode blind pc ps _ _ _ _ _ _ _ _ _ input info g es.length cap w T
  | true =>
    rw [h1] at T
    cases h2 : rdyB mode blind es pc ps t1 t2 tp with
    | false =>
      obtain ⟨e1, e2⟩ := bad (by simp [h2])
      rw [e1, e2]
      exact fnS_b mode blind pc ps _ _ _ _ _ _ _ _ _ input info g es.length cap w T (fun w' hb => by
        have := RD w' hb
        rwa [h2] at this)
    | true =>
      have hC : finC mode input info blind es pc ps t1 t2 tp = if verB mode es pc ps t1 t2 tp = true then 0 else 4 := if_pos ⟨h1, h2⟩
      have hO : finO mode input info blind es pc ps t1 t2 tp = if verB mode es pc ps t1 t2 tp = true then outB mode input info (nt (M.ivn 2305843010818082053 blind) (asT (es.headD gT))) else ⟨#[]⟩ := by
        unfold finO
        rw [hC]
        by_cases h : verB mode es pc ps t1 t2 tp = true
        · rw [if_pos h, if_pos rfl, if_pos h]
        · rw [if_neg h, if_neg (by decide), if_neg h]
      rw [h2] at RD
      obtain ⟨hkey, h3, hev, h4, h5⟩ := rdyB_iff.1 h2
      obtain ⟨te, rfl, hel, hpc, hps⟩ := evB_one hev
      obtain ⟨⟨hm1, hm2⟩, hin, hinf, -⟩ := txtB_iff.1 h1
      have hkl := (keyB_iff.1 hkey).2
      obtain ⟨iv, hiv⟩ : ∃ iv, M.ivn 2305843010818082053 blind = iv := ⟨_, rfl⟩
      have hivl : iv < 2305843010818082053 := by rw [← hiv]; exact ivn_lt' _ _ (by decide)
      have IV : ∀ w', Calls Tryz.prog 55 #[.int .u64 blind, .int .u64 2305843010818082053] w' fun e w'' => e = .returned (.int .u64 (iv : Int)) ∧ Below w'.heap.size w' w'' := fun w' => by
        have := invS_any blind 2305843010818082053 w' (by omega) (by decide) (by decide)
        simp only [Int.cast_ofNat_Int, hiv] at this
        exact this.mono fun e w'' ⟨h, h'⟩ => ⟨h, h' ▸ Below.refl _ _⟩
      have hte := triW_px (elT_on hel)
      have TM : ∀ w', Calls Tryz.prog 37 #[.int .u64 (iv : Int), .agg #[.int .u64 (te.1 : Int), .int .u64 (te.2.1 : Int), .bool te.2.2]] w' fun e w'' => e = .returned (.agg #[.int .u64 (px (nt iv (asT te))), .int .u64 (py (nt iv (asT te))), .bool (pb (nt iv (asT te)))]) ∧ Below w'.heap.size w' w'' := fun w' => by
        have := tiS_pt (asT_on te) iv (by omega) w'
        rwa [← hte.1, ← hte.2.1, ← hte.2.2] at this
      have OU := fun w' => outS_any mode input info (nt iv (asT te)) (nt_on (asT_on te) _) w' hin hinf
      obtain ⟨c0, c1, c2⟩ := pts_one hp
      rw [hiv, show ([te] : List Tri).headD gT = te from rfl] at hO
      rw [hO, hC]
      clear hO hC bad
      by_cases m1 : mode = 1
      · subst m1
        rw [show verB 1 [te] pc ps t1 t2 tp = chkB 1 gT tp [t1] [te] pc ps from if_pos rfl]
        have := fnS_1 blind pc ps _ _ _ _ _ _ iv _ _ _ _ _ _ (chkB 1 gT tp [t1] [te] pc ps) input info _ g cap (nt iv (asT te)) w T RD c0 c1 c2 IV TM OU (fun w' h hb r => by
          have := chkS_any 1 gT tp [t1] [te] pc ps h 0 1 g 0 cap w' (Pts.one r) (hp.below hb hp.lt)
          rw [gT_W] at this
          exact this)
        refine this.mono fun e w' ⟨h, h'⟩ => ⟨?_, h'⟩
        rw [h]
        cases chkB 1 gT tp [t1] [te] pc ps <;> rfl
      · by_cases m2 : mode = 2
        · subst m2
          rw [show verB 2 [te] pc ps t1 t2 tp = chkB 2 gT t2 [te] [t1] pc ps from (if_neg (by decide)).trans (if_pos rfl)]
          have := fnS_2 blind pc ps _ _ _ _ _ _ iv _ _ _ _ _ _ (chkB 2 gT t2 [te] [t1] pc ps) input info _ g cap (nt iv (asT te)) w T RD c0 c1 c2 IV TM OU (fun w' h hb r => by
            have := chkS_any 2 gT t2 [te] [t1] pc ps g 0 cap h 0 1 w' (hp.below hb hp.lt) (Pts.one r)
            rw [gT_W] at this
            exact this)
          refine this.mono fun e w' ⟨h, h'⟩ => ⟨?_, h'⟩
          rw [h]
          cases chkB 2 gT t2 [te] [t1] pc ps <;> rfl
        · rw [show verB mode [te] pc ps t1 t2 tp = true from (if_neg m1).trans (if_neg m2)]
          exact fnS_0 mode blind pc ps _ _ _ _ _ _ iv _ _ _ _ _ _ input info _ g cap (nt iv (asT te)) w (by simpa using m1) (by simpa using m2) T RD c0 c1 c2 IV TM OU
end Go.Proofs.YtjmhmajfkdglnaaGreatDoor
