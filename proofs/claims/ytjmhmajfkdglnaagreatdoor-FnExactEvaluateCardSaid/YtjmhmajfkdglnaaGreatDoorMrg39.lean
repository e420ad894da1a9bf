import Derived.Test.YtjmhmajfkdglnaaGreatDoorMrg38
import Derived.Test.YtjmhmajfkdglnaaGreatDoorMrg27
import Derived.Test.YtjmhmajfkdglnaaGreatDoorMrg30
import Derived.Test.YtjmhmajfkdglnaaGreatDoorMrg32
import Derived.Test.YtjmhmajfkdglnaaGreatDoorMrg37
import Derived.Test.YtjmhmajfkdglnaaGreatDoorMrg25
set_option linter.unusedVariables false
set_option maxRecDepth 100000
set_option maxHeartbeats 16000000
namespace Go.Proofs.YtjmhmajfkdglnaaGreatDoor
open Go.ChangeShapes Go.WideShapes Go.ChangeAt Go.RowKit Go.Deep
theorem Bk.thereAt {W : World} {t : TypeId} {b : Nat} {cs : Array Value} (h : Bk W t b cs) (o n : Nat) (hn : o + n ≤ cs.size) : W.there b o n := fun j hj =>
  ⟨by rw [h.cell (k := o + j) (v := cs[o + j]'(by omega)) (Array.getElem?_eq_getElem (by omega))]; rfl, h.frz _⟩
theorem Bk.part {W : World} {t : TypeId} {b : Nat} {cs : List Value} (h : Bk W t b cs.toArray) (o : Nat) (vs : List Value) (hl : o + vs.length ≤ cs.length) : Bk (W.setCells b o vs) t b (cs.take o ++ vs ++ cs.drop (o + vs.length)).toArray := setCells_full b t vs o W cs h hl
theorem sizeEvd : (Tryz.prog.info? 42).map (·.size) = some 3 := by kernel_rfl
theorem sizePrf : (Tryz.prog.info? 40).map (·.size) = some 2 := by kernel_rfl
end Go.Proofs.YtjmhmajfkdglnaaGreatDoor
namespace Go.Proofs.YtjmhmajfkdglnaaGreatDoor
open Go.RowKit M
theorem evtI_of (cx info : ByteArray) (s r c' s' : Int) (fN n g1 k1 : Nat) (cs : List Pt) (F0 F1 F2 F3 F4 F5 F6 : FuncId) (w : World) (hcf : ∀ (args : Array Value) (w : World), (callFunc F2 args).run Tryz.prog w = .ok (.enter F2 args) w) (hl : cs.length = n) (h1 : 1 ≤ n) (hn : n ≤ 200) (hfN : fN < 2305843010818082053) (hon : ∀ p ∈ cs, on p) (hc : Cps w g1 cs)
    (FA : ∀ w', Calls Tryz.prog F2 #[.agg #[.int .u64 s]] w' fun e w'' => e = .returned (.agg #[.int .u64 (fN : Int)]) ∧ Below w'.heap.size w' w'')
    (PV : ∀ w' g2 k2, Below w.heap.size w w' → Cps w' g2 (cs.map (nt fN)) → Calls Tryz.prog 126 #[.agg #[.string cx, .string info, .func (.func F0) #[] #[], .func (.func F1) #[] #[], .func (.func F2) #[] #[], .func (.func F3) #[] #[], .func (.func F4) #[] #[], .func (.func F5) #[] #[], .func (.func F6) #[] #[]], .agg #[.int .u64 s], .slice (some ⟨g1, 0, none⟩) n k1, .slice (some ⟨g2, 0, none⟩) n k2, .agg #[.int .u64 r]] w' fun e w'' => e = .returned (.agg #[.int .u64 c', .int .u64 s']) ∧ Below w'.heap.size w' w'') :
    Calls Tryz.prog 92 #[.agg #[.string cx, .string info, .func (.func F0) #[] #[], .func (.func F1) #[] #[], .func (.func F2) #[] #[], .func (.func F3) #[] #[], .func (.func F4) #[] #[], .func (.func F5) #[] #[], .func (.func F6) #[] #[]], .agg #[.int .u64 s], .slice (some ⟨g1, 0, none⟩) n k1, .agg #[.int .u64 r]] w fun e w' => ∃ v, e = .returned (.agg #[v, .int .u64 c', .int .u64 s']) ∧ w'.ownsRow w.heap.size 28 3 v n (cells3 (cs.map (nt fN))) ∧ Below w.heap.size w w' := by
  obtain ⟨i0, hi, hz0, hz1, hz2⟩ := info_parts infoCP
  obtain ⟨j0, ji, jz0, jz1, jz2⟩ := info_parts infoPt
  obtain ⟨CS, hCS⟩ : ∃ CS, Hid (CS = fun j => cells3 ((cs.take j).map (nt fN))) := ⟨_, rfl⟩
  have hst : Hid (∀ j, j < n → ∃ p : Pt, cs[j]? = some p ∧ on p ∧ CS (j + 1) = CS j ++ [.int .u64 (px (nt fN p)), .int .u64 (py (nt fN p)), .bool (pb (nt fN p))]) := fun j hj => by
    obtain ⟨t, ht⟩ : ∃ t, cs[j]? = some t := ⟨_, List.getElem?_eq_getElem (by omega)⟩
    refine ⟨t, ht, hon t (List.mem_of_getElem? ht), ?_⟩
    rw [hCS.out]
    simp only
    rw [List.take_add_one, ht, List.map_append, cells3_app]
    rfl
  have hC0 : CS 0 = [] := by rw [hCS.out]; rfl
  have hCn : Hid (CS n = cells3 (cs.map (nt fN))) := by simp only [Hid]; rw [hCS.out, ← hl]; simp
  clear hCS hl hon
  obtain ⟨X, hX⟩ : ∃ X, X = (((w.alloc (Obj.cells #[.string cx, .string info, .func (.func F0) #[] #[], .func (.func F1) #[] #[], .func (.func F2) #[] #[], .func (.func F3) #[] #[], .func (.func F4) #[] #[], .func (.func F5) #[] #[], .func (.func F6) #[] #[]] 144)).alloc (Obj.cells #[.int .u64 s] 117)).alloc (Obj.cells #[.int .u64 r] 117)).alloc (Obj.cells #[.slice none 0 0, .int .u64 0, .int .u64 0] 42) := ⟨_, rfl⟩
  have r0 : Bk X 144 w.heap.size #[.string cx, .string info, .func (.func F0) #[] #[], .func (.func F1) #[] #[], .func (.func F2) #[] #[], .func (.func F3) #[] #[], .func (.func F4) #[] #[], .func (.func F5) #[] #[], .func (.func F6) #[] #[]] := by rw [hX]; exact (((Bk.new _ _ _).alloc _).alloc _).alloc _
  have r1 : Bk X 117 (w.heap.size + 1) #[.int .u64 s] := by rw [hX]; exact (((Bk.new _ _ _).at (by simp)).alloc _).alloc _
  have r2 : Bk X 117 (w.heap.size + 1 + 1) #[.int .u64 r] := by rw [hX]; exact ((Bk.new _ _ _).at (by simp)).alloc _
  have r3 : Bk X 42 (w.heap.size + 1 + 1 + 1) #[.slice none 0 0, .int .u64 0, .int .u64 0] := by rw [hX]; exact (Bk.new _ _ _).at (by simp)
  have hb : Below w.heap.size w X := by rw [hX]; exact ((((Below.refl _ w).alloc (Nat.le_refl _) _).alloc (by simp) _).alloc (by simp; omega) _).alloc (by simp; omega) _
  rw [hX] at r0 r1 r2 r3 hb
  clear hX
  have s4 := r0.cell (k := 4) rfl
  have s0 := r1.cell (k := 0) rfl
  go_enter Tryz.func92, Tryz.ntmps92
  go_wp2_with fail
  refine (FA _).mono ?_
  rintro e w1 ⟨rfl, b1⟩
  replace r0 := r0.keep b1
  replace r1 := r1.keep b1
  replace r2 := r2.keep b1
  replace r3 := r3.keep b1
  replace hb := hb.trans (b1.mono hb.size)
  clear FA b1 s4 s0
  have l3 := r3.lt
  have q0 : Bk ((w1.alloc (Obj.cells #[.int .u64 (fN : Int)] 117)).alloc (Obj.cells #[.slice none 0 0, .int .u64 0, .int .u64 0] 42)) 117 w1.heap.size #[.int .u64 (fN : Int)] := (Bk.new _ _ _).alloc _
  have q1 : Bk ((w1.alloc (Obj.cells #[.int .u64 (fN : Int)] 117)).alloc (Obj.cells #[.slice none 0 0, .int .u64 0, .int .u64 0] 42)) 42 (w1.heap.size + 1) #[.slice none 0 0, .int .u64 0, .int .u64 0] := (Bk.new _ _ _).at (by simp)
  have q2 : Below w1.heap.size w1 ((w1.alloc (Obj.cells #[.int .u64 (fN : Int)] 117)).alloc (Obj.cells #[.slice none 0 0, .int .u64 0, .int .u64 0] 42)) := ((Below.refl _ w1).alloc (Nat.le_refl _) _).alloc (by simp) _
  go_wp2
  go_loopw [11, 22] (fun ov iv wr => ∃ (j : Nat) (u : Value), j ≤ n ∧ iv = .int .i64 (j : Int) ∧ wr.ownsRow w1.heap.size 106 3 ov j (CS j) ∧ wr.ownsRow w1.heap.size 28 3 u j (CS j) ∧ Bk wr 117 w1.heap.size #[.int .u64 (fN : Int)] ∧ Bk wr 42 (w1.heap.size + 1) #[u, .int .u64 0, .int .u64 0] ∧ Below w1.heap.size w1 wr) (fun _ i _ => n - (intOf i).toNat)
  case atStart => exact ⟨0, .slice none 0 0, by omega, rfl, by rw [hC0]; exact World.ownsRow_nil _ _ _ _, by rw [hC0]; exact World.ownsRow_nil _ _ _ _, q0, q1, q2⟩
  case round =>
    clear hC0 q0 q1 q2
    obtain ⟨j, u, hj, rfl, hown, hown', q0, q1, hbl⟩ := hrel
    have hsz := hbl.size
    have hle := q1.lt
    by_cases hlt : j < n
    · have hli : (j : Int) < (n : Int) := by omega
      obtain ⟨p, hp, hop, hnx⟩ := hst.out j hlt
      have hB := hb.trans (hbl.mono hb.size)
      have pp := hc.below hB hc.lt
      have c0 := pp.c0 j p hp
      have c1 := pp.c1 j p hp
      have c2 := pp.c2 j p hp
      rw [Nat.zero_add] at c0 c1 c2
      have TM := fun w => cplT hop fN hfN w
      have z0 := (q0.alloc (Obj.cells #[.int .u64 (px p), .int .u64 (py p), .bool (pb p)] 106)).cell (k := 0) rfl
      clear hp pp hop hB
      generalize nt fN p = q at *
      go_wp2_with fail
      refine (TM _).mono ?_
      rintro e w2 ⟨rfl, b2⟩
      have hB2 : Below wr.heap.size wr w2 := by
        have h1 := ((Below.refl _ wr).alloc (Nat.le_refl _) (Obj.cells #[.int .u64 (px p), .int .u64 (py p), .bool (pb p)] 106))
        exact h1.trans (b2.mono h1.size)
      have nq := fun e => Nat.lt_irrefl _ ((below_own3 hown hB2).lt w2.heap.size e).2
      have hB3 := hB2.alloc hB2.size (Obj.cells #[.int .u64 (px q), .int .u64 (py q), .bool (pb q)] 106)
      have rq := Bk.new w2 106 #[.int .u64 (px q), .int .u64 (py q), .bool (pb q)]
      replace hown := below_own3 hown hB3
      replace hown' := below_own3 hown' hB3
      replace q0 := q0.keep hB3
      replace q1 := q1.keep hB3
      replace hbl := hbl.trans (hB3.mono hbl.size)
      have hs2 : w1.heap.size + 1 < w2.heap.size := Nat.lt_of_lt_of_le hle hB2.size
      clear TM c0 c1 c2 b2 z0 hB2 hB3 hsz hle
      have k0 := rq.cell (k := 0) rfl
      have k1 := rq.cell (k := 1) rfl
      have k2 := rq.cell (k := 2) rfl
      have mk1 := True.intro
      have mk2 := True.intro
      go_wp2_with (first
        | (at_builtin
           clear mk1
           refine wpList_append_ow rfl _ _ 107 rfl w1.heap.size 106 i0 (.agg #[.int .u64 0, .int .u64 0, .bool false]) 3 24 Tryz.underlying107 hi hz0 hz1 hz2 rfl (by decide) _ j (CS j) rfl (hown.alloc _) ⟨w2.heap.size + 1, 0, none⟩ 1 1 [.int .u64 (px q), .int .u64 (py q), .bool (pb q)] rfl rfl (World.news_of_block (cs := #[.int .u64 (px q), .int .u64 (py q), .bool (pb q)]) (by have := heap_alloc_new (w2.alloc (Obj.cells #[.int .u64 (px q), .int .u64 (py q), .bool (pb q)] 106)) (Obj.cells #[.int .u64 (px q), .int .u64 (py q), .bool (pb q)] 106); simpa using this)) (by simp [Value.oneCell']) (by decide) (by unfold maxLen; omega) (by omega) (by simp; omega) ?_
           intro g2 cap2 w3 hown2 hgr2 hg2
           have A0 := hown.alloc (Obj.cells #[.int .u64 (px q), .int .u64 (py q), .bool (pb q)] 106)
           have A1 := hown'.alloc (Obj.cells #[.int .u64 (px q), .int .u64 (py q), .bool (pb q)] 106)
           have A2 := q0.alloc (Obj.cells #[.int .u64 (px q), .int .u64 (py q), .bool (pb q)] 106)
           have A3 := q1.alloc (Obj.cells #[.int .u64 (px q), .int .u64 (py q), .bool (pb q)] 106)
           replace hown' := A1.kept hgr2 (own_ne_own A1 A0 (by decide))
           replace q0 := A2.grown hgr2 (own_ne_bk A0 A2 (by decide))
           replace q1 := A3.grown hgr2 (own_ne_bk A0 A3 (by decide))
           replace rq := (rq.alloc (Obj.cells #[.int .u64 (px q), .int .u64 (py q), .bool (pb q)] 106)).grown hgr2 (fun e => nq e.symm)
           have hbl3 := (hbl.alloc hbl.size (Obj.cells #[.int .u64 (px q), .int .u64 (py q), .bool (pb q)] 106)).grown hgr2 (by simp; omega) (fun r hr => (hown.lt r hr).1)
           replace hown2 : w3.ownsRow w1.heap.size 106 3 (.slice (some ⟨g2, 0, none⟩) (j + 1) cap2) (j + 1) (CS (j + 1)) := by rw [hnx]; exact hown2
           have hs3 : w1.heap.size + 1 < w3.heap.size := q1.lt
           clear A0 A1 A2 A3 hown hgr2 hbl nq k0 k1 k2 hs2
           have k0 := rq.cell (k := 0) rfl
           have k1 := rq.cell (k := 1) rfl
           have k2 := rq.cell (k := 2) rfl
           have z0 := q1.cell (k := 0) rfl)
        | (at_builtin
           clear mk2
           refine wpList_append_ow rfl _ _ 38 rfl w1.heap.size 28 j0 (.agg #[.int .u64 0, .int .u64 0, .bool false]) 3 24 Tryz.underlying38 ji jz0 jz1 jz2 rfl (by decide) _ j (CS j) rfl (hown'.alloc _) ⟨w3.heap.size, 0, none⟩ 1 1 [.int .u64 (px q), .int .u64 (py q), .bool (pb q)] rfl rfl (World.news_of_block (cs := #[.int .u64 (px q), .int .u64 (py q), .bool (pb q)]) (heap_alloc_new w3 _)) (by simp [Value.oneCell']) (by decide) (by unfold maxLen; omega) (by omega) (by simp; omega) ?_
           intro g3 cap3 w4 hown4 hgr4 hg4
           have A0 := hown'.alloc (Obj.cells #[.int .u64 (px q), .int .u64 (py q), .bool (pb q)] 28)
           have A1 := hown2.alloc (Obj.cells #[.int .u64 (px q), .int .u64 (py q), .bool (pb q)] 28)
           have A2 := q0.alloc (Obj.cells #[.int .u64 (px q), .int .u64 (py q), .bool (pb q)] 28)
           have A3 := q1.alloc (Obj.cells #[.int .u64 (px q), .int .u64 (py q), .bool (pb q)] 28)
           replace hown2 := A1.kept hgr4 (own_ne_own A1 A0 (by decide))
           replace q0 := A2.grown hgr4 (own_ne_bk A0 A2 (by decide))
           replace q1 := A3.grown hgr4 (own_ne_bk A0 A3 (by decide))
           have hbl4 := (hbl3.alloc hbl3.size (Obj.cells #[.int .u64 (px q), .int .u64 (py q), .bool (pb q)] 28)).grown hgr4 (by simp; omega) (fun r hr => (hown'.lt r hr).1)
           replace hown4 : w4.ownsRow w1.heap.size 28 3 (.slice (some ⟨g3, 0, none⟩) (j + 1) cap3) (j + 1) (CS (j + 1)) := by rw [hnx]; exact hown4
           clear A0 A1 A2 A3 hown' hgr4 hbl3 k0 k1 k2 z0 rq hs3
           have z0 := q1.cell (k := 0) rfl
           have zf := q1.frz 0)
        | go_in)
      have R1 := own_set hown2 (own_ne_bk hown2 q1 (by decide)) 0 (.slice (some ⟨g3, 0, none⟩) (j + 1) cap3)
      have R2 := own_set hown4 (own_ne_bk hown4 q1 (by decide)) 0 (.slice (some ⟨g3, 0, none⟩) (j + 1) cap3)
      have R3 := q0.other (b' := w1.heap.size + 1) (by omega) 0 (.slice (some ⟨g3, 0, none⟩) (j + 1) cap3)
      have R4 := q1.set 0 (.slice (some ⟨g3, 0, none⟩) (j + 1) cap3)
      have R5 := hbl4.setCell (p := ⟨w1.heap.size + 1, 0, none⟩) (Nat.le_succ _) (.slice (some ⟨g3, 0, none⟩) (j + 1) cap3)
      clear hown2 hown4 q0 q1 hbl4 z0 zf
      go_roundw
      case rel =>
        first
          | exact ⟨j + 1, _, by omega, by go_num, R1, R2, R3, R4, R5⟩
          | ((repeat apply Exists.intro); exact ⟨⟨j + 1, _, by omega, by go_num, R1, R2, R3, R4, R5⟩, rfl⟩)
      case measure => simp [intOf]; omega
    · obtain rfl : j = n := by omega
      rw [hCn.out] at hown hown'
      obtain ⟨g2, k2, rfl, -, -⟩ := hown.form (by omega)
      have hC := Cps.of_owns hown
      replace hown' := hown'.mono (base' := w.heap.size) (by omega)
      replace r0 := r0.below hbl (by omega)
      replace r1 := r1.below hbl (by omega)
      replace r2 := r2.below hbl (by omega)
      replace r3 := r3.below hbl (by omega)
      replace hb := hb.trans (hbl.mono hb.size)
      clear hbl hst hCn hown q0
      have d0 := r0.cell (k := 0) rfl
      have d1 := r0.cell (k := 1) rfl
      have d2 := r0.cell (k := 2) rfl
      have d3 := r0.cell (k := 3) rfl
      have d4 := r0.cell (k := 4) rfl
      have d5 := r0.cell (k := 5) rfl
      have d6 := r0.cell (k := 6) rfl
      have d7 := r0.cell (k := 7) rfl
      have d8 := r0.cell (k := 8) rfl
      have x0 := r1.cell (k := 0) rfl
      have y0 := r2.cell (k := 0) rfl
      go_wp2_with fail
      refine (PV _ g2 k2 hb hC).mono ?_
      rintro e W7 ⟨rfl, b5⟩
      replace hown' := below_own3 hown' b5
      replace q1 := q1.keep b5
      replace r3 := r3.keep b5
      replace hb := hb.trans (b5.mono hb.size)
      clear PV b5 hC r0 r1 r2 x0 y0 d0 d1 d2 d3 d4 d5 d6 d7 d8
      have ht1 := q1.thereAt 1 2 (by simp)
      have rO2 : Bk (W7.setCells (w1.heap.size + 1) 1 [.int .u64 c', .int .u64 s']) 42 (w1.heap.size + 1) #[u, .int .u64 c', .int .u64 s'] := q1.part (cs := [u, .int .u64 0, .int .u64 0]) 1 [.int .u64 c', .int .u64 s'] (by simp)
      have rA2 := r3.setsO (b' := w1.heap.size + 1) (by omega) 1 [.int .u64 c', .int .u64 s']
      have hw2 := own_sets hown' (own_ne_bk hown' q1 (by decide)) 1 [.int .u64 c', .int .u64 s']
      have hb2 := below_setCells hb (g := w1.heap.size + 1) (by omega) 1 [.int .u64 c', .int .u64 s']
      have ht2 := rA2.there 3 (by simp)
      have p0 := rO2.cell (k := 0) rfl
      have p1 := rO2.cell (k := 1) rfl
      have p2 := rO2.cell (k := 2) rfl
      have mk1 := True.intro
      have mk2 := True.intro
      go_wp2_with (first | (clear mk1; refine wpList_store_mid rfl 40 _ _ rfl (w1.heap.size + 1) 1 #[.int .u64 c', .int .u64 s'] rfl rfl ht1 sizePrf (by kernel_rfl) ?_) | (clear mk2; refine wpList_store_mid rfl 42 _ _ rfl (w.heap.size + 1 + 1 + 1) 0 #[u, .int .u64 c', .int .u64 s'] rfl rfl ht2 sizeEvd (onev hown' _ _) ?_))
      exact bodyPost_ret (v := .agg #[u, .int .u64 c', .int .u64 s']) (bk_res1 (fn := Tryz.f92) (p := 8) Tryz.results92 _ rfl (rA2.sets _ rfl) Tryz.underlying42 rfl sizeEvd) rfl ⟨u, rfl, own_sets hw2 (own_ne_bk hw2 rA2 (by decide)) 0 _, below_setCells hb2 (by omega) _ _⟩
end Go.Proofs.YtjmhmajfkdglnaaGreatDoor
namespace Go.Proofs.YtjmhmajfkdglnaaGreatDoor
open Go.RowKit
section
variable {A : Act} {w : World} {dst : Option Tmp} {ty : TypeId} {ps : String} {af : Array Edge} {gd : Option (Nat × Bool)} {x y : Operand} {b i : Nat}
theorem Z.notT (hx : A.eval x = .bool true) :
    Does Tryz.prog { dst := dst, op := .unOp .not 4 x, type := ty, pos := ps, after := af, guard := gd } A w fun v' w' => v' = .bool false ∧ Below w.heap.size w w' := by
  have h : (execOp A.eval { dst := dst, op := .unOp .not 4 x, type := ty, pos := ps, after := af, guard := gd }).run Tryz.prog w = .ok (.value (.bool false)) w := by generalize A.eval = ev at *; simp [execOp, hx, go_sem]
  exact does_value h ⟨rfl, Below.refl _ _⟩
theorem Z.pkF {u : Value} {z : Operand} (hx : A.eval x = .bool false) (hz : A.eval z = u) :
    Does Tryz.prog { dst := dst, op := .pick x y z, type := ty, pos := ps, after := af, guard := gd } A w fun v' w' => v' = u ∧ Below w.heap.size w w' := by
  have h : (execOp A.eval { dst := dst, op := .pick x y z, type := ty, pos := ps, after := af, guard := gd }).run Tryz.prog w = .ok (.value (u)) w := by generalize A.eval = ev at *; simp [execOp, hx, hz, go_sem]
  exact does_value h ⟨rfl, Below.refl _ _⟩
end
section
variable {A : Act} {w : World} {dst : Option Tmp} {ty : TypeId} {ps : String} {af : Array Edge} {gd : Option (Nat × Bool)} {x y : Operand} {b i : Nat}
theorem xt2_0 {u0 u1 : Value} (hx : A.eval x = .tuple #[u0, u1]) :
    Does Tryz.prog { dst := dst, op := .extract x 0, type := ty, pos := ps, after := af, guard := gd } A w fun v' w' => v' = u0 ∧ Below w.heap.size w w' := by
  have h : (execOp A.eval { dst := dst, op := .extract x 0, type := ty, pos := ps, after := af, guard := gd }).run Tryz.prog w = .ok (.value (u0)) w := by generalize A.eval = ev at *; simp [execOp, hx, go_sem]
  exact does_value h ⟨rfl, Below.refl _ _⟩
theorem xt2_1 {u0 u1 : Value} (hx : A.eval x = .tuple #[u0, u1]) :
    Does Tryz.prog { dst := dst, op := .extract x 1, type := ty, pos := ps, after := af, guard := gd } A w fun v' w' => v' = u1 ∧ Below w.heap.size w w' := by
  have h : (execOp A.eval { dst := dst, op := .extract x 1, type := ty, pos := ps, after := af, guard := gd }).run Tryz.prog w = .ok (.value (u1)) w := by generalize A.eval = ev at *; simp [execOp, hx, go_sem]
  exact does_value h ⟨rfl, Below.refl _ _⟩
theorem pu_prf {z0 : Int} {z1 : Int} (hx : A.eval x = .pointer (some ⟨b, 0, none⟩)) (hy : A.eval y = .agg #[.int .u64 z0, .int .u64 z1]) (hr : w.heap[b]? = some (.cells #[.int .u64 0, .int .u64 0] 40)) :
    Does Tryz.prog { dst := dst, op := .store 40 x y, type := ty, pos := ps, after := af, guard := gd } A w fun _ w' => Turned b (.cells #[.int .u64 z0, .int .u64 z1] 40) w w' := by
  have c0 : w.cell? ⟨b, 0, none⟩ = some (.int .u64 0) := by simp [World.cell?, hr]
  have c1 : w.cell? ⟨b, 1, none⟩ = some (.int .u64 0) := by simp [World.cell?, hr]
  have hf : ∀ k, w.frozen? ⟨b, k, none⟩ = false := fun k => by simp [World.frozen?, hr]
  have h : (execOp A.eval { dst := dst, op := .store 40 x y, type := ty, pos := ps, after := af, guard := gd }).run Tryz.prog w = .ok .skip ((w.setCell ⟨b, 0, none⟩ (.int .u64 z0)).setCell ⟨b, 1, none⟩ (.int .u64 z1)) := by generalize A.eval = ev at *; simp [execOp, hx, hy, hf, c0, c1, go_sem]
  refine does_skip h ⟨rfl, rfl, rfl, by simp [World.setCell], by simp [World.setCell, Array.getElem?_modify, hr], fun k hk => ?_⟩
  simp [World.setCell, Array.getElem?_modify, Ne.symm hk]
end
theorem cf_spec_Prove (args : Array Value) (w : World) : (callFunc 48 args).run Tryz.prog w = .ok (.enter 48 args) w := by kernel_rfl
end Go.Proofs.YtjmhmajfkdglnaaGreatDoor
