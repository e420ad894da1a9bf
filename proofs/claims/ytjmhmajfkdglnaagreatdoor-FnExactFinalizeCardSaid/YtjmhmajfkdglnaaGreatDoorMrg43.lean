import Derived.Test.YtjmhmajfkdglnaaGreatDoorMrg42
import Derived.Test.YtjmhmajfkdglnaaGreatDoorMrg31
import Derived.Test.YtjmhmajfkdglnaaGreatDoorMrg36
set_option linter.unusedVariables false
set_option maxRecDepth 100000
set_option maxHeartbeats 16000000
namespace Go.Proofs.YtjmhmajfkdglnaaGreatDoor
open Go.ChangeShapes Go.WideShapes Go.ChangeAt Go.RowKit Go.Deep
theorem cellsLQ : Tryz.prog.cellsOf 51 = 2 := by kernel_rfl
theorem toF5 (x y : Int) (w : World) :
    Calls Tryz.prog 56 #[.agg #[.int .u64 x, .int .u64 y]] w fun e w' => e = .returned (.agg #[.int .u64 x, .int .u64 y]) ∧ Below w.heap.size w w' := by
  go_enter Tryz.func56, Tryz.ntmps56
  go_wp2
  refine bodyPost_ret (v := .agg #[.int .u64 x, .int .u64 y]) (by simp [results, Tryz.results56, go_sem]) rfl ⟨rfl, ?_⟩
  exact (((Below.refl _ w).alloc (Nat.le_refl _) _).alloc (by simp) _).alloc (by simp; omega) _
theorem cellsLE : Tryz.prog.cellsOf 53 = 3 := by kernel_rfl
theorem cellsLB : Tryz.prog.cellsOf 55 = 6 := by kernel_rfl
theorem cellsLS : Tryz.prog.cellsOf 36 = 1 := by kernel_rfl
section
variable {H : Type} {enc : TypeId × Value → H} {W : World} {b0 : Nat}
theorem open_bl {r : Reach} {v : Value} {d : DataW H} {ps : List MemPlace} (hval : Value.okWide Tryz.prog W r b0 55 v) (hd : DataW.Trod enc Tryz.prog W 0 (fun _ => true) true 55 v d ps) :
    ∃ t1 t2 : Tri, v = .agg #[.int .u64 (t1.1 : Int), .int .u64 (t1.2.1 : Int), .bool t1.2.2, .int .u64 (t2.1 : Int), .int .u64 (t2.2.1 : Int), .bool t2.2.2] := by
  obtain ⟨cs, rfl, hs⟩ := okWide_struct Tryz.underlying55 hval
  rw [cellsLB] at hs
  obtain ⟨fuel, hf⟩ := hd
  obtain ⟨y0, y1, n, -, -, t0, t1⟩ := trod_struct2 Tryz.underlying55 hf
  simp only [cellsLP] at t0 t1
  obtain ⟨z0, z1, z2, m, -, -, u0, u1, u2⟩ := trod_struct3 Tryz.underlying27 t0
  obtain ⟨z3, z4, z5, m', -, -, u3, u4, u5⟩ := trod_struct3 Tryz.underlying27 t1
  simp only [cellsU, cellsB] at u0 u1 u2 u3 u4 u5
  obtain ⟨a0, e0, -, w0⟩ := DataW.trod_int Tryz.underlying22 u0
  obtain ⟨a1, e1, -, w1⟩ := DataW.trod_int Tryz.underlying22 u1
  obtain ⟨a2, e2, -⟩ := DataW.trod_bool Tryz.underlying4 u2
  obtain ⟨a3, e3, -, w3⟩ := DataW.trod_int Tryz.underlying22 u3
  obtain ⟨a4, e4, -, w4⟩ := DataW.trod_int Tryz.underlying22 u4
  obtain ⟨a5, e5, -⟩ := DataW.trod_bool Tryz.underlying4 u5
  obtain ⟨l⟩ := cs
  match l, hs with
  | [p0, p1, p2, p3, p4, p5], _ =>
    simp [Value.cells] at e0 e1 e2 e3 e4 e5
    subst e0 e1 e2 e3 e4 e5
    obtain ⟨x0, rfl, -⟩ := u64_nat w0
    obtain ⟨x1, rfl, -⟩ := u64_nat w1
    obtain ⟨x3, rfl, -⟩ := u64_nat w3
    obtain ⟨x4, rfl, -⟩ := u64_nat w4
    exact ⟨(x0, x1, a2), (x3, x4, a5), rfl⟩
theorem open_ev {r : Reach} {v : Value} {d : DataW H} {ps : List MemPlace} (hval : Value.okWide Tryz.prog W r b0 53 v) (hd : DataW.Trod enc Tryz.prog W 0 (fun _ => true) true 53 v d ps) :
    ∃ (a : Option Addr) (len cap x y : Nat), v = .agg #[.slice a len cap, .int .u64 x, .int .u64 y] ∧ (∃ es : List Tri, Ars W (.slice a len cap) es ∧ es.length ≤ maxLen) ∧ x < 18446744073709551616 ∧ y < 18446744073709551616 := by
  obtain ⟨cs, rfl, hs⟩ := okWide_struct Tryz.underlying53 hval
  rw [cellsLE] at hs
  obtain ⟨fuel, hf⟩ := hd
  obtain ⟨y0, y1, n, -, -, t0, t1⟩ := trod_struct2 Tryz.underlying53 hf
  simp only [cellsLS, cellsLQ] at t0 t1
  obtain ⟨z0, z1, m, -, -, u0, u1⟩ := trod_struct2 Tryz.underlying51 t1
  simp only [cellsU] at u0 u1
  obtain ⟨a0, e0, -, w0⟩ := DataW.trod_int Tryz.underlying22 u0
  obtain ⟨a1, e1, -, w1⟩ := DataW.trod_int Tryz.underlying22 u1
  obtain ⟨l⟩ := cs
  match l, hs with
  | [p0, p1, p2], _ =>
    simp [Value.cells] at e0 e1
    subst e0 e1
    obtain ⟨x, rfl, lx⟩ := u64_nat w0
    obtain ⟨y, rfl, ly⟩ := u64_nat w1
    have t0' : DataW.trod enc Tryz.prog W 0 (fun _ => true) true n 36 [p0] = some y0 := t0
    obtain ⟨a, len, cap, rfl⟩ : ∃ a len cap, p0 = .slice a len cap := by
      rcases DataW.trod_slice Tryz.underlying36 t0' with ⟨hcs, -⟩ | ⟨ad, len', cap', el, re, m2, -, hcs, -⟩
      · simp at hcs; exact ⟨_, _, _, hcs⟩
      · simp at hcs; exact ⟨_, _, _, hcs⟩
    exact ⟨a, len, cap, x, y, rfl, ars_of (enc := enc) (d := y0.1) (p := y0.2) ⟨n, t0'⟩, lx, ly⟩
end
theorem Bk.thereAt {W : World} {t : TypeId} {b : Nat} {cs : Array Value} (h : Bk W t b cs) (o n : Nat) (hn : o + n ≤ cs.size) : W.there b o n := fun j hj =>
  ⟨by rw [h.cell (k := o + j) (v := cs[o + j]'(by omega)) (Array.getElem?_eq_getElem (by omega))]; rfl, h.frz _⟩
theorem Bk.part {W : World} {t : TypeId} {b : Nat} {cs : List Value} (h : Bk W t b cs.toArray) (o : Nat) (vs : List Value) (hl : o + vs.length ≤ cs.length) : Bk (W.setCells b o vs) t b (cs.take o ++ vs ++ cs.drop (o + vs.length)).toArray := setCells_full b t vs o W cs h hl
theorem sizeEvd : (Tryz.prog.info? 42).map (·.size) = some 3 := by kernel_rfl
theorem sizePrf : (Tryz.prog.info? 40).map (·.size) = some 2 := by kernel_rfl
theorem tblL (x y x' y' : Int) (c c' : Bool) (w : World) :
    Calls Tryz.prog 26 #[.agg #[.int .u64 x, .int .u64 y, .bool c, .int .u64 x', .int .u64 y', .bool c']] w fun e w' => e = .returned (.agg #[.int .u64 x, .int .u64 y, .bool c, .int .u64 x', .int .u64 y', .bool c']) ∧ Below w.heap.size w w' := by
  have T1 := fun w => toP5 x y c w
  have T2 := fun w => toP5 x' y' c' w
  obtain ⟨X, hX⟩ : ∃ X, X = ((w.alloc (Obj.cells #[.int .u64 x, .int .u64 y, .bool c, .int .u64 x', .int .u64 y', .bool c'] 55)).alloc (Obj.cells #[.int .u64 0, .int .u64 0, .bool false, .int .u64 0, .int .u64 0, .bool false] 30)).alloc (Obj.cells #[.int .u64 0, .int .u64 0, .bool false, .int .u64 0, .int .u64 0, .bool false] 30) := ⟨_, rfl⟩
  have r1 : Bk X 55 w.heap.size #[.int .u64 x, .int .u64 y, .bool c, .int .u64 x', .int .u64 y', .bool c'] := by rw [hX]; exact ((Bk.new _ _ _).alloc _).alloc _
  have r2 : Bk X 30 (w.heap.size + 1) #[.int .u64 0, .int .u64 0, .bool false, .int .u64 0, .int .u64 0, .bool false] := by rw [hX]; exact ((Bk.new _ _ _).at (by simp)).alloc _
  have r3 : Bk X 30 (w.heap.size + 1 + 1) #[.int .u64 0, .int .u64 0, .bool false, .int .u64 0, .int .u64 0, .bool false] := by rw [hX]; exact (Bk.new _ _ _).at (by simp)
  have hb : Below w.heap.size w X := by rw [hX]; exact (((Below.refl _ w).alloc (Nat.le_refl _) _).alloc (by simp) _).alloc (by simp; omega) _
  rw [hX] at r1 r2 r3 hb
  clear hX
  have p0 := r1.cell (k := 0) rfl
  have p1 := r1.cell (k := 1) rfl
  have p2 := r1.cell (k := 2) rfl
  go_enter Tryz.func26, Tryz.ntmps26
  go_wp2_with fail
  refine (T1 _).mono ?_
  rintro e w1 ⟨rfl, b1⟩
  replace r1 := r1.keep b1
  replace r2 := r2.keep b1
  replace r3 := r3.keep b1
  replace hb := hb.trans (b1.mono hb.size)
  clear T1 b1 p0 p1 p2
  have hth := r3.thereAt 0 3 (by simp)
  replace r1 := r1.setsO (b' := w.heap.size + 1 + 1) (by omega) 0 [.int .u64 x, .int .u64 y, .bool c]
  replace r2 := r2.setsO (b' := w.heap.size + 1 + 1) (by omega) 0 [.int .u64 x, .int .u64 y, .bool c]
  replace r3 : Bk (w1.setCells (w.heap.size + 1 + 1) 0 [.int .u64 x, .int .u64 y, .bool c]) 30 (w.heap.size + 1 + 1) #[.int .u64 x, .int .u64 y, .bool c, .int .u64 0, .int .u64 0, .bool false] := r3.part (cs := [.int .u64 0, .int .u64 0, .bool false, .int .u64 0, .int .u64 0, .bool false]) 0 [.int .u64 x, .int .u64 y, .bool c] (by simp)
  replace hb := below_setCells hb (g := w.heap.size + 1 + 1) (by omega) 0 [.int .u64 x, .int .u64 y, .bool c]
  have p0 := r1.cell (k := 3) rfl
  have p1 := r1.cell (k := 4) rfl
  have p2 := r1.cell (k := 5) rfl
  have mk1 := True.intro
  go_wp2_with (clear mk1; refine wpList_store_mid rfl 28 _ _ rfl (w.heap.size + 1 + 1) 0 #[.int .u64 x, .int .u64 y, .bool c] rfl rfl hth sizePt3 (by kernel_rfl) ?_)
  refine (T2 _).mono ?_
  rintro e w2 ⟨rfl, b1⟩
  replace r2 := r2.keep b1
  replace r3 := r3.keep b1
  replace hb := hb.trans (b1.mono hb.size)
  clear T2 b1 p0 p1 p2 r1 hth
  have hth := r3.thereAt 3 3 (by simp)
  replace r2 := r2.setsO (b' := w.heap.size + 1 + 1) (by omega) 3 [.int .u64 x', .int .u64 y', .bool c']
  replace r3 := r3.set3 (.int .u64 x') (.int .u64 y') (.bool c')
  replace hb := below_setCells hb (g := w.heap.size + 1 + 1) (by omega) 3 [.int .u64 x', .int .u64 y', .bool c']
  have ht2 := r2.there 6 (by simp)
  have p0 := r3.cell (k := 0) rfl
  have p1 := r3.cell (k := 1) rfl
  have p2 := r3.cell (k := 2) rfl
  have p3 := r3.cell (k := 3) rfl
  have p4 := r3.cell (k := 4) rfl
  have p5 := r3.cell (k := 5) rfl
  have mk1 := True.intro
  have mk2 := True.intro
  go_wp2_with (first | (clear mk1; refine wpList_store_mid rfl 28 _ _ rfl (w.heap.size + 1 + 1) 3 #[.int .u64 x', .int .u64 y', .bool c'] rfl rfl hth sizePt3 (by kernel_rfl) ?_) | (clear mk2; refine wpList_store_mid rfl 30 _ _ rfl (w.heap.size + 1) 0 #[.int .u64 x, .int .u64 y, .bool c, .int .u64 x', .int .u64 y', .bool c'] rfl rfl ht2 sizeBld (by kernel_rfl) ?_))
  exact bodyPost_ret (v := .agg #[.int .u64 x, .int .u64 y, .bool c, .int .u64 x', .int .u64 y', .bool c']) (bk_res1 (fn := Tryz.f26) (p := 2) Tryz.results26 _ rfl (r2.sets _ rfl) Tryz.underlying30 rfl sizeBld) rfl ⟨rfl, below_setCells hb (by omega) _ _⟩
def evN (n : Nat) (pc ps : Int) (x : Nat) : Value := .agg #[.slice (some ⟨x, 0, none⟩) n n, .int .u64 pc, .int .u64 ps]
theorem tevL (a : Option Addr) (n cap : Nat) (pc ps : Int) (es : List Tri) (w : World) (hA : Ars w (.slice a n cap) es) (hn : es.length ≤ 1048576) :
    Calls Tryz.prog 25 #[.agg #[.slice a n cap, .int .u64 pc, .int .u64 ps]] w fun e w' => ∃ x, e = .returned (evN es.length pc ps x) ∧ Mad x es w' ∧ Below w.heap.size w w' := by
  have T2 := fun w => toF5 pc ps w
  obtain ⟨X, hX⟩ : ∃ X, X = ((w.alloc (Obj.cells #[.slice a n cap, .int .u64 pc, .int .u64 ps] 53)).alloc (Obj.cells #[.slice none 0 0, .int .u64 0, .int .u64 0] 42)).alloc (Obj.cells #[.slice none 0 0, .int .u64 0, .int .u64 0] 42) := ⟨_, rfl⟩
  have r1 : Bk X 53 w.heap.size #[.slice a n cap, .int .u64 pc, .int .u64 ps] := by rw [hX]; exact ((Bk.new _ _ _).alloc _).alloc _
  have r2 : Bk X 42 (w.heap.size + 1) #[.slice none 0 0, .int .u64 0, .int .u64 0] := by rw [hX]; exact ((Bk.new _ _ _).at (by simp)).alloc _
  have r3 : Bk X 42 (w.heap.size + 1 + 1) #[.slice none 0 0, .int .u64 0, .int .u64 0] := by rw [hX]; exact (Bk.new _ _ _).at (by simp)
  have hb : Below w.heap.size w X := by rw [hX]; exact (((Below.refl _ w).alloc (Nat.le_refl _) _).alloc (by simp) _).alloc (by simp; omega) _
  have T1 := tpsL_any (.slice a n cap) es X (hA.keep hb) hn
  have hlt : w.heap.size + 1 + 1 < X.heap.size := r3.lt
  rw [hX] at r1 r2 r3 hb T1 hlt
  clear hX hA
  have p0 := r1.cell (k := 0) rfl
  go_enter Tryz.func25, Tryz.ntmps25
  go_wp2_with fail
  refine T1.mono ?_
  rintro e w1 ⟨z, rfl, hM, b1⟩
  have hz : ¬ z = w.heap.size + 1 + 1 := fun e => by
    subst e
    obtain ⟨cur, h1, -⟩ := hM
    have := r3.keep b1
    unfold Bk at this
    rw [h1] at this
    cases this
  have hz2 : ¬ z = w.heap.size + 1 := fun e => by
    subst e
    obtain ⟨cur, h1, -⟩ := hM
    have := r2.keep b1
    unfold Bk at this
    rw [h1] at this
    cases this
  replace r1 := r1.keep b1
  replace r2 := r2.keep b1
  replace r3 := r3.keep b1
  replace hb := hb.trans (b1.mono hb.size)
  clear T1 b1 p0 hlt
  have c0 := r3.cell (k := 0) rfl
  have cf := r3.frz 0
  have s1 : Bk (w1.setCell ⟨w.heap.size + 1 + 1, 0, none⟩ (.slice (some ⟨z, 0, none⟩) es.length es.length)) 53 w.heap.size #[.slice a n cap, .int .u64 pc, .int .u64 ps] := r1.setsO (b' := w.heap.size + 1 + 1) (by omega) 0 [.slice (some ⟨z, 0, none⟩) es.length es.length]
  have s2 : Bk (w1.setCell ⟨w.heap.size + 1 + 1, 0, none⟩ (.slice (some ⟨z, 0, none⟩) es.length es.length)) 42 (w.heap.size + 1) #[.slice none 0 0, .int .u64 0, .int .u64 0] := r2.setsO (b' := w.heap.size + 1 + 1) (by omega) 0 [.slice (some ⟨z, 0, none⟩) es.length es.length]
  have s3 : Bk (w1.setCell ⟨w.heap.size + 1 + 1, 0, none⟩ (.slice (some ⟨z, 0, none⟩) es.length es.length)) 42 (w.heap.size + 1 + 1) #[.slice (some ⟨z, 0, none⟩) es.length es.length, .int .u64 0, .int .u64 0] := r3.part (cs := [.slice none 0 0, .int .u64 0, .int .u64 0]) 0 [.slice (some ⟨z, 0, none⟩) es.length es.length] (by simp)
  have hb' : Below w.heap.size w (w1.setCell ⟨w.heap.size + 1 + 1, 0, none⟩ (.slice (some ⟨z, 0, none⟩) es.length es.length)) := below_setCells hb (g := w.heap.size + 1 + 1) (by omega) 0 [.slice (some ⟨z, 0, none⟩) es.length es.length]
  have hM' : Mad z es (w1.setCell ⟨w.heap.size + 1 + 1, 0, none⟩ (.slice (some ⟨z, 0, none⟩) es.length es.length)) := by
    obtain ⟨cur, h1, h2⟩ := hM
    exact ⟨cur, Bk.setsO (W := w1) (b := z) (cs := cur) h1 hz 0 [.slice (some ⟨z, 0, none⟩) es.length es.length], h2⟩
  clear hM hb r1 r2 r3
  have p1 := s1.cell (k := 1) rfl
  have p2 := s1.cell (k := 2) rfl
  go_wp2_with fail
  refine (T2 _).mono ?_
  rintro e w2 ⟨rfl, b1⟩
  have r2 := s2.keep b1
  have r3 := s3.keep b1
  have hM := hM'.keep b1
  have hb := hb'.trans (b1.mono hb'.size)
  clear T2 b1 p1 p2 s1 s2 s3 hM' hb' c0 cf
  have hth := r3.thereAt 1 2 (by simp)
  replace r2 := r2.setsO (b' := w.heap.size + 1 + 1) (by omega) 1 [.int .u64 pc, .int .u64 ps]
  replace r3 : Bk (w2.setCells (w.heap.size + 1 + 1) 1 [.int .u64 pc, .int .u64 ps]) 42 (w.heap.size + 1 + 1) #[.slice (some ⟨z, 0, none⟩) es.length es.length, .int .u64 pc, .int .u64 ps] := r3.part (cs := [.slice (some ⟨z, 0, none⟩) es.length es.length, .int .u64 0, .int .u64 0]) 1 [.int .u64 pc, .int .u64 ps] (by simp)
  replace hb := below_setCells hb (g := w.heap.size + 1 + 1) (by omega) 1 [.int .u64 pc, .int .u64 ps]
  replace hM : Mad z es (w2.setCells (w.heap.size + 1 + 1) 1 [.int .u64 pc, .int .u64 ps]) := by
    obtain ⟨cur, h1, h2⟩ := hM
    exact ⟨cur, Bk.setsO (W := w2) (b := z) (cs := cur) h1 hz 1 _, h2⟩
  have ht2 := r2.there 3 (by simp)
  have p0 := r3.cell (k := 0) rfl
  have p1 := r3.cell (k := 1) rfl
  have p2 := r3.cell (k := 2) rfl
  have mk1 := True.intro
  have mk2 := True.intro
  go_wp2_with (first | (clear mk1; refine wpList_store_mid rfl 40 _ _ rfl (w.heap.size + 1 + 1) 1 #[.int .u64 pc, .int .u64 ps] rfl rfl hth sizePrf (by kernel_rfl) ?_) | (clear mk2; refine wpList_store_mid rfl 42 _ _ rfl (w.heap.size + 1) 0 #[.slice (some ⟨z, 0, none⟩) es.length es.length, .int .u64 pc, .int .u64 ps] rfl rfl ht2 sizeEvd (by kernel_rfl) ?_))
  refine bodyPost_ret (v := .agg #[.slice (some ⟨z, 0, none⟩) es.length es.length, .int .u64 pc, .int .u64 ps]) (bk_res1 (fn := Tryz.f25) (p := 2) Tryz.results25 _ rfl (r2.sets _ rfl) Tryz.underlying42 rfl sizeEvd) rfl ⟨z, rfl, ?_, below_setCells hb (by omega) _ _⟩
  obtain ⟨cur, h1, h2⟩ := hM
  exact ⟨cur, Bk.setsO (b := z) (cs := cur) h1 hz2 0 _, h2⟩
theorem szE_yes (a : Option Addr) (n cap : Nat) (pc ps left : Int) (w : World) (h : (n : Int) ≤ left) (hl : left ≤ 1048576) :
    Calls Tryz.prog 23 #[.agg #[.slice a n cap, .int .u64 pc, .int .u64 ps], .int .i64 left] w fun e w' => e = .returned (.int .i64 (left - n)) ∧ Below w.heap.size w w' := by
  have S := fun w => szL_yes a n cap left w h hl
  have g : ¬ (left - n : Int) < 0 := by omega
  have r1 := Bk.new w 53 #[.slice a n cap, .int .u64 pc, .int .u64 ps]
  have hb := (Below.refl _ w).alloc (Nat.le_refl _) (Obj.cells #[.slice a n cap, .int .u64 pc, .int .u64 ps] 53)
  have p0 := r1.cell (k := 0) rfl
  go_enter Tryz.func23, Tryz.ntmps23
  go_wp2_with fail
  refine (S _).mono ?_
  rintro e w1 ⟨rfl, rfl⟩
  clear S
  go_wp2
  go_ret
  exact ⟨rfl, hb⟩
theorem szE_no (a : Option Addr) (n cap : Nat) (pc ps left : Int) (w : World) (h : left < (n : Int)) (hl : left ≤ 1048576) (h0 : 0 ≤ left) (hn : n ≤ maxLen) :
    Calls Tryz.prog 23 #[.agg #[.slice a n cap, .int .u64 pc, .int .u64 ps], .int .i64 left] w fun e w' => e = .returned (.int .i64 (-1)) ∧ Below w.heap.size w w' := by
  have S := fun w => szL_no a n cap left w h hl h0 hn
  have r1 := Bk.new w 53 #[.slice a n cap, .int .u64 pc, .int .u64 ps]
  have hb := (Below.refl _ w).alloc (Nat.le_refl _) (Obj.cells #[.slice a n cap, .int .u64 pc, .int .u64 ps] 53)
  have p0 := r1.cell (k := 0) rfl
  go_enter Tryz.func23, Tryz.ntmps23
  go_wp2_with fail
  refine (S _).mono ?_
  rintro e w1 ⟨rfl, rfl⟩
  clear S
  go_wp2
  go_ret
  exact ⟨rfl, hb⟩
theorem eqE (es : List Tri) (x y : Nat) (pc ps : Int) (w : World) (hx : Mad x es w) (hy : Mad y es w) (hn : es.length ≤ 1048576) :
    Calls Tryz.prog 18 #[evN es.length pc ps x, evN es.length pc ps y] w fun e w' => e = .returned (.bool true) ∧ Below w.heap.size w w' := by
  unfold evN
  have E2 := fun w => eqF pc ps w
  obtain ⟨X, hX⟩ : ∃ X, X = (w.alloc (Obj.cells #[.slice (some ⟨x, 0, none⟩) es.length es.length, .int .u64 pc, .int .u64 ps] 42)).alloc (Obj.cells #[.slice (some ⟨y, 0, none⟩) es.length es.length, .int .u64 pc, .int .u64 ps] 42) := ⟨_, rfl⟩
  have r2 : Bk X 42 w.heap.size #[.slice (some ⟨x, 0, none⟩) es.length es.length, .int .u64 pc, .int .u64 ps] := by rw [hX]; exact (Bk.new _ _ _).alloc _
  have r3 : Bk X 42 (w.heap.size + 1) #[.slice (some ⟨y, 0, none⟩) es.length es.length, .int .u64 pc, .int .u64 ps] := by rw [hX]; exact (Bk.new _ _ _).at (by simp)
  have hb : Below w.heap.size w X := by rw [hX]; exact ((Below.refl _ w).alloc (Nat.le_refl _) _).alloc (by simp) _
  have E1 := epsL_any es x y X (hx.keep hb) (hy.keep hb) hn
  rw [hX] at r2 r3 hb E1
  clear hX
  have p0 := r2.cell (k := 0) rfl
  have q0 := r3.cell (k := 0) rfl
  go_enter Tryz.func18, Tryz.ntmps18
  go_wp2_with fail
  refine E1.mono ?_
  rintro e w1 ⟨rfl, b1⟩
  replace r2 := r2.keep b1
  replace r3 := r3.keep b1
  replace hb := hb.trans (b1.mono hb.size)
  clear E1 b1 p0 q0
  have p0 := r2.cell (k := 1) rfl
  have p1 := r2.cell (k := 2) rfl
  have q0 := r3.cell (k := 1) rfl
  have q1 := r3.cell (k := 2) rfl
  go_wp2_with fail
  refine (E2 _).mono ?_
  rintro e w2 ⟨rfl, b1⟩
  replace hb := hb.trans (b1.mono hb.size)
  clear E2 b1 p0 p1 q0 q1
  go_wp2
  go_ret
  exact ⟨rfl, hb⟩
end Go.Proofs.YtjmhmajfkdglnaaGreatDoor
namespace Go.Proofs.YtjmhmajfkdglnaaGreatDoor
open Go.RowKit
section
variable {A : Act} {w : World} {dst : Option Tmp} {ty : TypeId} {ps : String} {af : Array Edge} {gd : Option (Nat × Bool)} {x y : Operand} {b i : Nat}
theorem ld_lev {v0 v1 v2 : Value} (hx : A.eval x = .pointer (some ⟨b, i, none⟩)) (h0 : w.cell? ⟨b, i, none⟩ = some v0) (h1 : w.cell? ⟨b, i + 1, none⟩ = some v1) (h2 : w.cell? ⟨b, i + 2, none⟩ = some v2) :
    Does Tryz.prog { dst := dst, op := .load 53 x, type := ty, pos := ps, after := af, guard := gd } A w fun v' w' => v' = .agg #[v0, v1, v2] ∧ Below w.heap.size w w' := by
  have h : (execOp A.eval { dst := dst, op := .load 53 x, type := ty, pos := ps, after := af, guard := gd }).run Tryz.prog w = .ok (.value (.agg #[v0, v1, v2])) w := by generalize A.eval = ev at *; simp [execOp, hx, h0, h1, h2, go_sem]
  exact does_value h ⟨rfl, Below.refl _ _⟩
theorem ld_lbl {v0 v1 v2 v3 v4 v5 : Value} (hx : A.eval x = .pointer (some ⟨b, i, none⟩)) (h0 : w.cell? ⟨b, i, none⟩ = some v0) (h1 : w.cell? ⟨b, i + 1, none⟩ = some v1) (h2 : w.cell? ⟨b, i + 2, none⟩ = some v2) (h3 : w.cell? ⟨b, i + 3, none⟩ = some v3) (h4 : w.cell? ⟨b, i + 4, none⟩ = some v4) (h5 : w.cell? ⟨b, i + 5, none⟩ = some v5) :
    Does Tryz.prog { dst := dst, op := .load 55 x, type := ty, pos := ps, after := af, guard := gd } A w fun v' w' => v' = .agg #[v0, v1, v2, v3, v4, v5] ∧ Below w.heap.size w w' := by
  have h : (execOp A.eval { dst := dst, op := .load 55 x, type := ty, pos := ps, after := af, guard := gd }).run Tryz.prog w = .ok (.value (.agg #[v0, v1, v2, v3, v4, v5])) w := by generalize A.eval = ev at *; simp [execOp, hx, h0, h1, h2, h3, h4, h5, go_sem]
  exact does_value h ⟨rfl, Below.refl _ _⟩
end
theorem cf_laws_toEvaluated (args : Array Value) (w : World) : (callFunc 25 args).run Tryz.prog w = .ok (.enter 25 args) w := by kernel_rfl
theorem cf_laws_toBlinded (args : Array Value) (w : World) : (callFunc 26 args).run Tryz.prog w = .ok (.enter 26 args) w := by kernel_rfl
theorem cf_laws_eqEvaluated (args : Array Value) (w : World) : (callFunc 18 args).run Tryz.prog w = .ok (.enter 18 args) w := by kernel_rfl
theorem cf_spec_Finalize (args : Array Value) (w : World) : (callFunc 24 args).run Tryz.prog w = .ok (.enter 24 args) w := by kernel_rfl
theorem cf_impl_Finalize (args : Array Value) (w : World) : (callFunc 27 args).run Tryz.prog w = .ok (.enter 27 args) w := by kernel_rfl
end Go.Proofs.YtjmhmajfkdglnaaGreatDoor
namespace Go.Proofs.YtjmhmajfkdglnaaGreatDoor
open Go.RowKit M
namespace finalize
theorem walk_of (mode blind pc ps x1 y1 x2 y2 x3 y3 cd : Int) (c1 c2 c3 : Bool) (input info o : ByteArray) (a : Option Addr) (n cap : Nat) (es : List Tri) (w : World) (hi1 : input.size ≤ maxLen) (hi2 : info.size ≤ maxLen) (hA : Ars w (.slice a n cap) es) (hnl : n ≤ maxLen)
    (L : ∀ w g, Mad g es w → Calls Tryz.prog 24 #[.int .i64 mode, .string input, .string info, .int .u64 blind, evN es.length pc ps g, .agg #[.int .u64 x1, .int .u64 y1, .bool c1, .int .u64 x2, .int .u64 y2, .bool c2], .agg #[.int .u64 x3, .int .u64 y3, .bool c3]] w fun e w' => e = .returned (.tuple #[.string o, .int .i64 cd]) ∧ Below w.heap.size w w')
    (M : ∀ w', Below w.heap.size w w' → ∀ g, Mad g es w' → Calls Tryz.prog 27 #[.int .i64 mode, .string input, .string info, .int .u64 blind, evN es.length pc ps g, .agg #[.int .u64 x1, .int .u64 y1, .bool c1, .int .u64 x2, .int .u64 y2, .bool c2], .agg #[.int .u64 x3, .int .u64 y3, .bool c3]] w' fun e w'' => e = .returned (.tuple #[.string o, .int .i64 cd]) ∧ Below w'.heap.size w' w'') :
    Calls Tryz.prog 6 #[.int .i64 mode, .string input, .string info, .int .u64 blind, .agg #[.slice a n cap, .int .u64 pc, .int .u64 ps], .agg #[.int .u64 x1, .int .u64 y1, .bool c1, .int .u64 x2, .int .u64 y2, .bool c2], .agg #[.int .u64 x3, .int .u64 y3, .bool c3]] w fun e w' => e = .returned (.bool true) ∧ Below w.heap.size w w' := by
  obtain ⟨X, hX⟩ : ∃ X, X = ((w.alloc (Obj.cells #[.slice a n cap, .int .u64 pc, .int .u64 ps] 53)).alloc (Obj.cells #[.int .u64 x1, .int .u64 y1, .bool c1, .int .u64 x2, .int .u64 y2, .bool c2] 55)).alloc (Obj.cells #[.int .u64 x3, .int .u64 y3, .bool c3] 27) := ⟨_, rfl⟩
  have rE : Bk X 53 w.heap.size #[.slice a n cap, .int .u64 pc, .int .u64 ps] := by rw [hX]; exact ((Bk.new _ _ _).alloc _).alloc _
  have rB : Bk X 55 (w.heap.size + 1) #[.int .u64 x1, .int .u64 y1, .bool c1, .int .u64 x2, .int .u64 y2, .bool c2] := by rw [hX]; exact ((Bk.new _ _ _).at (by simp)).alloc _
  have rP : Bk X 27 (w.heap.size + 1 + 1) #[.int .u64 x3, .int .u64 y3, .bool c3] := by rw [hX]; exact (Bk.new _ _ _).at (by simp)
  have hb : Below w.heap.size w X := by rw [hX]; exact (((Below.refl _ w).alloc (Nat.le_refl _) _).alloc (by simp) _).alloc (by simp; omega) _
  rw [hX] at rE rB rP hb
  clear hX
  have hl := hA
  obtain ⟨_, _, _, e1, hl, -⟩ := hl
  cases e1
  by_cases g1 : (1048576 : Int) < (input.size : Int)
  · go_enter Tryz.func6, Tryz.ntmps6
    go_wp2
    go_ret
    exact ⟨rfl, hb⟩
  by_cases g2 : (1048576 : Int) < (info.size : Int)
  · go_enter Tryz.func6, Tryz.ntmps6
    go_wp2
    go_ret
    exact ⟨rfl, hb⟩
  have p0 := rE.cell (k := 0) rfl
  have p1 := rE.cell (k := 1) rfl
  have p2 := rE.cell (k := 2) rfl
  by_cases g3 : (1048576 : Int) < (n : Int)
  · have S := fun w => szE_no a n cap pc ps 1048576 w g3 (by omega) (by omega) hnl
    go_enter Tryz.func6, Tryz.ntmps6
    go_wp2_with fail
    refine (S _).mono ?_
    rintro e w1 ⟨rfl, b1⟩
    replace hb := hb.trans (b1.mono hb.size)
    clear S b1 p0 p1 p2
    go_wp2
    go_ret
    exact ⟨rfl, hb⟩
  have hn : es.length ≤ 1048576 := by omega
  clear hl
  have S := fun w => szE_yes a n cap pc ps 1048576 w (by omega) (by omega)
  have g4 : ¬ (1048576 - (n : Int)) < 0 := by omega
  have TE := fun w' (h : Below w.heap.size w w') => tevL a n cap pc ps es w' (hA.keep h) hn
  go_enter Tryz.func6, Tryz.ntmps6
  go_wp2_with fail
  refine (S _).mono ?_
  rintro e w1 ⟨rfl, b1⟩
  replace rE := rE.keep b1
  replace rB := rB.keep b1
  replace rP := rP.keep b1
  replace hb := hb.trans (b1.mono hb.size)
  clear S b1 p0 p1 p2
  go_wp2
  clear g1 g2 g3 g4
  have d0 : w1.drew.cell? ⟨w.heap.size, 0, none⟩ = _ := rE.cell (k := 0) rfl
  have d1 : w1.drew.cell? ⟨w.heap.size, 1, none⟩ = _ := rE.cell (k := 1) rfl
  have d2 : w1.drew.cell? ⟨w.heap.size, 2, none⟩ = _ := rE.cell (k := 2) rfl
  have q0 : w1.drew.cell? ⟨w.heap.size + 1, 0, none⟩ = _ := rB.cell (k := 0) rfl
  have q1 : w1.drew.cell? ⟨w.heap.size + 1, 1, none⟩ = _ := rB.cell (k := 1) rfl
  have q2 : w1.drew.cell? ⟨w.heap.size + 1, 2, none⟩ = _ := rB.cell (k := 2) rfl
  have q3 : w1.drew.cell? ⟨w.heap.size + 1, 3, none⟩ = _ := rB.cell (k := 3) rfl
  have q4 : w1.drew.cell? ⟨w.heap.size + 1, 4, none⟩ = _ := rB.cell (k := 4) rfl
  have q5 : w1.drew.cell? ⟨w.heap.size + 1, 5, none⟩ = _ := rB.cell (k := 5) rfl
  have m0 : w1.drew.cell? ⟨w.heap.size + 1 + 1, 0, none⟩ = _ := rP.cell (k := 0) rfl
  have m1 : w1.drew.cell? ⟨w.heap.size + 1 + 1, 1, none⟩ = _ := rP.cell (k := 1) rfl
  have m2 : w1.drew.cell? ⟨w.heap.size + 1 + 1, 2, none⟩ = _ := rP.cell (k := 2) rfl
  have TE' : ∀ w', G.Sides [] w1.drew w' → _ := fun w' h => TE w' (hb.drew.trans (h.below.mono hb.size))
  refine G.pool_list (W := w1) [] [.val (.int .i64 mode),
      .val (.string input),
      .val (.string info),
      .val (.int .u64 blind),
      .val (.agg #[.slice a n cap, .int .u64 pc, .int .u64 ps]),
      .got (evN es.length pc ps) (fun x w' => Mad x es w'),
      .val (.agg #[.int .u64 x1, .int .u64 y1, .bool c1, .int .u64 x2, .int .u64 y2, .bool c2]),
      .val (.agg #[.int .u64 x1, .int .u64 y1, .bool c1, .int .u64 x2, .int .u64 y2, .bool c2]),
      .val (.agg #[.int .u64 x3, .int .u64 y3, .bool c3]),
      .val (.agg #[.int .u64 x3, .int .u64 y3, .bool c3]),
      .val (.tuple #[.string o, .int .i64 cd]),
      .val (.tuple #[.string o, .int .i64 cd]),
      .val (.string o),
      .val (.int .i64 cd),
      .val (.string o),
      .val (.int .i64 cd)] [[0], [1], [2], [3], [11], [37], [12], [39], [13], [41], [33, 34, 35, 36, 38, 40, 42], [43], [32], [32], [44], [45]] (fun f => [(some 33, .int .i64 mode), (some 34, .string input), (some 35, .string info), (some 36, .int .u64 blind), (some 37, .agg #[.slice a n cap, .int .u64 pc, .int .u64 ps]), (some 38, evN es.length pc ps (f 5)), (some 39, .agg #[.int .u64 x1, .int .u64 y1, .bool c1, .int .u64 x2, .int .u64 y2, .bool c2]), (some 40, .agg #[.int .u64 x1, .int .u64 y1, .bool c1, .int .u64 x2, .int .u64 y2, .bool c2]), (some 41, .agg #[.int .u64 x3, .int .u64 y3, .bool c3]), (some 42, .agg #[.int .u64 x3, .int .u64 y3, .bool c3]), (some 43, .tuple #[.string o, .int .i64 cd]), (some 32, .tuple #[.string o, .int .i64 cd]), (some 44, .string o), (some 45, .int .i64 cd), (some 16, .string o), (some 17, .int .i64 cd)]) (by kernel_rfl) (by kernel_rfl) (by kernel_rfl) (by kernel_rfl) (fun _ => by kernel_rfl) (G.last_of [] (fun F R hm => by simp only [List.mem_cons, List.not_mem_nil, or_false, reduceCtorEq, false_or, G.Knd.got.injEq] at hm; obtain ⟨-, rfl⟩ := hm; exact (mad_lasts _ _ (fun ob hm => by simp at hm))) (fun ob ob' k hm => by simp at hm) (fun b ob ob' hm => by simp at hm)) (fun b ob ob' hm => by simp at hm) ?_ ?_
  · intro ix hix
    match ix, hix with
    | 0, _ => exact G.ob_val [(0, .int .i64 mode)] rfl rfl (fun _ => by kernel_rfl) (fun A w ⟨e0, _⟩ hB => doV_move e0)
    | 1, _ => exact G.ob_val [(1, .string input)] rfl rfl (fun _ => by kernel_rfl) (fun A w ⟨e0, _⟩ hB => doV_move e0)
    | 2, _ => exact G.ob_val [(2, .string info)] rfl rfl (fun _ => by kernel_rfl) (fun A w ⟨e0, _⟩ hB => doV_move e0)
    | 3, _ => exact G.ob_val [(3, .int .u64 blind)] rfl rfl (fun _ => by kernel_rfl) (fun A w ⟨e0, _⟩ hB => doV_move e0)
    | 4, _ => exact G.ob_val [(11, .pointer (some ⟨w.heap.size, 0, none⟩))] rfl rfl (fun _ => by kernel_rfl) (fun A w ⟨e0, _⟩ hB => ld_lev e0 (hB.cell d0 (by simp)) (hB.cell d1 (by simp)) (hB.cell d2 (by simp)))
    | 5, _ => exact G.ob_got (fun f => [(37, .agg #[.slice a n cap, .int .u64 pc, .int .u64 ps])]) rfl rfl (fun _ => by kernel_rfl) (fun f A w ⟨e0, _⟩ hB hh => cg1 cf_laws_toEvaluated e0 (TE' w hB))
    | 6, _ => exact G.ob_val [(12, .pointer (some ⟨w.heap.size + 1, 0, none⟩))] rfl rfl (fun _ => by kernel_rfl) (fun A w ⟨e0, _⟩ hB => ld_lbl e0 (hB.cell q0 (by simp)) (hB.cell q1 (by simp)) (hB.cell q2 (by simp)) (hB.cell q3 (by simp)) (hB.cell q4 (by simp)) (hB.cell q5 (by simp)))
    | 7, _ => exact G.ob_val [(39, .agg #[.int .u64 x1, .int .u64 y1, .bool c1, .int .u64 x2, .int .u64 y2, .bool c2])] rfl rfl (fun _ => by kernel_rfl) (fun A w ⟨e0, _⟩ hB => cl1 cf_laws_toBlinded e0 (tblL _ _ _ _ _ _ w))
    | 8, _ => exact G.ob_val [(13, .pointer (some ⟨w.heap.size + 1 + 1, 0, none⟩))] rfl rfl (fun _ => by kernel_rfl) (fun A w ⟨e0, _⟩ hB => ld_lpt e0 (hB.cell m0 (by simp)) (hB.cell m1 (by simp)) (hB.cell m2 (by simp)))
    | 9, _ => exact G.ob_val [(41, .agg #[.int .u64 x3, .int .u64 y3, .bool c3])] rfl rfl (fun _ => by kernel_rfl) (fun A w ⟨e0, _⟩ hB => cl1 cf_laws_toPoint e0 (toP5 _ _ _ w))
    | 10, _ => exact G.ob_had (fun f => [(33, .int .i64 mode), (34, .string input), (35, .string info), (36, .int .u64 blind), (38, evN es.length pc ps (f 5)), (40, .agg #[.int .u64 x1, .int .u64 y1, .bool c1, .int .u64 x2, .int .u64 y2, .bool c2]), (42, .agg #[.int .u64 x3, .int .u64 y3, .bool c3])]) rfl rfl (fun _ => by kernel_rfl) (fun f A w ⟨e0, e1, e2, e3, e4, e5, e6, _⟩ hB hh => cl7 cf_spec_Finalize e0 e1 e2 e3 e4 e5 e6 (L w _ (hh 38 (by decide) 5 rfl (by decide) _ _ rfl)))
    | 11, _ => exact G.ob_val [(43, .tuple #[.string o, .int .i64 cd])] rfl rfl (fun _ => by kernel_rfl) (fun A w ⟨e0, _⟩ hB => doV_move e0)
    | 12, _ => exact G.ob_val [(32, .tuple #[.string o, .int .i64 cd])] rfl rfl (fun _ => by kernel_rfl) (fun A w ⟨e0, _⟩ hB => xt2_0 e0)
    | 13, _ => exact G.ob_val [(32, .tuple #[.string o, .int .i64 cd])] rfl rfl (fun _ => by kernel_rfl) (fun A w ⟨e0, _⟩ hB => xt2_1 e0)
    | 14, _ => exact G.ob_val [(44, .string o)] rfl rfl (fun _ => by kernel_rfl) (fun A w ⟨e0, _⟩ hB => doV_assign e0)
    | 15, _ => exact G.ob_val [(45, .int .i64 cd)] rfl rfl (fun _ => by kernel_rfl) (fun A w ⟨e0, _⟩ hB => doV_assign e0)
    | ix + 16, h => exact absurd h (by simp)
  intro f W2 hS _ _ _ _
  have hb1 : Below w1.heap.size w1 W2 := (Below.refl _ w1).drew.trans hS.below
  replace rE := rE.keep hb1
  replace rB := rB.keep hb1
  replace rP := rP.keep hb1
  replace hb := hb.trans (hb1.mono hb.size)
  clear d0 d1 d2 q0 q1 q2 q3 q4 q5 m0 m1 m2 hS hb1 L TE'
  simp only [puts, List.foldl, Act.put, List.setIfInBounds_toArray, List.set_cons_zero, List.set_cons_succ]
  have p0 := rE.cell (k := 0) rfl
  have p1 := rE.cell (k := 1) rfl
  have p2 := rE.cell (k := 2) rfl
  go_wp2_with fail
  refine (TE _ hb).mono ?_
  rintro e w3 ⟨x, rfl, hM, b1⟩
  have hal := (Below.refl _ w3).alloc (Nat.le_refl _) (Obj.cells #[.slice (some ⟨x, 0, none⟩) es.length es.length, .int .u64 pc, .int .u64 ps] 42)
  have rX := Bk.new w3 42 #[.slice (some ⟨x, 0, none⟩) es.length es.length, .int .u64 pc, .int .u64 ps]
  replace hM := hM.keep hal
  replace rE := (rE.keep b1).keep hal
  replace rB := (rB.keep b1).keep hal
  replace rP := (rP.keep b1).keep hal
  replace hb := hb.trans (b1.mono hb.size)
  replace hb := hb.trans (hal.mono hb.size)
  clear b1 hal p0 p1 p2
  unfold evN
  go_wp2
  generalize w3.heap.size = BX at *
  generalize w3.alloc _ = W3 at *
  have d0 : W3.drew.cell? ⟨w.heap.size, 0, none⟩ = _ := rE.cell (k := 0) rfl
  have d1 : W3.drew.cell? ⟨w.heap.size, 1, none⟩ = _ := rE.cell (k := 1) rfl
  have d2 : W3.drew.cell? ⟨w.heap.size, 2, none⟩ = _ := rE.cell (k := 2) rfl
  have q0 : W3.drew.cell? ⟨w.heap.size + 1, 0, none⟩ = _ := rB.cell (k := 0) rfl
  have q1 : W3.drew.cell? ⟨w.heap.size + 1, 1, none⟩ = _ := rB.cell (k := 1) rfl
  have q2 : W3.drew.cell? ⟨w.heap.size + 1, 2, none⟩ = _ := rB.cell (k := 2) rfl
  have q3 : W3.drew.cell? ⟨w.heap.size + 1, 3, none⟩ = _ := rB.cell (k := 3) rfl
  have q4 : W3.drew.cell? ⟨w.heap.size + 1, 4, none⟩ = _ := rB.cell (k := 4) rfl
  have q5 : W3.drew.cell? ⟨w.heap.size + 1, 5, none⟩ = _ := rB.cell (k := 5) rfl
  have m0 : W3.drew.cell? ⟨w.heap.size + 1 + 1, 0, none⟩ = _ := rP.cell (k := 0) rfl
  have m1 : W3.drew.cell? ⟨w.heap.size + 1 + 1, 1, none⟩ = _ := rP.cell (k := 1) rfl
  have m2 : W3.drew.cell? ⟨w.heap.size + 1 + 1, 2, none⟩ = _ := rP.cell (k := 2) rfl
  have k0 : W3.drew.cell? ⟨BX, 0, none⟩ = _ := rX.cell (k := 0) rfl
  have k1 : W3.drew.cell? ⟨BX, 1, none⟩ = _ := rX.cell (k := 1) rfl
  have k2 : W3.drew.cell? ⟨BX, 2, none⟩ = _ := rX.cell (k := 2) rfl
  have hMd : Mad x es W3.drew := hM
  have M' : ∀ w', G.Sides [] W3.drew w' → _ := fun w' h => M w' (hb.drew.trans (h.below.mono hb.size)) x (hMd.keep h.below)
  refine G.pool_list (W := W3) [] [.val (.int .i64 mode),
      .val (.string input),
      .val (.string info),
      .val (.int .u64 blind),
      .val (.agg #[.slice (some ⟨x, 0, none⟩) es.length es.length, .int .u64 pc, .int .u64 ps]),
      .val (.agg #[.int .u64 x1, .int .u64 y1, .bool c1, .int .u64 x2, .int .u64 y2, .bool c2]),
      .val (.agg #[.int .u64 x1, .int .u64 y1, .bool c1, .int .u64 x2, .int .u64 y2, .bool c2]),
      .val (.agg #[.int .u64 x3, .int .u64 y3, .bool c3]),
      .val (.agg #[.int .u64 x3, .int .u64 y3, .bool c3]),
      .val (.tuple #[.string o, .int .i64 cd]),
      .val (.tuple #[.string o, .int .i64 cd]),
      .val (.string o),
      .val (.int .i64 cd),
      .val (.string o),
      .val (.int .i64 cd)] [[0], [1], [2], [3], [18], [12], [54], [13], [56], [49, 50, 51, 52, 53, 55, 57], [58], [48], [48], [59], [60]] (fun f => [(some 49, .int .i64 mode), (some 50, .string input), (some 51, .string info), (some 52, .int .u64 blind), (some 53, .agg #[.slice (some ⟨x, 0, none⟩) es.length es.length, .int .u64 pc, .int .u64 ps]), (some 54, .agg #[.int .u64 x1, .int .u64 y1, .bool c1, .int .u64 x2, .int .u64 y2, .bool c2]), (some 55, .agg #[.int .u64 x1, .int .u64 y1, .bool c1, .int .u64 x2, .int .u64 y2, .bool c2]), (some 56, .agg #[.int .u64 x3, .int .u64 y3, .bool c3]), (some 57, .agg #[.int .u64 x3, .int .u64 y3, .bool c3]), (some 58, .tuple #[.string o, .int .i64 cd]), (some 48, .tuple #[.string o, .int .i64 cd]), (some 59, .string o), (some 60, .int .i64 cd), (some 19, .string o), (some 20, .int .i64 cd)]) (by kernel_rfl) (by kernel_rfl) (by kernel_rfl) (by kernel_rfl) (fun _ => by kernel_rfl) (G.last_of [] (fun F R hm => by simp at hm) (fun ob ob' k hm => by simp at hm) (fun b ob ob' hm => by simp at hm)) (fun b ob ob' hm => by simp at hm) ?_ ?_
  · intro ix hix
    match ix, hix with
    | 0, _ => exact G.ob_val [(0, .int .i64 mode)] rfl rfl (fun _ => by kernel_rfl) (fun A w ⟨e0, _⟩ hB => doV_move e0)
    | 1, _ => exact G.ob_val [(1, .string input)] rfl rfl (fun _ => by kernel_rfl) (fun A w ⟨e0, _⟩ hB => doV_move e0)
    | 2, _ => exact G.ob_val [(2, .string info)] rfl rfl (fun _ => by kernel_rfl) (fun A w ⟨e0, _⟩ hB => doV_move e0)
    | 3, _ => exact G.ob_val [(3, .int .u64 blind)] rfl rfl (fun _ => by kernel_rfl) (fun A w ⟨e0, _⟩ hB => doV_move e0)
    | 4, _ => exact G.ob_val [(18, .pointer (some ⟨BX, 0, none⟩))] rfl rfl (fun _ => by kernel_rfl) (fun A w ⟨e0, _⟩ hB => ld_evd e0 (hB.cell k0 (by simp)) (hB.cell k1 (by simp)) (hB.cell k2 (by simp)))
    | 5, _ => exact G.ob_val [(12, .pointer (some ⟨w.heap.size + 1, 0, none⟩))] rfl rfl (fun _ => by kernel_rfl) (fun A w ⟨e0, _⟩ hB => ld_lbl e0 (hB.cell q0 (by simp)) (hB.cell q1 (by simp)) (hB.cell q2 (by simp)) (hB.cell q3 (by simp)) (hB.cell q4 (by simp)) (hB.cell q5 (by simp)))
    | 6, _ => exact G.ob_val [(54, .agg #[.int .u64 x1, .int .u64 y1, .bool c1, .int .u64 x2, .int .u64 y2, .bool c2])] rfl rfl (fun _ => by kernel_rfl) (fun A w ⟨e0, _⟩ hB => cl1 cf_laws_toBlinded e0 (tblL _ _ _ _ _ _ w))
    | 7, _ => exact G.ob_val [(13, .pointer (some ⟨w.heap.size + 1 + 1, 0, none⟩))] rfl rfl (fun _ => by kernel_rfl) (fun A w ⟨e0, _⟩ hB => ld_lpt e0 (hB.cell m0 (by simp)) (hB.cell m1 (by simp)) (hB.cell m2 (by simp)))
    | 8, _ => exact G.ob_val [(56, .agg #[.int .u64 x3, .int .u64 y3, .bool c3])] rfl rfl (fun _ => by kernel_rfl) (fun A w ⟨e0, _⟩ hB => cl1 cf_laws_toPoint e0 (toP5 _ _ _ w))
    | 9, _ => exact G.ob_val [(49, .int .i64 mode), (50, .string input), (51, .string info), (52, .int .u64 blind), (53, .agg #[.slice (some ⟨x, 0, none⟩) es.length es.length, .int .u64 pc, .int .u64 ps]), (55, .agg #[.int .u64 x1, .int .u64 y1, .bool c1, .int .u64 x2, .int .u64 y2, .bool c2]), (57, .agg #[.int .u64 x3, .int .u64 y3, .bool c3])] rfl rfl (fun _ => by kernel_rfl) (fun A w ⟨e0, e1, e2, e3, e4, e5, e6, _⟩ hB => cl7 cf_impl_Finalize e0 e1 e2 e3 e4 e5 e6 (M' w hB))
    | 10, _ => exact G.ob_val [(58, .tuple #[.string o, .int .i64 cd])] rfl rfl (fun _ => by kernel_rfl) (fun A w ⟨e0, _⟩ hB => doV_move e0)
    | 11, _ => exact G.ob_val [(48, .tuple #[.string o, .int .i64 cd])] rfl rfl (fun _ => by kernel_rfl) (fun A w ⟨e0, _⟩ hB => xt2_0 e0)
    | 12, _ => exact G.ob_val [(48, .tuple #[.string o, .int .i64 cd])] rfl rfl (fun _ => by kernel_rfl) (fun A w ⟨e0, _⟩ hB => xt2_1 e0)
    | 13, _ => exact G.ob_val [(59, .string o)] rfl rfl (fun _ => by kernel_rfl) (fun A w ⟨e0, _⟩ hB => doV_assign e0)
    | 14, _ => exact G.ob_val [(60, .int .i64 cd)] rfl rfl (fun _ => by kernel_rfl) (fun A w ⟨e0, _⟩ hB => doV_assign e0)
    | ix + 15, h => exact absurd h (by simp)
  intro f W4 hS _ _ _ _
  have hb1 : Below W3.heap.size W3 W4 := (Below.refl _ W3).drew.trans hS.below
  replace hM := hM.keep hb1
  replace rE := rE.keep hb1
  replace rX := rX.keep hb1
  replace hb := hb.trans (hb1.mono hb.size)
  clear d0 d1 d2 q0 q1 q2 q3 q4 q5 m0 m1 m2 k0 k1 k2 hS hb1 M M' hMd rB rP
  simp only [puts, List.foldl, Act.put, List.setIfInBounds_toArray, List.set_cons_zero, List.set_cons_succ]
  go_wp2
  have d0 : W4.drew.cell? ⟨w.heap.size, 0, none⟩ = _ := rE.cell (k := 0) rfl
  have d1 : W4.drew.cell? ⟨w.heap.size, 1, none⟩ = _ := rE.cell (k := 1) rfl
  have d2 : W4.drew.cell? ⟨w.heap.size, 2, none⟩ = _ := rE.cell (k := 2) rfl
  have k0 : W4.drew.cell? ⟨BX, 0, none⟩ = _ := rX.cell (k := 0) rfl
  have k1 : W4.drew.cell? ⟨BX, 1, none⟩ = _ := rX.cell (k := 1) rfl
  have k2 : W4.drew.cell? ⟨BX, 2, none⟩ = _ := rX.cell (k := 2) rfl
  have hMd : Mad x es W4.drew := hM
  have TE' : ∀ w', G.Sides [] W4.drew w' → _ := fun w' h => TE w' (hb.drew.trans (h.below.mono hb.size))
  have EQ : ∀ w' y, G.Sides [] W4.drew w' → Mad y es w' → _ := fun w' y h hy => eqE es x y pc ps w' (hMd.keep h.below) hy hn
  refine G.pool_list (W := W4) [] [.val (.agg #[.slice (some ⟨x, 0, none⟩) es.length es.length, .int .u64 pc, .int .u64 ps]),
      .val (.agg #[.slice a n cap, .int .u64 pc, .int .u64 ps]),
      .got (evN es.length pc ps) (fun x w' => Mad x es w'),
      .val (.bool true),
      .val (.bool false)] [[18], [11], [70], [69, 71], [72]] (fun f => [(some 69, .agg #[.slice (some ⟨x, 0, none⟩) es.length es.length, .int .u64 pc, .int .u64 ps]), (some 70, .agg #[.slice a n cap, .int .u64 pc, .int .u64 ps]), (some 71, evN es.length pc ps (f 2)), (some 72, .bool true), (some 73, .bool false)]) (by kernel_rfl) (by kernel_rfl) (by kernel_rfl) (by kernel_rfl) (fun _ => by kernel_rfl) (G.last_of [] (fun F R hm => by simp only [List.mem_cons, List.not_mem_nil, or_false, reduceCtorEq, false_or, G.Knd.got.injEq] at hm; obtain ⟨-, rfl⟩ := hm; exact (mad_lasts _ _ (fun ob hm => by simp at hm))) (fun ob ob' k hm => by simp at hm) (fun b ob ob' hm => by simp at hm)) (fun b ob ob' hm => by simp at hm) ?_ ?_
  · intro ix hix
    match ix, hix with
    | 0, _ => exact G.ob_val [(18, .pointer (some ⟨BX, 0, none⟩))] rfl rfl (fun _ => by kernel_rfl) (fun A w ⟨e0, _⟩ hB => ld_evd e0 (hB.cell k0 (by simp)) (hB.cell k1 (by simp)) (hB.cell k2 (by simp)))
    | 1, _ => exact G.ob_val [(11, .pointer (some ⟨w.heap.size, 0, none⟩))] rfl rfl (fun _ => by kernel_rfl) (fun A w ⟨e0, _⟩ hB => ld_lev e0 (hB.cell d0 (by simp)) (hB.cell d1 (by simp)) (hB.cell d2 (by simp)))
    | 2, _ => exact G.ob_got (fun f => [(70, .agg #[.slice a n cap, .int .u64 pc, .int .u64 ps])]) rfl rfl (fun _ => by kernel_rfl) (fun f A w ⟨e0, _⟩ hB hh => cg1 cf_laws_toEvaluated e0 (TE' w hB))
    | 3, _ => exact G.ob_had (fun f => [(69, .agg #[.slice (some ⟨x, 0, none⟩) es.length es.length, .int .u64 pc, .int .u64 ps]), (71, evN es.length pc ps (f 2))]) rfl rfl (fun _ => by kernel_rfl) (fun f A w ⟨e0, e1, _⟩ hB hh => cl2 cf_laws_eqEvaluated e0 e1 (EQ w _ hB (hh 71 (by decide) 2 rfl (by decide) _ _ rfl)))
    | 4, _ => exact G.ob_val [(72, .bool true)] rfl rfl (fun _ => by kernel_rfl) (fun A w ⟨e0, _⟩ hB => Z.notT e0)
    | ix + 5, h => exact absurd h (by simp)
  intro f W5 hS _ _ _ _
  replace hb := hb.drew.trans (hS.below.mono hb.size)
  clear d0 d1 d2 k0 k1 k2 hS TE TE' EQ hMd
  simp only [puts, List.foldl, Act.put, List.setIfInBounds_toArray, List.set_cons_zero, List.set_cons_succ]
  go_wp2
  go_ret
  exact ⟨rfl, hb⟩
theorem walk (a0 : Int) (a1 a2 : ByteArray) (b3 : Nat) (a4 : Option Addr) (len4 cap4 x4 y4 : Nat) (t5 t5' : Tri) (x6 y6 : Nat) (c6 : Bool) (w : World) (h1 : a1.size ≤ maxLen) (h2 : a2.size ≤ maxLen) (h3 : b3 < 18446744073709551616) (h4 : ∃ es : List Tri, Ars w (.slice a4 len4 cap4) es ∧ es.length ≤ maxLen) (hT : TabK w) (hS : ∃ s0 s1 s2 s3, Sn w s0 s1 s2 s3) :
    Calls Tryz.prog 6 #[.int .i64 a0, .string a1, .string a2, .int .u64 b3, .agg #[.slice a4 len4 cap4, .int .u64 x4, .int .u64 y4], .agg #[.int .u64 (t5.1 : Int), .int .u64 (t5.2.1 : Int), .bool t5.2.2, .int .u64 (t5'.1 : Int), .int .u64 (t5'.2.1 : Int), .bool t5'.2.2], .agg #[.int .u64 x6, .int .u64 y6, .bool c6]] w fun e w' => e = .returned (.bool true) ∧ Below w.heap.size w w' := by
  obtain ⟨s0, s1, s2, s3, hs⟩ := hS
  obtain ⟨es, hA, hml⟩ := h4
  have hl := hA
  obtain ⟨_, _, _, e1, hl, -⟩ := hl
  cases e1
  exact walk_of a0 b3 x4 y4 _ _ _ _ _ _ _ _ _ _ a1 a2 _ a4 len4 cap4 es w h1 h2 hA (by omega)
    (fun w g m => finS_any a0 a1 a2 b3 es x4 y4 t5 t5' (x6, y6, c6) g es.length w m.pts)
    (fun w' hb g m => finI_any a0 a1 a2 b3 es x4 y4 t5 t5' (x6, y6, c6) g es.length s0 s1 s2 s3 w' (keepT hT (World.block_lt_of_cell? w _ (hT 0 (by omega))) hb) (hs.keep hb) m.pts)
end finalize
end Go.Proofs.YtjmhmajfkdglnaaGreatDoor
