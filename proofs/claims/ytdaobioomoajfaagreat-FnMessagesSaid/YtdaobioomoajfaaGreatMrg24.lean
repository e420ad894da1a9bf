import Derived.Test.YtdaobioomoajfaaGreatMrg20
import Derived.Test.YtdaobioomoajfaaGreatMrg23
import Derived.Test.YtdaobioomoajfaaGreatMrg1
import Derived.Test.YtdaobioomoajfaaGreatMrg9
import Derived.Test.YtdaobioomoajfaaGreatMrg22
set_option linter.unusedVariables false
set_option maxRecDepth 100000
set_option maxHeartbeats 16000000
namespace Go.Proofs.YtdaobioomoajfaaGreat.X
open Go.RowKit
section
variable {A : Act} {w : World} {dst : Option Tmp} {ty : TypeId} {ps : String} {af : Array Edge} {gd : Option (Nat × Bool)} {x y z : Operand} {b i : Nat}
theorem add {k c d : Int} (hx : A.eval x = .int .i64 k) (hy : A.eval y = .int .i64 c) (hw : IntKind.i64.wrap (k + c) = d) : Does Tryz.prog { dst := dst, op := .binOp .add 3 x y 3, type := ty, pos := ps, after := af, guard := gd } A w fun v' w' => v' = .int .i64 d ∧ Below w.heap.size w w' := by
  have h : (execOp A.eval { dst := dst, op := .binOp .add 3 x y 3, type := ty, pos := ps, after := af, guard := gd }).run Tryz.prog w = .ok (.value (.int .i64 d)) w := by generalize A.eval = ev at *; simp [execOp, hx, hy, hw, go_sem]
  exact does_value h ⟨rfl, Below.refl _ _⟩
theorem rem {k c d : Int} (hx : A.eval x = .int .i64 k) (hy : A.eval y = .int .i64 c) (h0 : ¬ c = 0) (hw : k.tmod c = d) : Does Tryz.prog { dst := dst, op := .binOp .rem 3 x y 3, type := ty, pos := ps, after := af, guard := gd } A w fun v' w' => v' = .int .i64 d ∧ Below w.heap.size w w' := by
  have h : (execOp A.eval { dst := dst, op := .binOp .rem 3 x y 3, type := ty, pos := ps, after := af, guard := gd }).run Tryz.prog w = .ok (.value (.int .i64 d)) w := by generalize A.eval = ev at *; simp [execOp, hx, hy, h0, hw, go_sem]
  exact does_value h ⟨rfl, Below.refl _ _⟩
theorem slP {s t : ByteArray} {k : Nat} (hx : A.eval x = .string s) (hy : A.eval y = .int .i64 (k : Int)) (hk : k ≤ s.size) (ht : s.extract 0 k = t) : Does Tryz.prog { dst := dst, op := .slice 9 x none (some y) none, type := ty, pos := ps, after := af, guard := gd } A w fun v' w' => v' = .string t ∧ Below w.heap.size w w' := by
  have h : (execOp A.eval { dst := dst, op := .slice 9 x none (some y) none, type := ty, pos := ps, after := af, guard := gd }).run Tryz.prog w = .ok (.value (.string (s.extract 0 k))) w := by generalize A.eval = ev at *; simp [execOp, hx, hy, Instr.slice, Instr.sliceBounds, Instr.sliceBound, hk, go_sem]
  exact does_value h ⟨congrArg _ ht, Below.refl _ _⟩
theorem slT {s t : ByteArray} {k : Nat} (hx : A.eval x = .string s) (hy : A.eval y = .int .i64 (k : Int)) (hk : k ≤ s.size) (ht : s.extract k s.size = t) : Does Tryz.prog { dst := dst, op := .slice 9 x (some y) none none, type := ty, pos := ps, after := af, guard := gd } A w fun v' w' => v' = .string t ∧ Below w.heap.size w w' := by
  have h : (execOp A.eval { dst := dst, op := .slice 9 x (some y) none none, type := ty, pos := ps, after := af, guard := gd }).run Tryz.prog w = .ok (.value (.string (s.extract k s.size))) w := by generalize A.eval = ev at *; simp [execOp, hx, hy, Instr.slice, Instr.sliceBounds, Instr.sliceBound, hk, go_sem]
  exact does_value h ⟨congrArg _ ht, Below.refl _ _⟩
theorem slM {s t : ByteArray} {j k : Nat} (hx : A.eval x = .string s) (hy : A.eval y = .int .i64 (j : Int)) (hz : A.eval z = .int .i64 (k : Int)) (hj : j ≤ k) (hk : k ≤ s.size) (ht : s.extract j k = t) : Does Tryz.prog { dst := dst, op := .slice 9 x (some y) (some z) none, type := ty, pos := ps, after := af, guard := gd } A w fun v' w' => v' = .string t ∧ Below w.heap.size w w' := by
  have h : (execOp A.eval { dst := dst, op := .slice 9 x (some y) (some z) none, type := ty, pos := ps, after := af, guard := gd }).run Tryz.prog w = .ok (.value (.string (s.extract j k))) w := by generalize A.eval = ev at *; simp [execOp, hx, hy, hz, Instr.slice, Instr.sliceBounds, Instr.sliceBound, hk, hj, go_sem]
  exact does_value h ⟨congrArg _ ht, Below.refl _ _⟩
theorem eqB {k c : Int} (hx : A.eval x = .int .u8 k) (hy : A.eval y = .int .u8 c) : Does Tryz.prog { dst := dst, op := .binOp .eql 5 x y 5, type := ty, pos := ps, after := af, guard := gd } A w fun v' w' => v' = .bool (k == c) ∧ Below w.heap.size w w' := by
  have h : (execOp A.eval { dst := dst, op := .binOp .eql 5 x y 5, type := ty, pos := ps, after := af, guard := gd }).run Tryz.prog w = .ok (.value (.bool (k == c))) w := by generalize A.eval = ev at *; simp [execOp, hx, hy, go_sem]
  exact does_value h ⟨rfl, Below.refl _ _⟩
theorem alM : Does Tryz.prog { dst := dst, op := .alloc 27, type := ty, pos := ps, after := af, guard := gd } A w fun v w' => v = .pointer (some ⟨w.heap.size, 0, none⟩) ∧ w' = w.alloc (.cells #[.int .i64 0, .string ⟨#[]⟩, .int .u64 0, .int .u64 0, .bool false, .int .u64 0, .int .u64 0, .bool false, .string ⟨#[]⟩, .string ⟨#[]⟩, .string ⟨#[]⟩, .int .i64 0] 27) := by
  have h : (execOp A.eval { dst := dst, op := .alloc 27, type := ty, pos := ps, after := af, guard := gd }).run Tryz.prog w = .ok (.value (.pointer (some ⟨w.heap.size, 0, none⟩))) (w.alloc (.cells #[.int .i64 0, .string ⟨#[]⟩, .int .u64 0, .int .u64 0, .bool false, .int .u64 0, .int .u64 0, .bool false, .string ⟨#[]⟩, .string ⟨#[]⟩, .string ⟨#[]⟩, .int .i64 0] 27)) := by simp [execOp, go_sem]
  exact does_value h ⟨rfl, rfl⟩
theorem bM {x0 x1 x2 x3 x4 x5 x6 x7 : Operand} {k0 k7 : Int} {u1 u4 u5 u6 : ByteArray} {a0 a1 a2 b0 b1 b2 : Value} (h0 : A.eval x0 = .int .i64 k0) (h1 : A.eval x1 = .string u1) (h2 : A.eval x2 = .agg #[a0, a1, a2]) (h3 : A.eval x3 = .agg #[b0, b1, b2]) (h4 : A.eval x4 = .string u4) (h5 : A.eval x5 = .string u5) (h6 : A.eval x6 = .string u6) (h7 : A.eval x7 = .int .i64 k7) :
    Does Tryz.prog { dst := dst, op := .build 27 #[(0, x0), (1, x1), (2, x2), (3, x3), (4, x4), (5, x5), (6, x6), (7, x7)], type := ty, pos := ps, after := af, guard := gd } A w fun v' w' => v' = .agg #[.int .i64 k0, .string u1, a0, a1, a2, b0, b1, b2, .string u4, .string u5, .string u6, .int .i64 k7] ∧ Below w.heap.size w w' := by
  have h : (execOp A.eval { dst := dst, op := .build 27 #[(0, x0), (1, x1), (2, x2), (3, x3), (4, x4), (5, x5), (6, x6), (7, x7)], type := ty, pos := ps, after := af, guard := gd }).run Tryz.prog w = .ok (.value (.agg #[.int .i64 k0, .string u1, a0, a1, a2, b0, b1, b2, .string u4, .string u5, .string u6, .int .i64 k7])) w := by
    generalize A.eval = ev at *
    simp [execOp, h0, h1, h2, h3, h4, h5, h6, h7, go_sem]
  exact does_value h ⟨rfl, Below.refl _ _⟩
end
end Go.Proofs.YtdaobioomoajfaaGreat.X
namespace Go.Proofs.YtdaobioomoajfaaGreat
open Go.RowKit M
structure Dm (n : Nat) (m : Msg) : Prop where
  k0 : -1 ≤ m.kind
  k1 : m.kind ≤ 62
  c0 : -1 ≤ m.code
  c1 : m.code ≤ 8
  us : m.user.size ≤ 40
  no : m.nonce.size ≤ n
  bo : m.box.size ≤ 48
  ma : m.mac.size ≤ 32
theorem Dm.wo {n : Nat} {m : Msg} (h : Dm n m) (q : Lt) : Dm n (wo m q) := by
  cases q
  · exact ⟨h.k0, h.k1, h.c0, h.c1, Nat.zero_le _, h.no, h.bo, h.ma⟩
  · exact ⟨h.k0, h.k1, h.c0, h.c1, h.us, h.no, h.bo, h.ma⟩
  · exact ⟨h.k0, h.k1, h.c0, h.c1, h.us, h.no, h.bo, h.ma⟩
  · exact ⟨h.k0, h.k1, h.c0, h.c1, h.us, Nat.zero_le _, h.bo, h.ma⟩
  · exact ⟨h.k0, h.k1, h.c0, h.c1, h.us, h.no, Nat.zero_le _, h.ma⟩
  · exact ⟨h.k0, h.k1, h.c0, h.c1, h.us, h.no, h.bo, Nat.zero_le _⟩
  · exact ⟨h.k0, h.k1, by show (-1 : Int) ≤ 0; decide, by show (0 : Int) ≤ 8; decide, h.us, h.no, h.bo, h.ma⟩
theorem Dm.up {m : Msg} (h : Dm 17 m) : Dm 18 m := ⟨h.k0, h.k1, h.c0, h.c1, h.us, Nat.le_succ_of_le h.no, h.bo, h.ma⟩
theorem cfFl (args : Array Value) (w : World) : (callFunc 19 args).run Tryz.prog w = .ok (.enter 19 args) w := by kernel_rfl
def allL : List Lt := [.u, .e, .o, .n, .b, .m, .c]
theorem allB : ltB allL = ⟨#[117, 101, 111, 110, 98, 109, 99]⟩ := by decide
theorem bkS {W : World} {t : TypeId} {b : Nat} {cs : Array Value} (h : Bk W t b cs) (ds : List Value) (hl : ds.length = cs.size) : Bk (W.setCells b 0 ds) t b ds.toArray := by
  have := Y.setCells_all b t ds 0 W cs.toList (by unfold Bk at h; simpa using h) (by simp; omega)
  unfold Bk
  rw [this]
  simp [hl, List.drop_eq_nil_of_le]
theorem bkO {W : World} {t : TypeId} {b b' : Nat} {cs : Array Value} (h : Bk W t b cs) (hne : b ≠ b') (o : Nat) (ds : List Value) : Bk (W.setCells b' o ds) t b cs :=
  (World.heap_setCells_other W b' o ds h.lt hne).trans h
theorem mdr (v : Value) (p : Nat) (w : World) (hv : Cod w v) (hp : p ≤ 1000) :
    Calls Tryz.prog 16 #[v, .int .i64 p] w fun e w' => (∃ (m : Msg), Dm 18 m ∧ e = .returned (.tuple #[.agg (msgL m).toArray, .int .i64 ((p + 124 : Nat) : Int)])) ∧ Below w.heap.size w w' := by
  have h4 := Bk.new w 27 #[.int .i64 0, .string ⟨#[]⟩, .int .u64 0, .int .u64 0, .bool false, .int .u64 0, .int .u64 0, .bool false, .string ⟨#[]⟩, .string ⟨#[]⟩, .string ⟨#[]⟩, .int .i64 0]
  have hB := (Below.refl _ w).alloc (Nat.le_refl _) (Obj.cells #[.int .i64 0, .string ⟨#[]⟩, .int .u64 0, .int .u64 0, .bool false, .int .u64 0, .int .u64 0, .bool false, .string ⟨#[]⟩, .string ⟨#[]⟩, .string ⟨#[]⟩, .int .i64 0] 27)
  have sz : (w.alloc (Obj.cells #[.int .i64 0, .string ⟨#[]⟩, .int .u64 0, .int .u64 0, .bool false, .int .u64 0, .int .u64 0, .bool false, .string ⟨#[]⟩, .string ⟨#[]⟩, .string ⟨#[]⟩, .int .i64 0] 27)).heap.size = w.heap.size + 1 := by simp
  obtain ⟨W1, eW1⟩ : ∃ W, w.alloc (Obj.cells #[.int .i64 0, .string ⟨#[]⟩, .int .u64 0, .int .u64 0, .bool false, .int .u64 0, .int .u64 0, .bool false, .string ⟨#[]⟩, .string ⟨#[]⟩, .string ⟨#[]⟩, .int .i64 0] 27) = W := ⟨_, rfl⟩
  rw [eW1] at h4 hB sz
  obtain ⟨b4, qb4⟩ : ∃ b, w.heap.size = b := ⟨_, rfl⟩
  rw [qb4] at h4
  have hl4 : w.heap.size ≤ b4 := by omega
  have hu4 : b4 < W1.heap.size := by omega
  have T1 := take_any v p 8 W1 (hv.below hB) (by omega) (by omega) (by omega)
  go_enter Tryz.func16, Tryz.ntmps16
  go_wp2_with fail
  refine T1.mono ?_
  rintro e w1 ⟨⟨k, hk, rfl⟩, rfl⟩
  clear T1
  have T2 := take_any v (p + 1) 30 W1 (hv.below hB) (by omega) (by omega) (by omega)
  have e1 : ((p + 1 : Nat) : Int) = (p : Int) + 1 := by omega
  rw [e1] at T2
  go_wp2_with fail
  refine T2.mono ?_
  rintro e w1 ⟨⟨h, hh, rfl⟩, rfl⟩
  clear T2 e1
  have T3 := take_any v (p + 2) 9 W1 (hv.below hB) (by omega) (by omega) (by omega)
  have e1 : ((p + 2 : Nat) : Int) = (p : Int) + 1 + 1 := by omega
  rw [e1] at T3
  go_wp2_with fail
  refine T3.mono ?_
  rintro e w1 ⟨⟨c, hc, rfl⟩, rfl⟩
  clear T3 e1
  have T4 := dusr v (p + 3) W1 (hv.below hB) (by omega)
  have e1 : ((p + 3 : Nat) : Int) = (p : Int) + 1 + 1 + 1 := by omega
  rw [e1] at T4
  go_wp2_with fail
  refine T4.mono ?_
  rintro e w2 ⟨⟨u, hu1, hu2, rfl⟩, d1⟩
  replace h4 := h4.keep d1
  replace hB := hB.trans (d1.mono hB.size)
  clear T4 e1 d1
  have T5 := dany_any v (p + 3 + 1) w2 (hv.below hB) (by omega)
  go_wp2_with fail
  refine T5.mono ?_
  rintro e w3 ⟨⟨x0, y0, c0, hx0, hy0, rfl⟩, d1⟩
  replace h4 := h4.keep d1
  replace hB := hB.trans (d1.mono hB.size)
  clear T5 d1
  have h11 := Bk.new w3 25 #[.int .u64 (x0 : Int), .int .u64 (y0 : Int), .bool c0]
  replace h4 := h4.alloc (Obj.cells #[.int .u64 (x0 : Int), .int .u64 (y0 : Int), .bool c0] 25)
  replace hB := hB.alloc hB.size (Obj.cells #[.int .u64 (x0 : Int), .int .u64 (y0 : Int), .bool c0] 25)
  obtain ⟨W4, eW4⟩ : ∃ W, w3.alloc (Obj.cells #[.int .u64 (x0 : Int), .int .u64 (y0 : Int), .bool c0] 25) = W := ⟨_, rfl⟩
  rw [eW4] at h4 h11 hB
  obtain ⟨b11, qb11⟩ : ∃ b, w3.heap.size = b := ⟨_, rfl⟩
  rw [qb11] at h11
  have T6 := dany_any v (p + 3 + 1 + 12) W4 (hv.below hB) (by omega)
  go_wp2_with fail
  refine T6.mono ?_
  rintro e w5 ⟨⟨x1, y1, c1, hx1, hy1, rfl⟩, d1⟩
  replace h4 := h4.keep d1
  replace h11 := h11.keep d1
  replace hB := hB.trans (d1.mono hB.size)
  clear T6 d1 eW4 qb11
  have h13 := Bk.new w5 25 #[.int .u64 (x1 : Int), .int .u64 (y1 : Int), .bool c1]
  replace h4 := h4.alloc (Obj.cells #[.int .u64 (x1 : Int), .int .u64 (y1 : Int), .bool c1] 25)
  replace h11 := h11.alloc (Obj.cells #[.int .u64 (x1 : Int), .int .u64 (y1 : Int), .bool c1] 25)
  replace hB := hB.alloc hB.size (Obj.cells #[.int .u64 (x1 : Int), .int .u64 (y1 : Int), .bool c1] 25)
  obtain ⟨W6, eW6⟩ : ∃ W, w5.alloc (Obj.cells #[.int .u64 (x1 : Int), .int .u64 (y1 : Int), .bool c1] 25) = W := ⟨_, rfl⟩
  rw [eW6] at h4 h11 h13 hB
  obtain ⟨b13, qb13⟩ : ∃ b, w5.heap.size = b := ⟨_, rfl⟩
  rw [qb13] at h13
  have T7 := byt_any v (p + 3 + 1 + 12 + 12) 96 W6 (hv.below hB) (by omega) (by omega)
  obtain ⟨Q, hQ⟩ : ∃ Q : Int, ((p + 3 + 1 + 12 + 12 : Nat) : Int) + ((96 : Nat) : Int) = Q := ⟨_, rfl⟩
  have hQp : Hid (Q = ((p + 124 : Nat) : Int)) := by show Q = _; omega
  rw [hQ] at T7
  go_wp2_with fail
  refine T7.mono ?_
  rintro e w7 ⟨⟨s, hs, rfl⟩, d1⟩
  replace h4 := h4.keep d1
  replace h11 := h11.keep d1
  replace h13 := h13.keep d1
  replace hB := hB.trans (d1.mono hB.size)
  clear T7 d1 eW6 qb13 hQ
  have hw1 : IntKind.i64.wrap ((k : Int) + 1) = (k : Int) + 1 := by rw [IntKind.wrap_i64]; omega
  obtain ⟨c7, hm7, hc7, hc8⟩ : ∃ c7 : Int, ((c : Nat) : Int).tmod 7 = c7 ∧ 0 ≤ c7 ∧ c7 ≤ 6 := ⟨((c % 7 : Nat) : Int), (Int.ofNat_tmod c 7).symm, by omega, by have := Nat.mod_lt c (show 0 < 7 by decide); omega⟩
  obtain ⟨d7, hd7, hd8, hd9⟩ : ∃ d7 : Int, IntKind.i64.wrap (1 + c7) = d7 ∧ 1 ≤ d7 ∧ d7 ≤ 7 := ⟨1 + c7, by rw [IntKind.wrap_i64]; omega, by omega, by omega⟩
  have k16 : 16 ≤ s.size := by omega
  have k64 : 64 ≤ s.size := by omega
  obtain ⟨s1, hs1, hz1⟩ : ∃ s1 : ByteArray, s.extract 0 16 = s1 ∧ s1.size ≤ 17 := ⟨_, rfl, by rw [ByteArray.size_extract]; omega⟩
  obtain ⟨s2, hs2, hz2⟩ : ∃ s2 : ByteArray, s.extract 16 64 = s2 ∧ s2.size ≤ 48 := ⟨_, rfl, by rw [ByteArray.size_extract]; omega⟩
  obtain ⟨s3, hs3, hz3⟩ : ∃ s3 : ByteArray, s.extract 64 s.size = s3 ∧ s3.size ≤ 32 := ⟨_, rfl, by rw [ByteArray.size_extract]; omega⟩
  replace hs : Hid (s.size = 96) := hs
  go_wp2
  refine G.pool_list (W := w7) [] [.val (.int .i64 (k : Int)),
      .val (.int .i64 ((k : Int) + 1)),
      .val (.string u),
      .val (.agg #[.int .u64 (x0 : Int), .int .u64 (y0 : Int), .bool c0]),
      .val (.agg #[.int .u64 (x1 : Int), .int .u64 (y1 : Int), .bool c1]),
      .val (.string s),
      .val (.string s1),
      .val (.string s),
      .val (.string s2),
      .val (.string s),
      .val (.string s3),
      .val (.int .i64 (c : Int)),
      .val (.int .i64 c7),
      .val (.int .i64 d7),
      .val (.agg #[.int .i64 ((k : Int) + 1), .string u, .int .u64 (x0 : Int), .int .u64 (y0 : Int), .bool c0, .int .u64 (x1 : Int), .int .u64 (y1 : Int), .bool c1, .string s1, .string s2, .string s3, .int .i64 d7]),
      .new (.cells #[.int .i64 0, .string ⟨#[]⟩, .int .u64 0, .int .u64 0, .bool false, .int .u64 0, .int .u64 0, .bool false, .string ⟨#[]⟩, .string ⟨#[]⟩, .string ⟨#[]⟩, .int .i64 0] 27) (.cells #[.int .i64 ((k : Int) + 1), .string u, .int .u64 (x0 : Int), .int .u64 (y0 : Int), .bool c0, .int .u64 (x1 : Int), .int .u64 (y1 : Int), .bool c1, .string s1, .string s2, .string s3, .int .i64 d7] 27) 16,
      .put 15] [[6], [65], [9], [11], [13], [15], [70], [15], [72], [15], [74], [8], [76], [77], [66, 67, 68, 69, 71, 73, 75, 78], [], [17, 79]] (fun f => [(some 65, .int .i64 (k : Int)), (some 66, .int .i64 ((k : Int) + 1)), (some 67, .string u), (some 68, .agg #[.int .u64 (x0 : Int), .int .u64 (y0 : Int), .bool c0]), (some 69, .agg #[.int .u64 (x1 : Int), .int .u64 (y1 : Int), .bool c1]), (some 70, .string s), (some 71, .string s1), (some 72, .string s), (some 73, .string s2), (some 74, .string s), (some 75, .string s3), (some 76, .int .i64 (c : Int)), (some 77, .int .i64 c7), (some 78, .int .i64 d7), (some 79, .agg #[.int .i64 ((k : Int) + 1), .string u, .int .u64 (x0 : Int), .int .u64 (y0 : Int), .bool c0, .int .u64 (x1 : Int), .int .u64 (y1 : Int), .bool c1, .string s1, .string s2, .string s3, .int .i64 d7]), (some 17, .pointer (some ⟨f 15, 0, none⟩)), (none, undef)]) (by kernel_rfl) (by kernel_rfl) (by kernel_rfl) (by kernel_rfl) (fun _ => by kernel_rfl) (G.last_of [.cells #[.int .i64 0, .string ⟨#[]⟩, .int .u64 0, .int .u64 0, .bool false, .int .u64 0, .int .u64 0, .bool false, .string ⟨#[]⟩, .string ⟨#[]⟩, .string ⟨#[]⟩, .int .i64 0] 27] (fun F R hm => by simp at hm) (fun ob ob' k hm => by simp at hm; simp [hm]) (fun b ob ob' hm => by simp at hm)) (fun b ob ob' hm => by simp at hm) ?_ ?_
  · intro ix hix
    match ix, hix with
    | 0, _ => exact G.ob_val [(6, .int .i64 (k : Int))] rfl rfl (fun _ => by kernel_rfl) (fun A w ⟨e0, _⟩ hB => Y.move e0)
    | 1, _ => exact G.ob_val [(65, .int .i64 (k : Int))] rfl rfl (fun _ => by kernel_rfl) (fun A w ⟨e0, _⟩ hB => X.add e0 rfl hw1)
    | 2, _ => exact G.ob_val [(9, .string u)] rfl rfl (fun _ => by kernel_rfl) (fun A w ⟨e0, _⟩ hB => Y.move e0)
    | 3, _ => exact G.ob_val [(11, .pointer (some ⟨b11, 0, none⟩))] rfl rfl (fun _ => by kernel_rfl) (fun A w ⟨e0, _⟩ hB => Y.ldT Tryz.underlying25 rfl (by kernel_rfl) e0 (Y.side hB h11))
    | 4, _ => exact G.ob_val [(13, .pointer (some ⟨b13, 0, none⟩))] rfl rfl (fun _ => by kernel_rfl) (fun A w ⟨e0, _⟩ hB => Y.ldT Tryz.underlying25 rfl (by kernel_rfl) e0 (Y.side hB h13))
    | 5, _ => exact G.ob_val [(15, .string s)] rfl rfl (fun _ => by kernel_rfl) (fun A w ⟨e0, _⟩ hB => Y.move e0)
    | 6, _ => exact G.ob_val [(70, .string s)] rfl rfl (fun _ => by kernel_rfl) (fun A w ⟨e0, _⟩ hB => X.slP (k := 16) e0 rfl k16 hs1)
    | 7, _ => exact G.ob_val [(15, .string s)] rfl rfl (fun _ => by kernel_rfl) (fun A w ⟨e0, _⟩ hB => Y.move e0)
    | 8, _ => exact G.ob_val [(72, .string s)] rfl rfl (fun _ => by kernel_rfl) (fun A w ⟨e0, _⟩ hB => X.slM (j := 16) (k := 64) e0 rfl rfl (by decide) k64 hs2)
    | 9, _ => exact G.ob_val [(15, .string s)] rfl rfl (fun _ => by kernel_rfl) (fun A w ⟨e0, _⟩ hB => Y.move e0)
    | 10, _ => exact G.ob_val [(74, .string s)] rfl rfl (fun _ => by kernel_rfl) (fun A w ⟨e0, _⟩ hB => X.slT (k := 64) e0 rfl k64 hs3)
    | 11, _ => exact G.ob_val [(8, .int .i64 (c : Int))] rfl rfl (fun _ => by kernel_rfl) (fun A w ⟨e0, _⟩ hB => Y.move e0)
    | 12, _ => exact G.ob_val [(76, .int .i64 (c : Int))] rfl rfl (fun _ => by kernel_rfl) (fun A w ⟨e0, _⟩ hB => X.rem e0 rfl (by decide) hm7)
    | 13, _ => exact G.ob_val [(77, .int .i64 c7)] rfl rfl (fun _ => by kernel_rfl) (fun A w ⟨e0, _⟩ hB => X.add rfl e0 hd7)
    | 14, _ => exact G.ob_val [(66, .int .i64 ((k : Int) + 1)), (67, .string u), (68, .agg #[.int .u64 (x0 : Int), .int .u64 (y0 : Int), .bool c0]), (69, .agg #[.int .u64 (x1 : Int), .int .u64 (y1 : Int), .bool c1]), (71, .string s1), (73, .string s2), (75, .string s3), (78, .int .i64 d7)] rfl rfl (fun _ => by kernel_rfl) (fun A w ⟨e0, e1, e2, e3, e4, e5, e6, e7, _⟩ hB => X.bM e0 e1 e2 e3 e4 e5 e6 e7)
    | 15, _ => exact G.ob_new rfl rfl (fun A w => X.alM)
    | 16, _ => exact G.ob_put 17 (fun f => [(17, .pointer (some ⟨f 15, 0, none⟩)), (79, .agg #[.int .i64 ((k : Int) + 1), .string u, .int .u64 (x0 : Int), .int .u64 (y0 : Int), .bool c0, .int .u64 (x1 : Int), .int .u64 (y1 : Int), .bool c1, .string s1, .string s2, .string s3, .int .i64 d7])]) rfl rfl rfl (by decide) (by kernel_rfl) rfl (fun _ => by kernel_rfl) (fun f A w ⟨e0, e1, _⟩ hr => Y.puA e0 e1 hr rfl (by kernel_rfl) (by simp [Value.oneCell']))
    | ix + 17, h => exact absurd h (by simp)
  intro f W8 hS hnew y2 y3 y4
  obtain ⟨hb0, hbn⟩ := hnew 15 _ _ _ rfl (by decide)
  have b8 : Below w7.heap.size w7 W8 := (Below.refl _ w7).drew.trans hS.below
  have hl17 : w7.heap.size ≤ f 15 := hb0
  obtain ⟨r0, hr0⟩ : ∃ r0 : Msg, Hid (r0 = { kind := (k : Int) + 1, user := u, el := (x0, y0, c0), ot := (x1, y1, c1), nonce := s1, box := s2, mac := s3, code := d7 }) := ⟨_, rfl⟩
  have h17 : Bk W8 27 (f 15) (msgL r0).toArray := by rw [hr0.out]; exact hbn
  have hm0 : Dm 17 r0 := by
    rw [hr0.out]
    exact ⟨by show (-1 : Int) ≤ (k : Int) + 1; omega, by show (k : Int) + 1 ≤ 62; omega, by show (-1 : Int) ≤ d7; omega, by show d7 ≤ 8; omega, hu2, hz1, hz2, hz3⟩
  have h4lt := h4.lt
  replace h4 := h4.keep b8
  have hBs := hB.size
  replace hB := hB.trans (b8.mono hB.size)
  clear hS hnew y2 y3 y4 hbn hb0 b8 h11 h13 hr0 hm7 hd7 hs1 hs2 hs3 k16 k64
  simp only [puts, List.foldl, Act.put, List.setIfInBounds_toArray, List.set_cons_zero, List.set_cons_succ]
  obtain ⟨b17, hb17⟩ : ∃ b, b = f 15 := ⟨_, rfl⟩
  rw [← hb17] at h17 hl17
  simp only [← hb17]
  clear hb17
  have h18 := Bk.new W8 27 #[.int .i64 ((k : Int) + 1), .string ⟨#[]⟩, .int .u64 0, .int .u64 0, .bool false, .int .u64 0, .int .u64 0, .bool false, .string ⟨#[]⟩, .string ⟨#[]⟩, .string ⟨#[]⟩, .int .i64 0]
  have h17lt := h17.lt
  replace h4 := h4.alloc (Obj.cells #[.int .i64 ((k : Int) + 1), .string ⟨#[]⟩, .int .u64 0, .int .u64 0, .bool false, .int .u64 0, .int .u64 0, .bool false, .string ⟨#[]⟩, .string ⟨#[]⟩, .string ⟨#[]⟩, .int .i64 0] 27)
  replace h17 := h17.alloc (Obj.cells #[.int .i64 ((k : Int) + 1), .string ⟨#[]⟩, .int .u64 0, .int .u64 0, .bool false, .int .u64 0, .int .u64 0, .bool false, .string ⟨#[]⟩, .string ⟨#[]⟩, .string ⟨#[]⟩, .int .i64 0] 27)
  have hBs2 := hB.size
  replace hB := hB.alloc hB.size (Obj.cells #[.int .i64 ((k : Int) + 1), .string ⟨#[]⟩, .int .u64 0, .int .u64 0, .bool false, .int .u64 0, .int .u64 0, .bool false, .string ⟨#[]⟩, .string ⟨#[]⟩, .string ⟨#[]⟩, .int .i64 0] 27)
  obtain ⟨W9, eW9⟩ : ∃ W, W8.alloc (Obj.cells #[.int .i64 ((k : Int) + 1), .string ⟨#[]⟩, .int .u64 0, .int .u64 0, .bool false, .int .u64 0, .int .u64 0, .bool false, .string ⟨#[]⟩, .string ⟨#[]⟩, .string ⟨#[]⟩, .int .i64 0] 27) = W := ⟨_, rfl⟩
  rw [eW9] at h4 h17 h18 hB
  obtain ⟨b18, qb18⟩ : ∃ b, W8.heap.size = b := ⟨_, rfl⟩
  rw [qb18] at h18 h17lt hBs2
  have n1718 : b17 ≠ b18 := by omega
  have n417 : b4 ≠ b17 := by omega
  have n418 : b4 ≠ b18 := by omega
  have l17 : w.heap.size ≤ b17 := by omega
  have l18 : w.heap.size ≤ b18 := by omega
  clear hl17 h4lt h17lt hBs hBs2
  have hkb : kindB ((k : Int) + 1) = true := decide_eq_true ⟨by omega, by omega⟩
  have FL := fun w => flS_yes ((k : Int) + 1) w hkb
  have hFs : Hid ((⟨#[117, 101, 111, 110, 98, 109, 99]⟩ : ByteArray).size = 7) := rfl
  have hFi : Hid (∀ j, j < 7 → ∃ q, ∀ hj, (((⟨#[117, 101, 111, 110, 98, 109, 99]⟩ : ByteArray)[j]'hj).toNat : Int) = ((ltN q : Nat) : Int)) := by
    show ∀ j, j < 7 → _
    rw [← allB]
    exact fun j hj => ⟨allL[j]'hj, fun h => ltB_at _ _ _ (List.getElem?_eq_getElem hj) h⟩
  obtain ⟨LB, hLB⟩ : ∃ LB, ltB (flds ((k : Int) + 1)) = LB := ⟨_, rfl⟩
  rw [hLB] at FL
  have hLm : LB.size ≤ 2000 := by
    rw [← hLB, ltB_size]
    have := flds_le ((k : Int) + 1)
    omega
  clear hkb hLB
  have p0 : W9.cell? ⟨b18, 0, none⟩ = some (.int .i64 ((k : Int) + 1)) := h18.cell (k := 0) rfl
  have f0 := h18.frz 0
  have s0 := h18.same 0 (v := .int .i64 ((k : Int) + 1)) rfl
  have p1 : W9.cell? ⟨b18, 1, none⟩ = some (.string ⟨#[]⟩) := h18.cell (k := 1) rfl
  have f1 := h18.frz 1
  have s1 := h18.same 1 (v := .string ⟨#[]⟩) rfl
  have p2 : W9.cell? ⟨b18, 2, none⟩ = some (.int .u64 0) := h18.cell (k := 2) rfl
  have f2 := h18.frz 2
  have s2 := h18.same 2 (v := .int .u64 0) rfl
  have p3 : W9.cell? ⟨b18, 3, none⟩ = some (.int .u64 0) := h18.cell (k := 3) rfl
  have f3 := h18.frz 3
  have s3 := h18.same 3 (v := .int .u64 0) rfl
  have p4 : W9.cell? ⟨b18, 4, none⟩ = some (.bool false) := h18.cell (k := 4) rfl
  have f4 := h18.frz 4
  have s4 := h18.same 4 (v := .bool false) rfl
  have p5 : W9.cell? ⟨b18, 5, none⟩ = some (.int .u64 0) := h18.cell (k := 5) rfl
  have f5 := h18.frz 5
  have s5 := h18.same 5 (v := .int .u64 0) rfl
  have p6 : W9.cell? ⟨b18, 6, none⟩ = some (.int .u64 0) := h18.cell (k := 6) rfl
  have f6 := h18.frz 6
  have s6 := h18.same 6 (v := .int .u64 0) rfl
  have p7 : W9.cell? ⟨b18, 7, none⟩ = some (.bool false) := h18.cell (k := 7) rfl
  have f7 := h18.frz 7
  have s7 := h18.same 7 (v := .bool false) rfl
  have p8 : W9.cell? ⟨b18, 8, none⟩ = some (.string ⟨#[]⟩) := h18.cell (k := 8) rfl
  have f8 := h18.frz 8
  have s8 := h18.same 8 (v := .string ⟨#[]⟩) rfl
  have p9 : W9.cell? ⟨b18, 9, none⟩ = some (.string ⟨#[]⟩) := h18.cell (k := 9) rfl
  have f9 := h18.frz 9
  have s9 := h18.same 9 (v := .string ⟨#[]⟩) rfl
  have p10 : W9.cell? ⟨b18, 10, none⟩ = some (.string ⟨#[]⟩) := h18.cell (k := 10) rfl
  have f10 := h18.frz 10
  have s10 := h18.same 10 (v := .string ⟨#[]⟩) rfl
  have p11 : W9.cell? ⟨b18, 11, none⟩ = some (.int .i64 0) := h18.cell (k := 11) rfl
  have f11 := h18.frz 11
  have s11 := h18.same 11 (v := .int .i64 0) rfl
  go_wp2
  clear eW9 qb18 p0 f0 s0 p1 f1 s1 p2 f2 s2 p3 f3 s3 p4 f4 s4 p5 f5 s5 p6 f6 s6 p7 f7 s7 p8 f8 s8 p9 f9 s9 p10 f10 s10 p11 f11 s11
  generalize (⟨#[117, 101, 111, 110, 98, 109, 99]⟩ : ByteArray) = FB at *
  go_loopw [20] (fun iv wr => ∃ (i : Nat) (r : Msg), i ≤ 7 ∧ iv = .int .i64 (i : Int) ∧ Dm 17 r ∧ Bk wr 27 b17 (msgL r).toArray ∧ Bk wr 27 b18 #[.int .i64 ((k : Int) + 1), .string ⟨#[]⟩, .int .u64 0, .int .u64 0, .bool false, .int .u64 0, .int .u64 0, .bool false, .string ⟨#[]⟩, .string ⟨#[]⟩, .string ⟨#[]⟩, .int .i64 0] ∧ Bk wr 27 b4 #[.int .i64 0, .string ⟨#[]⟩, .int .u64 0, .int .u64 0, .bool false, .int .u64 0, .int .u64 0, .bool false, .string ⟨#[]⟩, .string ⟨#[]⟩, .string ⟨#[]⟩, .int .i64 0] ∧ Below w.heap.size w wr) (fun i _ => 7 - (intOf i).toNat)
  case atStart => exact ⟨0, r0, by omega, rfl, hm0, h17, h18, h4, hB⟩
  case round =>
    clear h17 h18 h4 hB hm0
    obtain ⟨i, r, hi, rfl, hr, h17, h18, h4, hB⟩ := hrel
    by_cases hlt : i < 7
    · have hli : (i : Int) < (FB.size : Int) := by have := hFs.out; omega
      go_wp2
      go_loopw [21, 22] (fun hv jv w2 => ∃ (hb : Bool) (j : Nat), j ≤ LB.size ∧ hv = .bool hb ∧ jv = .int .i64 (j : Int) ∧ Bk w2 27 b17 (msgL r).toArray ∧ Bk w2 27 b18 #[.int .i64 ((k : Int) + 1), .string ⟨#[]⟩, .int .u64 0, .int .u64 0, .bool false, .int .u64 0, .int .u64 0, .bool false, .string ⟨#[]⟩, .string ⟨#[]⟩, .string ⟨#[]⟩, .int .i64 0] ∧ Bk w2 27 b4 #[.int .i64 0, .string ⟨#[]⟩, .int .u64 0, .int .u64 0, .bool false, .int .u64 0, .int .u64 0, .bool false, .string ⟨#[]⟩, .string ⟨#[]⟩, .string ⟨#[]⟩, .int .i64 0] ∧ Below w.heap.size w w2) (fun _ j _ => LB.size - (intOf j).toNat)
      case atStart => exact ⟨false, 0, Nat.zero_le _, rfl, rfl, h17, h18, h4, hB⟩
      case round =>
        clear h17 h18 h4 hB
        obtain ⟨hb, j, hj, rfl, rfl, h17, h18, h4, hB⟩ := hrel
        go_wp2_with fail
        refine (FL _).mono ?_
        rintro e w5 ⟨rfl, d1⟩
        replace h17 := h17.keep d1
        replace h18 := h18.keep d1
        replace h4 := h4.keep d1
        replace hB := hB.trans (d1.mono hB.size)
        clear d1
        by_cases hjn : j < LB.size
        · have hji : (j : Int) < (LB.size : Int) := by omega
          obtain ⟨a, ha⟩ : ∃ a : Int, ∀ hj, ((LB[j]'hj).toNat : Int) = a := ⟨((LB[j]'hjn).toNat : Int), fun _ => rfl⟩
          obtain ⟨q, hq⟩ := hFi.out i hlt
          have hFl : i < FB.size := by have := hFs.out; omega
          cases hb with
          | true =>
            go_wp2
            refine G.pool_listU (W := w5) [] [.val (.bool true),
                .val (.bool true),
                .val undef,
                .val undef,
                .val undef,
                .val undef,
                .val undef,
                .val undef,
                .val undef,
                .val undef,
                .val undef,
                .val (.bool true),
                .val (.bool true)] [[21], [97], [], [], [], [], [], [], [], [], [], [98], [108]] (fun f => [(some 97, .bool true), (some 98, .bool true), (some 99, undef), (some 100, undef), (some 101, undef), (some 102, undef), (some 103, undef), (some 104, undef), (some 105, undef), (some 106, undef), (some 107, undef), (some 108, .bool true), (some 21, .bool true)]) (by kernel_rfl) (by kernel_rfl) (by kernel_rfl) (by kernel_rfl) (fun _ => by kernel_rfl) (G.last_of [] (fun F R hm => by simp at hm) (fun ob ob' k hm => by simp at hm) (fun b ob ob' hm => by simp at hm)) (fun b ob ob' hm => by simp at hm) ?_ ?_
            · intro ix hix
              match ix, hix with
              | 0, _ => exact .inr ⟨rfl, G.ob_val [(21, .bool true)] rfl rfl (fun _ => by kernel_rfl) (fun A w ⟨e0, _⟩ hB => Y.move e0)⟩
              | 1, _ => exact .inr ⟨rfl, G.ob_val [(97, .bool true)] rfl rfl (fun _ => by kernel_rfl) (fun A w ⟨e0, _⟩ hB => Y.move e0)⟩
              | 2, _ => exact .inl ⟨rfl, rfl⟩
              | 3, _ => exact .inl ⟨rfl, rfl⟩
              | 4, _ => exact .inl ⟨rfl, rfl⟩
              | 5, _ => exact .inl ⟨rfl, rfl⟩
              | 6, _ => exact .inl ⟨rfl, rfl⟩
              | 7, _ => exact .inl ⟨rfl, rfl⟩
              | 8, _ => exact .inl ⟨rfl, rfl⟩
              | 9, _ => exact .inl ⟨rfl, rfl⟩
              | 10, _ => exact .inl ⟨rfl, rfl⟩
              | 11, _ => exact .inr ⟨rfl, G.ob_val [(98, .bool true)] rfl rfl (fun _ => by kernel_rfl) (fun A w ⟨e0, _⟩ hB => L.pkT e0 rfl)⟩
              | 12, _ => exact .inr ⟨rfl, G.ob_val [(108, .bool true)] rfl rfl (fun _ => by kernel_rfl) (fun A w ⟨e0, _⟩ hB => Y.assign e0)⟩
              | ix + 13, h => exact absurd h (by simp)
            intro f2 W6 hS _ _ _ _
            have b6 : Below w5.heap.size w5 W6 := (Below.refl _ w5).drew.trans hS.below
            replace h17 := h17.keep b6
            replace h18 := h18.keep b6
            replace h4 := h4.keep b6
            replace hB := hB.trans (b6.mono hB.size)
            clear hS b6
            simp only [puts, List.foldl, Act.put, List.setIfInBounds_toArray, List.set_cons_zero, List.set_cons_succ]
            go_wp2
            go_round
            case rel => first | exact ⟨true, j + 1, by omega, rfl, by go_num, h17, h18, h4, hB⟩ | ((repeat apply Exists.intro); exact ⟨⟨true, j + 1, by omega, rfl, by go_num, h17, h18, h4, hB⟩, rfl⟩)
            case measure => simp [intOf]; omega
          | false =>
            go_wp2
            refine G.pool_listU (W := w5) [] [.val (.bool false),
                .val (.bool false),
                .val (.int .i64 (k : Int)),
                .val (.int .i64 ((k : Int) + 1)),
                .val (.string LB),
                .val (.int .i64 (j : Int)),
                .val (.int .u8 a),
                .val (.string FB),
                .val (.int .i64 (i : Int)),
                .val (.int .u8 ((ltN q : Nat) : Int)),
                .val (.bool (a == ((ltN q : Nat) : Int))),
                .val (.bool (a == ((ltN q : Nat) : Int))),
                .val (.bool (a == ((ltN q : Nat) : Int)))] [[21], [97], [6], [99], [100], [22], [101, 102], [19], [20], [104, 105], [103, 106], [98, 107], [108]] (fun f => [(some 97, .bool false), (some 98, .bool false), (some 99, .int .i64 (k : Int)), (some 100, .int .i64 ((k : Int) + 1)), (some 101, .string LB), (some 102, .int .i64 (j : Int)), (some 103, .int .u8 a), (some 104, .string FB), (some 105, .int .i64 (i : Int)), (some 106, .int .u8 ((ltN q : Nat) : Int)), (some 107, .bool (a == ((ltN q : Nat) : Int))), (some 108, .bool (a == ((ltN q : Nat) : Int))), (some 21, .bool (a == ((ltN q : Nat) : Int)))]) (by kernel_rfl) (by kernel_rfl) (by kernel_rfl) (by kernel_rfl) (fun _ => by kernel_rfl) (G.last_of [] (fun F R hm => by simp at hm) (fun ob ob' k hm => by simp at hm) (fun b ob ob' hm => by simp at hm)) (fun b ob ob' hm => by simp at hm) ?_ ?_
            · intro ix hix
              match ix, hix with
              | 0, _ => exact .inr ⟨rfl, G.ob_val [(21, .bool false)] rfl rfl (fun _ => by kernel_rfl) (fun A w ⟨e0, _⟩ hB => Y.move e0)⟩
              | 1, _ => exact .inr ⟨rfl, G.ob_val [(97, .bool false)] rfl rfl (fun _ => by kernel_rfl) (fun A w ⟨e0, _⟩ hB => Y.move e0)⟩
              | 2, _ => exact .inr ⟨rfl, G.ob_val [(6, .int .i64 (k : Int))] rfl rfl (fun _ => by kernel_rfl) (fun A w ⟨e0, _⟩ hB => Y.move e0)⟩
              | 3, _ => exact .inr ⟨rfl, G.ob_val [(99, .int .i64 (k : Int))] rfl rfl (fun _ => by kernel_rfl) (fun A w ⟨e0, _⟩ hB => X.add e0 rfl hw1)⟩
              | 4, _ => exact .inr ⟨rfl, G.ob_val [(100, .int .i64 ((k : Int) + 1))] rfl rfl (fun _ => by kernel_rfl) (fun A w ⟨e0, _⟩ hB => Y.cl1 cfFl e0 (by have h := FL w; exact h))⟩
              | 5, _ => exact .inr ⟨rfl, G.ob_val [(22, .int .i64 (j : Int))] rfl rfl (fun _ => by kernel_rfl) (fun A w ⟨e0, _⟩ hB => Y.move e0)⟩
              | 6, _ => exact .inr ⟨rfl, G.ob_val [(101, .string LB), (102, .int .i64 (j : Int))] rfl rfl (fun _ => by kernel_rfl) (fun A w ⟨e0, e1, _⟩ hB => L.ixS e0 e1 hjn (ha hjn))⟩
              | 7, _ => exact .inr ⟨rfl, G.ob_val [(19, .string FB)] rfl rfl (fun _ => by kernel_rfl) (fun A w ⟨e0, _⟩ hB => Y.move e0)⟩
              | 8, _ => exact .inr ⟨rfl, G.ob_val [(20, .int .i64 (i : Int))] rfl rfl (fun _ => by kernel_rfl) (fun A w ⟨e0, _⟩ hB => Y.move e0)⟩
              | 9, _ => exact .inr ⟨rfl, G.ob_val [(104, .string FB), (105, .int .i64 (i : Int))] rfl rfl (fun _ => by kernel_rfl) (fun A w ⟨e0, e1, _⟩ hB => L.ixS e0 e1 hFl (hq hFl))⟩
              | 10, _ => exact .inr ⟨rfl, G.ob_val [(103, .int .u8 a), (106, .int .u8 ((ltN q : Nat) : Int))] rfl rfl (fun _ => by kernel_rfl) (fun A w ⟨e0, e1, _⟩ hB => X.eqB e0 e1)⟩
              | 11, _ => exact .inr ⟨rfl, G.ob_val [(98, .bool false), (107, .bool (a == ((ltN q : Nat) : Int)))] rfl rfl (fun _ => by kernel_rfl) (fun A w ⟨e0, e1, _⟩ hB => L.pkF e0 e1)⟩
              | 12, _ => exact .inr ⟨rfl, G.ob_val [(108, .bool (a == ((ltN q : Nat) : Int)))] rfl rfl (fun _ => by kernel_rfl) (fun A w ⟨e0, _⟩ hB => Y.assign e0)⟩
              | ix + 13, h => exact absurd h (by simp)
            intro f2 W6 hS _ _ _ _
            have b6 : Below w5.heap.size w5 W6 := (Below.refl _ w5).drew.trans hS.below
            replace h17 := h17.keep b6
            replace h18 := h18.keep b6
            replace h4 := h4.keep b6
            replace hB := hB.trans (b6.mono hB.size)
            clear hS b6
            simp only [puts, List.foldl, Act.put, List.setIfInBounds_toArray, List.set_cons_zero, List.set_cons_succ]
            go_wp2
            go_round
            case rel => first | exact ⟨(a == ((ltN q : Nat) : Int)), j + 1, by omega, rfl, by go_num, h17, h18, h4, hB⟩ | ((repeat apply Exists.intro); exact ⟨⟨(a == ((ltN q : Nat) : Int)), j + 1, by omega, rfl, by go_num, h17, h18, h4, hB⟩, rfl⟩)
            case measure => simp [intOf]; omega
        · have hji : (LB.size : Int) ≤ (j : Int) := by omega
          cases hb with
          | true =>
            go_wp2
            go_round
            case rel => first | exact ⟨i + 1, r, by omega, by go_num, hr, h17, h18, h4, hB⟩ | ((repeat apply Exists.intro); exact ⟨⟨i + 1, r, by omega, by go_num, hr, h17, h18, h4, hB⟩, rfl⟩)
            case measure => simp [intOf]; omega
          | false =>
            obtain ⟨q, hq⟩ := hFi.out i hlt
            have hFl : i < FB.size := by have := hFs.out; omega
            go_wp2
            refine G.pool_prT (W := w5) [] 5 [.val (.agg (msgL r).toArray),
                .val (.string FB),
                .val (.int .i64 (i : Int)),
                .val (.int .u8 ((ltN q : Nat) : Int)),
                .val (.agg (msgL (wo r q)).toArray)] [[17], [19], [20], [112, 113], [111, 114], [17, 115]] (fun f => [(some 111, .agg (msgL r).toArray), (some 112, .string FB), (some 113, .int .i64 (i : Int)), (some 114, .int .u8 ((ltN q : Nat) : Int)), (some 115, .agg (msgL (wo r q)).toArray)]) (by kernel_rfl) (by kernel_rfl) (by kernel_rfl) (by kernel_rfl) (by decide) (by kernel_rfl) (fun _ => by kernel_rfl) (G.last_of [] (fun F R hm => by simp at hm) (fun ob ob' k hm => by simp at hm) (fun b ob ob' hm => by simp at hm)) (fun b ob ob' hm => by simp at hm) ?_ ?_
            · intro ix hix
              match ix, hix with
              | 0, _ => exact G.ob_val [(17, .pointer (some ⟨b17, 0, none⟩))] rfl rfl (fun _ => by kernel_rfl) (fun A w ⟨e0, _⟩ hB => L.ldM e0 (sideBk hB h17) rfl)
              | 1, _ => exact G.ob_val [(19, .string FB)] rfl rfl (fun _ => by kernel_rfl) (fun A w ⟨e0, _⟩ hB => Y.move e0)
              | 2, _ => exact G.ob_val [(20, .int .i64 (i : Int))] rfl rfl (fun _ => by kernel_rfl) (fun A w ⟨e0, _⟩ hB => Y.move e0)
              | 3, _ => exact G.ob_val [(112, .string FB), (113, .int .i64 (i : Int))] rfl rfl (fun _ => by kernel_rfl) (fun A w ⟨e0, e1, _⟩ hB => L.ixS e0 e1 hFl (hq hFl))
              | 4, _ => exact G.ob_val [(111, .agg (msgL r).toArray), (114, .int .u8 ((ltN q : Nat) : Int))] rfl rfl (fun _ => by kernel_rfl) (fun A w ⟨e0, e1, _⟩ hB => L.cl2 cf7f e0 e1 (wo_any q r w))
              | ix + 5, h => exact absurd h (by omega)
            intro f2 W6 hS y1 y2 y3 fuel hfuel
            have b6 : Below w5.heap.size w5 W6 := (Below.refl _ w5).drew.trans hS.below
            replace h17 := h17.keep b6
            replace h18 := h18.keep b6
            replace h4 := h4.keep b6
            replace hB := hB.trans (b6.mono hB.size)
            clear hS b6 y1 y2 y3
            simp only [puts, List.foldl, Act.put, List.setIfInBounds_toArray, List.set_cons_zero, List.set_cons_succ]
            refine last_do1 5 hfuel (by kernel_rfl) (by kernel_rfl) rfl rfl ?_
            refine fun Q K hK => L.puA (cs := (msgL (wo r q)).toArray) rfl rfl h17 rfl sizeMsg (oneMsg _) Q K (fun v w' hT => hK v w' ?_)
            have h17' : Bk w' 27 b17 (msgL (wo r q)).toArray := hT.self
            have hg : W6.grownBy w' (some b17) := ⟨hT.os, hT.tape, hT.output, by rw [hT.size]; exact Nat.le_refl _, fun k _ hk => hT.other k (fun e => hk (by rw [e]))⟩
            replace h18 := h18.keptBy hg (by simpa using fun h => n1718 h.symm)
            replace h4 := h4.keptBy hg (by simpa using n417)
            replace hB := belowG hB hg l17 hB.size
            clear hT hg h17
            go_wp2
            go_round
            case rel => first | exact ⟨i + 1, wo r q, by omega, by go_num, hr.wo q, h17', h18, h4, hB⟩ | ((repeat apply Exists.intro); exact ⟨⟨i + 1, wo r q, by omega, by go_num, hr.wo q, h17', h18, h4, hB⟩, rfl⟩)
            case measure => simp [intOf]; omega
    · obtain rfl : i = 7 := by omega
      have hli : (FB.size : Int) ≤ ((7 : Nat) : Int) := by have := hFs.out; omega
      clear FL hFi hFs hw1 hLm hd8 hd9 hc7 hc8 hz1 hz2 hz3 hlt
      have c0 : wr.cell? ⟨b17, 0, none⟩ = some (.int .i64 r.kind) := h17.cell (k := 0) rfl
      have c1 : wr.cell? ⟨b17, 1, none⟩ = some (.string r.user) := h17.cell (k := 1) rfl
      have c2 : wr.cell? ⟨b17, 2, none⟩ = some (.int .u64 (r.el.1 : Int)) := h17.cell (k := 2) rfl
      have c3 : wr.cell? ⟨b17, 3, none⟩ = some (.int .u64 (r.el.2.1 : Int)) := h17.cell (k := 3) rfl
      have c4 : wr.cell? ⟨b17, 4, none⟩ = some (.bool r.el.2.2) := h17.cell (k := 4) rfl
      have c5 : wr.cell? ⟨b17, 5, none⟩ = some (.int .u64 (r.ot.1 : Int)) := h17.cell (k := 5) rfl
      have c6 : wr.cell? ⟨b17, 6, none⟩ = some (.int .u64 (r.ot.2.1 : Int)) := h17.cell (k := 6) rfl
      have c7 : wr.cell? ⟨b17, 7, none⟩ = some (.bool r.ot.2.2) := h17.cell (k := 7) rfl
      have c8 : wr.cell? ⟨b17, 8, none⟩ = some (.string r.nonce) := h17.cell (k := 8) rfl
      have c9 : wr.cell? ⟨b17, 9, none⟩ = some (.string r.box) := h17.cell (k := 9) rfl
      have c10 : wr.cell? ⟨b17, 10, none⟩ = some (.string r.mac) := h17.cell (k := 10) rfl
      have c11 : wr.cell? ⟨b17, 11, none⟩ = some (.int .i64 r.code) := h17.cell (k := 11) rfl
      have th18 := h18.there 12 (Nat.le_refl _)
      by_cases h25 : h = 25
      · subst h25
        have e1 : IntKind.i64.wrap ((k : Int) * 9) = (k : Int) * 9 := by rw [IntKind.wrap_i64]; omega
        have e2 : IntKind.i64.wrap ((k : Int) * 9 - 1) = (k : Int) * 9 - 1 := by rw [IntKind.wrap_i64]; omega
        go_wp2_with (first
          | (refine wpList_store_mid rfl 27 _ _ rfl b18 0 (msgL r).toArray rfl rfl th18 sizeMsg (oneMsg r) ?_
             generalize hW1 : World.setCells _ _ _ _ = W10
             have q18 : Bk W10 27 b18 (msgL r).toArray := by rw [← hW1]; exact bkS h18 (msgL r) rfl
             have q4 : Bk W10 27 b4 #[.int .i64 0, .string ⟨#[]⟩, .int .u64 0, .int .u64 0, .bool false, .int .u64 0, .int .u64 0, .bool false, .string ⟨#[]⟩, .string ⟨#[]⟩, .string ⟨#[]⟩, .int .i64 0] := by rw [← hW1]; exact bkO h4 n418 _ _
             have qB : Below w.heap.size w W10 := by rw [← hW1]; exact below_setCells hB l18 _ _
             clear hW1
             have g0 : W10.cell? ⟨b18, 0, none⟩ = some (.int .i64 r.kind) := q18.cell (k := 0) rfl
             have g1 : W10.cell? ⟨b18, 1, none⟩ = some (.string r.user) := q18.cell (k := 1) rfl
             have g2 : W10.cell? ⟨b18, 2, none⟩ = some (.int .u64 (r.el.1 : Int)) := q18.cell (k := 2) rfl
             have g3 : W10.cell? ⟨b18, 3, none⟩ = some (.int .u64 (r.el.2.1 : Int)) := q18.cell (k := 3) rfl
             have g4 : W10.cell? ⟨b18, 4, none⟩ = some (.bool r.el.2.2) := q18.cell (k := 4) rfl
             have g5 : W10.cell? ⟨b18, 5, none⟩ = some (.int .u64 (r.ot.1 : Int)) := q18.cell (k := 5) rfl
             have g6 : W10.cell? ⟨b18, 6, none⟩ = some (.int .u64 (r.ot.2.1 : Int)) := q18.cell (k := 6) rfl
             have g7 : W10.cell? ⟨b18, 7, none⟩ = some (.bool r.ot.2.2) := q18.cell (k := 7) rfl
             have g8 : W10.cell? ⟨b18, 8, none⟩ = some (.string r.nonce) := q18.cell (k := 8) rfl
             have g9 : W10.cell? ⟨b18, 9, none⟩ = some (.string r.box) := q18.cell (k := 9) rfl
             have g10 : W10.cell? ⟨b18, 10, none⟩ = some (.string r.mac) := q18.cell (k := 10) rfl
             have g11 : W10.cell? ⟨b18, 11, none⟩ = some (.int .i64 r.code) := q18.cell (k := 11) rfl
             have x0 := q18.frz 0
             have r18 := q18.set 0 (.int .i64 ((k : Int) * 9 - 1))
             have t18 : Bk (W10.setCell ⟨b18, 0, none⟩ (.int .i64 ((k : Int) * 9 - 1))) 27 b18 (msgL { r with kind := (k : Int) * 9 - 1 }).toArray := r18
             have r4 := q4.other n418 0 (.int .i64 ((k : Int) * 9 - 1))
             have rB := qB.setCell (p := ⟨b18, 0, none⟩) l18 (.int .i64 ((k : Int) * 9 - 1))
             clear r18
             obtain ⟨W11, eW11⟩ : ∃ W, W10.setCell ⟨b18, 0, none⟩ (.int .i64 ((k : Int) * 9 - 1)) = W := ⟨_, rfl⟩
             rw [eW11] at t18 r4 rB
             have k0 : W11.cell? ⟨b18, 0, none⟩ = some (.int .i64 ((k : Int) * 9 - 1)) := t18.cell (k := 0) rfl
             have k1 : W11.cell? ⟨b18, 1, none⟩ = some (.string r.user) := t18.cell (k := 1) rfl
             have k2 : W11.cell? ⟨b18, 2, none⟩ = some (.int .u64 (r.el.1 : Int)) := t18.cell (k := 2) rfl
             have k3 : W11.cell? ⟨b18, 3, none⟩ = some (.int .u64 (r.el.2.1 : Int)) := t18.cell (k := 3) rfl
             have k4 : W11.cell? ⟨b18, 4, none⟩ = some (.bool r.el.2.2) := t18.cell (k := 4) rfl
             have k5 : W11.cell? ⟨b18, 5, none⟩ = some (.int .u64 (r.ot.1 : Int)) := t18.cell (k := 5) rfl
             have k6 : W11.cell? ⟨b18, 6, none⟩ = some (.int .u64 (r.ot.2.1 : Int)) := t18.cell (k := 6) rfl
             have k7 : W11.cell? ⟨b18, 7, none⟩ = some (.bool r.ot.2.2) := t18.cell (k := 7) rfl
             have k8 : W11.cell? ⟨b18, 8, none⟩ = some (.string r.nonce) := t18.cell (k := 8) rfl
             have k9 : W11.cell? ⟨b18, 9, none⟩ = some (.string r.box) := t18.cell (k := 9) rfl
             have k10 : W11.cell? ⟨b18, 10, none⟩ = some (.string r.mac) := t18.cell (k := 10) rfl
             have k11 : W11.cell? ⟨b18, 11, none⟩ = some (.int .i64 r.code) := t18.cell (k := 11) rfl
             have th4 := r4.there 12 (Nat.le_refl _)
             clear h17 h18 h4 hB th18 c0 c1 c2 c3 c4 c5 c6 c7 c8 c9 c10 c11)
          | (refine wpList_store_mid rfl 27 _ _ rfl b4 0 (msgL { r with kind := (k : Int) * 9 - 1 }).toArray rfl rfl th4 sizeMsg (oneMsg _) ?_))
        exact bodyPost_ret (v := .tuple #[.agg (msgL { r with kind := (k : Int) * 9 - 1 }).toArray, .int .i64 Q]) (bk_res2 (fn := Tryz.f16) (p := 4) (u := 5) Tryz.results16 _ rfl (bkS r4 (msgL { r with kind := (k : Int) * 9 - 1 }) rfl) Tryz.underlying27 rfl sizeMsg) rfl ⟨⟨{ r with kind := (k : Int) * 9 - 1 }, ⟨by show (-1 : Int) ≤ (k : Int) * 9 - 1; omega, by show (k : Int) * 9 - 1 ≤ 62; omega, hr.up.c0, hr.up.c1, hr.up.us, hr.up.no, hr.up.bo, hr.up.ma⟩, by rw [← hQp.out]⟩, below_setCells rB hl4 0 (msgL { r with kind := (k : Int) * 9 - 1 })⟩
      by_cases h26 : h = 26
      · subst h26
        have e1 : IntKind.i64.wrap ((c : Int) - 1) = (c : Int) - 1 := by rw [IntKind.wrap_i64]; omega
        go_wp2_with (first
          | (refine wpList_store_mid rfl 27 _ _ rfl b18 0 (msgL r).toArray rfl rfl th18 sizeMsg (oneMsg r) ?_
             generalize hW1 : World.setCells _ _ _ _ = W10
             have q18 : Bk W10 27 b18 (msgL r).toArray := by rw [← hW1]; exact bkS h18 (msgL r) rfl
             have q4 : Bk W10 27 b4 #[.int .i64 0, .string ⟨#[]⟩, .int .u64 0, .int .u64 0, .bool false, .int .u64 0, .int .u64 0, .bool false, .string ⟨#[]⟩, .string ⟨#[]⟩, .string ⟨#[]⟩, .int .i64 0] := by rw [← hW1]; exact bkO h4 n418 _ _
             have qB : Below w.heap.size w W10 := by rw [← hW1]; exact below_setCells hB l18 _ _
             clear hW1
             have g0 : W10.cell? ⟨b18, 0, none⟩ = some (.int .i64 r.kind) := q18.cell (k := 0) rfl
             have g1 : W10.cell? ⟨b18, 1, none⟩ = some (.string r.user) := q18.cell (k := 1) rfl
             have g2 : W10.cell? ⟨b18, 2, none⟩ = some (.int .u64 (r.el.1 : Int)) := q18.cell (k := 2) rfl
             have g3 : W10.cell? ⟨b18, 3, none⟩ = some (.int .u64 (r.el.2.1 : Int)) := q18.cell (k := 3) rfl
             have g4 : W10.cell? ⟨b18, 4, none⟩ = some (.bool r.el.2.2) := q18.cell (k := 4) rfl
             have g5 : W10.cell? ⟨b18, 5, none⟩ = some (.int .u64 (r.ot.1 : Int)) := q18.cell (k := 5) rfl
             have g6 : W10.cell? ⟨b18, 6, none⟩ = some (.int .u64 (r.ot.2.1 : Int)) := q18.cell (k := 6) rfl
             have g7 : W10.cell? ⟨b18, 7, none⟩ = some (.bool r.ot.2.2) := q18.cell (k := 7) rfl
             have g8 : W10.cell? ⟨b18, 8, none⟩ = some (.string r.nonce) := q18.cell (k := 8) rfl
             have g9 : W10.cell? ⟨b18, 9, none⟩ = some (.string r.box) := q18.cell (k := 9) rfl
             have g10 : W10.cell? ⟨b18, 10, none⟩ = some (.string r.mac) := q18.cell (k := 10) rfl
             have g11 : W10.cell? ⟨b18, 11, none⟩ = some (.int .i64 r.code) := q18.cell (k := 11) rfl
             have x11 := q18.frz 11
             have r18 := q18.set 11 (.int .i64 ((c : Int) - 1))
             have t18 : Bk (W10.setCell ⟨b18, 11, none⟩ (.int .i64 ((c : Int) - 1))) 27 b18 (msgL { r with code := (c : Int) - 1 }).toArray := r18
             have r4 := q4.other n418 11 (.int .i64 ((c : Int) - 1))
             have rB := qB.setCell (p := ⟨b18, 11, none⟩) l18 (.int .i64 ((c : Int) - 1))
             clear r18
             obtain ⟨W11, eW11⟩ : ∃ W, W10.setCell ⟨b18, 11, none⟩ (.int .i64 ((c : Int) - 1)) = W := ⟨_, rfl⟩
             rw [eW11] at t18 r4 rB
             have k0 : W11.cell? ⟨b18, 0, none⟩ = some (.int .i64 r.kind) := t18.cell (k := 0) rfl
             have k1 : W11.cell? ⟨b18, 1, none⟩ = some (.string r.user) := t18.cell (k := 1) rfl
             have k2 : W11.cell? ⟨b18, 2, none⟩ = some (.int .u64 (r.el.1 : Int)) := t18.cell (k := 2) rfl
             have k3 : W11.cell? ⟨b18, 3, none⟩ = some (.int .u64 (r.el.2.1 : Int)) := t18.cell (k := 3) rfl
             have k4 : W11.cell? ⟨b18, 4, none⟩ = some (.bool r.el.2.2) := t18.cell (k := 4) rfl
             have k5 : W11.cell? ⟨b18, 5, none⟩ = some (.int .u64 (r.ot.1 : Int)) := t18.cell (k := 5) rfl
             have k6 : W11.cell? ⟨b18, 6, none⟩ = some (.int .u64 (r.ot.2.1 : Int)) := t18.cell (k := 6) rfl
             have k7 : W11.cell? ⟨b18, 7, none⟩ = some (.bool r.ot.2.2) := t18.cell (k := 7) rfl
             have k8 : W11.cell? ⟨b18, 8, none⟩ = some (.string r.nonce) := t18.cell (k := 8) rfl
             have k9 : W11.cell? ⟨b18, 9, none⟩ = some (.string r.box) := t18.cell (k := 9) rfl
             have k10 : W11.cell? ⟨b18, 10, none⟩ = some (.string r.mac) := t18.cell (k := 10) rfl
             have k11 : W11.cell? ⟨b18, 11, none⟩ = some (.int .i64 ((c : Int) - 1)) := t18.cell (k := 11) rfl
             have th4 := r4.there 12 (Nat.le_refl _)
             clear h17 h18 h4 hB th18 c0 c1 c2 c3 c4 c5 c6 c7 c8 c9 c10 c11)
          | (refine wpList_store_mid rfl 27 _ _ rfl b4 0 (msgL { r with code := (c : Int) - 1 }).toArray rfl rfl th4 sizeMsg (oneMsg _) ?_))
        exact bodyPost_ret (v := .tuple #[.agg (msgL { r with code := (c : Int) - 1 }).toArray, .int .i64 Q]) (bk_res2 (fn := Tryz.f16) (p := 4) (u := 5) Tryz.results16 _ rfl (bkS r4 (msgL { r with code := (c : Int) - 1 }) rfl) Tryz.underlying27 rfl sizeMsg) rfl ⟨⟨{ r with code := (c : Int) - 1 }, ⟨hr.up.k0, hr.up.k1, by show (-1 : Int) ≤ (c : Int) - 1; omega, by show (c : Int) - 1 ≤ 8; omega, hr.up.us, hr.up.no, hr.up.bo, hr.up.ma⟩, by rw [← hQp.out]⟩, below_setCells rB hl4 0 (msgL { r with code := (c : Int) - 1 })⟩
      by_cases h27 : h = 27
      · subst h27
        obtain ⟨nx, hnx, hnz⟩ : ∃ nx : ByteArray, r.nonce ++ (⟨#[120]⟩ : ByteArray) = nx ∧ nx.size ≤ 18 := ⟨_, rfl, by rw [ByteArray.size_append]; have := hr.no; have h1 : (⟨#[120]⟩ : ByteArray).size = 1 := rfl; omega⟩
        have hnn : ¬ (9223372036854775807 < r.nonce.size + 1) := by have := hr.no; omega
        go_wp2_with (first
          | (refine wpList_store_mid rfl 27 _ _ rfl b18 0 (msgL r).toArray rfl rfl th18 sizeMsg (oneMsg r) ?_
             generalize hW1 : World.setCells _ _ _ _ = W10
             have q18 : Bk W10 27 b18 (msgL r).toArray := by rw [← hW1]; exact bkS h18 (msgL r) rfl
             have q4 : Bk W10 27 b4 #[.int .i64 0, .string ⟨#[]⟩, .int .u64 0, .int .u64 0, .bool false, .int .u64 0, .int .u64 0, .bool false, .string ⟨#[]⟩, .string ⟨#[]⟩, .string ⟨#[]⟩, .int .i64 0] := by rw [← hW1]; exact bkO h4 n418 _ _
             have qB : Below w.heap.size w W10 := by rw [← hW1]; exact below_setCells hB l18 _ _
             clear hW1
             have g0 : W10.cell? ⟨b18, 0, none⟩ = some (.int .i64 r.kind) := q18.cell (k := 0) rfl
             have g1 : W10.cell? ⟨b18, 1, none⟩ = some (.string r.user) := q18.cell (k := 1) rfl
             have g2 : W10.cell? ⟨b18, 2, none⟩ = some (.int .u64 (r.el.1 : Int)) := q18.cell (k := 2) rfl
             have g3 : W10.cell? ⟨b18, 3, none⟩ = some (.int .u64 (r.el.2.1 : Int)) := q18.cell (k := 3) rfl
             have g4 : W10.cell? ⟨b18, 4, none⟩ = some (.bool r.el.2.2) := q18.cell (k := 4) rfl
             have g5 : W10.cell? ⟨b18, 5, none⟩ = some (.int .u64 (r.ot.1 : Int)) := q18.cell (k := 5) rfl
             have g6 : W10.cell? ⟨b18, 6, none⟩ = some (.int .u64 (r.ot.2.1 : Int)) := q18.cell (k := 6) rfl
             have g7 : W10.cell? ⟨b18, 7, none⟩ = some (.bool r.ot.2.2) := q18.cell (k := 7) rfl
             have g8 : W10.cell? ⟨b18, 8, none⟩ = some (.string r.nonce) := q18.cell (k := 8) rfl
             have g9 : W10.cell? ⟨b18, 9, none⟩ = some (.string r.box) := q18.cell (k := 9) rfl
             have g10 : W10.cell? ⟨b18, 10, none⟩ = some (.string r.mac) := q18.cell (k := 10) rfl
             have g11 : W10.cell? ⟨b18, 11, none⟩ = some (.int .i64 r.code) := q18.cell (k := 11) rfl
             have x8 := q18.frz 8
             have r18 := q18.set 8 (.string nx)
             have t18 : Bk (W10.setCell ⟨b18, 8, none⟩ (.string nx)) 27 b18 (msgL { r with nonce := nx }).toArray := r18
             have r4 := q4.other n418 8 (.string nx)
             have rB := qB.setCell (p := ⟨b18, 8, none⟩) l18 (.string nx)
             clear r18
             obtain ⟨W11, eW11⟩ : ∃ W, W10.setCell ⟨b18, 8, none⟩ (.string nx) = W := ⟨_, rfl⟩
             rw [eW11] at t18 r4 rB
             have k0 : W11.cell? ⟨b18, 0, none⟩ = some (.int .i64 r.kind) := t18.cell (k := 0) rfl
             have k1 : W11.cell? ⟨b18, 1, none⟩ = some (.string r.user) := t18.cell (k := 1) rfl
             have k2 : W11.cell? ⟨b18, 2, none⟩ = some (.int .u64 (r.el.1 : Int)) := t18.cell (k := 2) rfl
             have k3 : W11.cell? ⟨b18, 3, none⟩ = some (.int .u64 (r.el.2.1 : Int)) := t18.cell (k := 3) rfl
             have k4 : W11.cell? ⟨b18, 4, none⟩ = some (.bool r.el.2.2) := t18.cell (k := 4) rfl
             have k5 : W11.cell? ⟨b18, 5, none⟩ = some (.int .u64 (r.ot.1 : Int)) := t18.cell (k := 5) rfl
             have k6 : W11.cell? ⟨b18, 6, none⟩ = some (.int .u64 (r.ot.2.1 : Int)) := t18.cell (k := 6) rfl
             have k7 : W11.cell? ⟨b18, 7, none⟩ = some (.bool r.ot.2.2) := t18.cell (k := 7) rfl
             have k8 : W11.cell? ⟨b18, 8, none⟩ = some (.string nx) := t18.cell (k := 8) rfl
             have k9 : W11.cell? ⟨b18, 9, none⟩ = some (.string r.box) := t18.cell (k := 9) rfl
             have k10 : W11.cell? ⟨b18, 10, none⟩ = some (.string r.mac) := t18.cell (k := 10) rfl
             have k11 : W11.cell? ⟨b18, 11, none⟩ = some (.int .i64 r.code) := t18.cell (k := 11) rfl
             have th4 := r4.there 12 (Nat.le_refl _)
             clear h17 h18 h4 hB th18 c0 c1 c2 c3 c4 c5 c6 c7 c8 c9 c10 c11)
          | (refine wpList_store_mid rfl 27 _ _ rfl b4 0 (msgL { r with nonce := nx }).toArray rfl rfl th4 sizeMsg (oneMsg _) ?_))
        exact bodyPost_ret (v := .tuple #[.agg (msgL { r with nonce := nx }).toArray, .int .i64 Q]) (bk_res2 (fn := Tryz.f16) (p := 4) (u := 5) Tryz.results16 _ rfl (bkS r4 (msgL { r with nonce := nx }) rfl) Tryz.underlying27 rfl sizeMsg) rfl ⟨⟨{ r with nonce := nx }, ⟨hr.up.k0, hr.up.k1, hr.up.c0, hr.up.c1, hr.up.us, hnz, hr.up.bo, hr.up.ma⟩, by rw [← hQp.out]⟩, below_setCells rB hl4 0 (msgL { r with nonce := nx })⟩
      by_cases h28 : h = 28
      · subst h28
        go_wp2_with (first
          | (refine wpList_store_mid rfl 27 _ _ rfl b18 0 (msgL r).toArray rfl rfl th18 sizeMsg (oneMsg r) ?_
             generalize hW1 : World.setCells _ _ _ _ = W10
             have q18 : Bk W10 27 b18 (msgL r).toArray := by rw [← hW1]; exact bkS h18 (msgL r) rfl
             have q4 : Bk W10 27 b4 #[.int .i64 0, .string ⟨#[]⟩, .int .u64 0, .int .u64 0, .bool false, .int .u64 0, .int .u64 0, .bool false, .string ⟨#[]⟩, .string ⟨#[]⟩, .string ⟨#[]⟩, .int .i64 0] := by rw [← hW1]; exact bkO h4 n418 _ _
             have qB : Below w.heap.size w W10 := by rw [← hW1]; exact below_setCells hB l18 _ _
             clear hW1
             have g0 : W10.cell? ⟨b18, 0, none⟩ = some (.int .i64 r.kind) := q18.cell (k := 0) rfl
             have g1 : W10.cell? ⟨b18, 1, none⟩ = some (.string r.user) := q18.cell (k := 1) rfl
             have g2 : W10.cell? ⟨b18, 2, none⟩ = some (.int .u64 (r.el.1 : Int)) := q18.cell (k := 2) rfl
             have g3 : W10.cell? ⟨b18, 3, none⟩ = some (.int .u64 (r.el.2.1 : Int)) := q18.cell (k := 3) rfl
             have g4 : W10.cell? ⟨b18, 4, none⟩ = some (.bool r.el.2.2) := q18.cell (k := 4) rfl
             have g5 : W10.cell? ⟨b18, 5, none⟩ = some (.int .u64 (r.ot.1 : Int)) := q18.cell (k := 5) rfl
             have g6 : W10.cell? ⟨b18, 6, none⟩ = some (.int .u64 (r.ot.2.1 : Int)) := q18.cell (k := 6) rfl
             have g7 : W10.cell? ⟨b18, 7, none⟩ = some (.bool r.ot.2.2) := q18.cell (k := 7) rfl
             have g8 : W10.cell? ⟨b18, 8, none⟩ = some (.string r.nonce) := q18.cell (k := 8) rfl
             have g9 : W10.cell? ⟨b18, 9, none⟩ = some (.string r.box) := q18.cell (k := 9) rfl
             have g10 : W10.cell? ⟨b18, 10, none⟩ = some (.string r.mac) := q18.cell (k := 10) rfl
             have g11 : W10.cell? ⟨b18, 11, none⟩ = some (.int .i64 r.code) := q18.cell (k := 11) rfl
             have x1 := q18.frz 1
             have r18 := q18.set 1 (.string ⟨#[]⟩)
             have t18 : Bk (W10.setCell ⟨b18, 1, none⟩ (.string ⟨#[]⟩)) 27 b18 (msgL { r with user := ⟨#[]⟩ }).toArray := r18
             have r4 := q4.other n418 1 (.string ⟨#[]⟩)
             have rB := qB.setCell (p := ⟨b18, 1, none⟩) l18 (.string ⟨#[]⟩)
             clear r18
             obtain ⟨W11, eW11⟩ : ∃ W, W10.setCell ⟨b18, 1, none⟩ (.string ⟨#[]⟩) = W := ⟨_, rfl⟩
             rw [eW11] at t18 r4 rB
             have k0 : W11.cell? ⟨b18, 0, none⟩ = some (.int .i64 r.kind) := t18.cell (k := 0) rfl
             have k1 : W11.cell? ⟨b18, 1, none⟩ = some (.string ⟨#[]⟩) := t18.cell (k := 1) rfl
             have k2 : W11.cell? ⟨b18, 2, none⟩ = some (.int .u64 (r.el.1 : Int)) := t18.cell (k := 2) rfl
             have k3 : W11.cell? ⟨b18, 3, none⟩ = some (.int .u64 (r.el.2.1 : Int)) := t18.cell (k := 3) rfl
             have k4 : W11.cell? ⟨b18, 4, none⟩ = some (.bool r.el.2.2) := t18.cell (k := 4) rfl
             have k5 : W11.cell? ⟨b18, 5, none⟩ = some (.int .u64 (r.ot.1 : Int)) := t18.cell (k := 5) rfl
             have k6 : W11.cell? ⟨b18, 6, none⟩ = some (.int .u64 (r.ot.2.1 : Int)) := t18.cell (k := 6) rfl
             have k7 : W11.cell? ⟨b18, 7, none⟩ = some (.bool r.ot.2.2) := t18.cell (k := 7) rfl
             have k8 : W11.cell? ⟨b18, 8, none⟩ = some (.string r.nonce) := t18.cell (k := 8) rfl
             have k9 : W11.cell? ⟨b18, 9, none⟩ = some (.string r.box) := t18.cell (k := 9) rfl
             have k10 : W11.cell? ⟨b18, 10, none⟩ = some (.string r.mac) := t18.cell (k := 10) rfl
             have k11 : W11.cell? ⟨b18, 11, none⟩ = some (.int .i64 r.code) := t18.cell (k := 11) rfl
             have th4 := r4.there 12 (Nat.le_refl _)
             clear h17 h18 h4 hB th18 c0 c1 c2 c3 c4 c5 c6 c7 c8 c9 c10 c11)
          | (refine wpList_store_mid rfl 27 _ _ rfl b4 0 (msgL { r with user := ⟨#[]⟩ }).toArray rfl rfl th4 sizeMsg (oneMsg _) ?_))
        exact bodyPost_ret (v := .tuple #[.agg (msgL { r with user := ⟨#[]⟩ }).toArray, .int .i64 Q]) (bk_res2 (fn := Tryz.f16) (p := 4) (u := 5) Tryz.results16 _ rfl (bkS r4 (msgL { r with user := ⟨#[]⟩ }) rfl) Tryz.underlying27 rfl sizeMsg) rfl ⟨⟨{ r with user := ⟨#[]⟩ }, ⟨hr.up.k0, hr.up.k1, hr.up.c0, hr.up.c1, Nat.zero_le _, hr.up.no, hr.up.bo, hr.up.ma⟩, by rw [← hQp.out]⟩, below_setCells rB hl4 0 (msgL { r with user := ⟨#[]⟩ })⟩
      by_cases h29 : h = 29
      · subst h29
        obtain ⟨sx, hsx, hzx⟩ : ∃ sx : ByteArray, s.extract 65 s.size = sx ∧ sx.size ≤ 32 := ⟨_, rfl, by rw [ByteArray.size_extract]; have := hs.out; omega⟩
        have k65 : 65 ≤ s.size := by have := hs.out; omega
        go_wp2_with (first
          | (refine wpList_store_mid rfl 27 _ _ rfl b18 0 (msgL r).toArray rfl rfl th18 sizeMsg (oneMsg r) ?_
             generalize hW1 : World.setCells _ _ _ _ = W10
             have q18 : Bk W10 27 b18 (msgL r).toArray := by rw [← hW1]; exact bkS h18 (msgL r) rfl
             have q4 : Bk W10 27 b4 #[.int .i64 0, .string ⟨#[]⟩, .int .u64 0, .int .u64 0, .bool false, .int .u64 0, .int .u64 0, .bool false, .string ⟨#[]⟩, .string ⟨#[]⟩, .string ⟨#[]⟩, .int .i64 0] := by rw [← hW1]; exact bkO h4 n418 _ _
             have qB : Below w.heap.size w W10 := by rw [← hW1]; exact below_setCells hB l18 _ _
             clear hW1
             have g0 : W10.cell? ⟨b18, 0, none⟩ = some (.int .i64 r.kind) := q18.cell (k := 0) rfl
             have g1 : W10.cell? ⟨b18, 1, none⟩ = some (.string r.user) := q18.cell (k := 1) rfl
             have g2 : W10.cell? ⟨b18, 2, none⟩ = some (.int .u64 (r.el.1 : Int)) := q18.cell (k := 2) rfl
             have g3 : W10.cell? ⟨b18, 3, none⟩ = some (.int .u64 (r.el.2.1 : Int)) := q18.cell (k := 3) rfl
             have g4 : W10.cell? ⟨b18, 4, none⟩ = some (.bool r.el.2.2) := q18.cell (k := 4) rfl
             have g5 : W10.cell? ⟨b18, 5, none⟩ = some (.int .u64 (r.ot.1 : Int)) := q18.cell (k := 5) rfl
             have g6 : W10.cell? ⟨b18, 6, none⟩ = some (.int .u64 (r.ot.2.1 : Int)) := q18.cell (k := 6) rfl
             have g7 : W10.cell? ⟨b18, 7, none⟩ = some (.bool r.ot.2.2) := q18.cell (k := 7) rfl
             have g8 : W10.cell? ⟨b18, 8, none⟩ = some (.string r.nonce) := q18.cell (k := 8) rfl
             have g9 : W10.cell? ⟨b18, 9, none⟩ = some (.string r.box) := q18.cell (k := 9) rfl
             have g10 : W10.cell? ⟨b18, 10, none⟩ = some (.string r.mac) := q18.cell (k := 10) rfl
             have g11 : W10.cell? ⟨b18, 11, none⟩ = some (.int .i64 r.code) := q18.cell (k := 11) rfl
             have x10 := q18.frz 10
             have r18 := q18.set 10 (.string sx)
             have t18 : Bk (W10.setCell ⟨b18, 10, none⟩ (.string sx)) 27 b18 (msgL { r with mac := sx }).toArray := r18
             have r4 := q4.other n418 10 (.string sx)
             have rB := qB.setCell (p := ⟨b18, 10, none⟩) l18 (.string sx)
             clear r18
             obtain ⟨W11, eW11⟩ : ∃ W, W10.setCell ⟨b18, 10, none⟩ (.string sx) = W := ⟨_, rfl⟩
             rw [eW11] at t18 r4 rB
             have k0 : W11.cell? ⟨b18, 0, none⟩ = some (.int .i64 r.kind) := t18.cell (k := 0) rfl
             have k1 : W11.cell? ⟨b18, 1, none⟩ = some (.string r.user) := t18.cell (k := 1) rfl
             have k2 : W11.cell? ⟨b18, 2, none⟩ = some (.int .u64 (r.el.1 : Int)) := t18.cell (k := 2) rfl
             have k3 : W11.cell? ⟨b18, 3, none⟩ = some (.int .u64 (r.el.2.1 : Int)) := t18.cell (k := 3) rfl
             have k4 : W11.cell? ⟨b18, 4, none⟩ = some (.bool r.el.2.2) := t18.cell (k := 4) rfl
             have k5 : W11.cell? ⟨b18, 5, none⟩ = some (.int .u64 (r.ot.1 : Int)) := t18.cell (k := 5) rfl
             have k6 : W11.cell? ⟨b18, 6, none⟩ = some (.int .u64 (r.ot.2.1 : Int)) := t18.cell (k := 6) rfl
             have k7 : W11.cell? ⟨b18, 7, none⟩ = some (.bool r.ot.2.2) := t18.cell (k := 7) rfl
             have k8 : W11.cell? ⟨b18, 8, none⟩ = some (.string r.nonce) := t18.cell (k := 8) rfl
             have k9 : W11.cell? ⟨b18, 9, none⟩ = some (.string r.box) := t18.cell (k := 9) rfl
             have k10 : W11.cell? ⟨b18, 10, none⟩ = some (.string sx) := t18.cell (k := 10) rfl
             have k11 : W11.cell? ⟨b18, 11, none⟩ = some (.int .i64 r.code) := t18.cell (k := 11) rfl
             have th4 := r4.there 12 (Nat.le_refl _)
             clear h17 h18 h4 hB th18 c0 c1 c2 c3 c4 c5 c6 c7 c8 c9 c10 c11)
          | (refine wpList_store_mid rfl 27 _ _ rfl b4 0 (msgL { r with mac := sx }).toArray rfl rfl th4 sizeMsg (oneMsg _) ?_))
        exact bodyPost_ret (v := .tuple #[.agg (msgL { r with mac := sx }).toArray, .int .i64 Q]) (bk_res2 (fn := Tryz.f16) (p := 4) (u := 5) Tryz.results16 _ rfl (bkS r4 (msgL { r with mac := sx }) rfl) Tryz.underlying27 rfl sizeMsg) rfl ⟨⟨{ r with mac := sx }, ⟨hr.up.k0, hr.up.k1, hr.up.c0, hr.up.c1, hr.up.us, hr.up.no, hr.up.bo, hzx⟩, by rw [← hQp.out]⟩, below_setCells rB hl4 0 (msgL { r with mac := sx })⟩
      have i25 : ¬ (h : Int) = 25 := fun e => h25 (Int.ofNat.inj e)
      have i26 : ¬ (h : Int) = 26 := fun e => h26 (Int.ofNat.inj e)
      have i27 : ¬ (h : Int) = 27 := fun e => h27 (Int.ofNat.inj e)
      have i28 : ¬ (h : Int) = 28 := fun e => h28 (Int.ofNat.inj e)
      have i29 : ¬ (h : Int) = 29 := fun e => h29 (Int.ofNat.inj e)
      go_wp2_with (first
        | (refine wpList_store_mid rfl 27 _ _ rfl b18 0 (msgL r).toArray rfl rfl th18 sizeMsg (oneMsg r) ?_
           generalize hW1 : World.setCells _ _ _ _ = W10
           have q18 : Bk W10 27 b18 (msgL r).toArray := by rw [← hW1]; exact bkS h18 (msgL r) rfl
           have q4 : Bk W10 27 b4 #[.int .i64 0, .string ⟨#[]⟩, .int .u64 0, .int .u64 0, .bool false, .int .u64 0, .int .u64 0, .bool false, .string ⟨#[]⟩, .string ⟨#[]⟩, .string ⟨#[]⟩, .int .i64 0] := by rw [← hW1]; exact bkO h4 n418 _ _
           have qB : Below w.heap.size w W10 := by rw [← hW1]; exact below_setCells hB l18 _ _
           clear hW1
           have g0 : W10.cell? ⟨b18, 0, none⟩ = some (.int .i64 r.kind) := q18.cell (k := 0) rfl
           have g1 : W10.cell? ⟨b18, 1, none⟩ = some (.string r.user) := q18.cell (k := 1) rfl
           have g2 : W10.cell? ⟨b18, 2, none⟩ = some (.int .u64 (r.el.1 : Int)) := q18.cell (k := 2) rfl
           have g3 : W10.cell? ⟨b18, 3, none⟩ = some (.int .u64 (r.el.2.1 : Int)) := q18.cell (k := 3) rfl
           have g4 : W10.cell? ⟨b18, 4, none⟩ = some (.bool r.el.2.2) := q18.cell (k := 4) rfl
           have g5 : W10.cell? ⟨b18, 5, none⟩ = some (.int .u64 (r.ot.1 : Int)) := q18.cell (k := 5) rfl
           have g6 : W10.cell? ⟨b18, 6, none⟩ = some (.int .u64 (r.ot.2.1 : Int)) := q18.cell (k := 6) rfl
           have g7 : W10.cell? ⟨b18, 7, none⟩ = some (.bool r.ot.2.2) := q18.cell (k := 7) rfl
           have g8 : W10.cell? ⟨b18, 8, none⟩ = some (.string r.nonce) := q18.cell (k := 8) rfl
           have g9 : W10.cell? ⟨b18, 9, none⟩ = some (.string r.box) := q18.cell (k := 9) rfl
           have g10 : W10.cell? ⟨b18, 10, none⟩ = some (.string r.mac) := q18.cell (k := 10) rfl
           have g11 : W10.cell? ⟨b18, 11, none⟩ = some (.int .i64 r.code) := q18.cell (k := 11) rfl
           have r4 := q4
           have rB := qB
           have th4 := r4.there 12 (Nat.le_refl _)
           clear h17 h18 h4 hB th18 c0 c1 c2 c3 c4 c5 c6 c7 c8 c9 c10 c11)
        | (refine wpList_store_mid rfl 27 _ _ rfl b4 0 (msgL r).toArray rfl rfl th4 sizeMsg (oneMsg _) ?_))
      exact bodyPost_ret (v := .tuple #[.agg (msgL r).toArray, .int .i64 Q]) (bk_res2 (fn := Tryz.f16) (p := 4) (u := 5) Tryz.results16 _ rfl (bkS r4 (msgL r) rfl) Tryz.underlying27 rfl sizeMsg) rfl ⟨⟨r, hr.up, by rw [← hQp.out]⟩, below_setCells rB hl4 0 (msgL r)⟩
theorem dpm (v : Value) (w : World) (hv : Cod w v) :
    Calls Tryz.prog 4 #[v] w fun e w' => (∃ (m : Msg), Dm 18 m ∧ e = .returned (.agg (msgL m).toArray)) ∧ Below w.heap.size w w' := by
  have h4 := Bk.new w 27 #[.int .i64 0, .string ⟨#[]⟩, .int .u64 0, .int .u64 0, .bool false, .int .u64 0, .int .u64 0, .bool false, .string ⟨#[]⟩, .string ⟨#[]⟩, .string ⟨#[]⟩, .int .i64 0]
  have hB := (Below.refl _ w).alloc (Nat.le_refl _) (Obj.cells #[.int .i64 0, .string ⟨#[]⟩, .int .u64 0, .int .u64 0, .bool false, .int .u64 0, .int .u64 0, .bool false, .string ⟨#[]⟩, .string ⟨#[]⟩, .string ⟨#[]⟩, .int .i64 0] 27)
  have sz : (w.alloc (Obj.cells #[.int .i64 0, .string ⟨#[]⟩, .int .u64 0, .int .u64 0, .bool false, .int .u64 0, .int .u64 0, .bool false, .string ⟨#[]⟩, .string ⟨#[]⟩, .string ⟨#[]⟩, .int .i64 0] 27)).heap.size = w.heap.size + 1 := by simp
  obtain ⟨W1, eW1⟩ : ∃ W, w.alloc (Obj.cells #[.int .i64 0, .string ⟨#[]⟩, .int .u64 0, .int .u64 0, .bool false, .int .u64 0, .int .u64 0, .bool false, .string ⟨#[]⟩, .string ⟨#[]⟩, .string ⟨#[]⟩, .int .i64 0] 27) = W := ⟨_, rfl⟩
  rw [eW1] at h4 hB sz
  obtain ⟨b4, qb4⟩ : ∃ b, w.heap.size = b := ⟨_, rfl⟩
  rw [qb4] at h4
  have hl4 : w.heap.size ≤ b4 := by omega
  have T := mdr v 0 W1 (hv.below hB) (by omega)
  go_enter Tryz.func4, Tryz.ntmps4
  go_wp2_with fail
  refine T.mono ?_
  rintro e w2 ⟨⟨r, hr, rfl⟩, d1⟩
  have hlt := h4.lt
  replace h4 := h4.keep d1
  have hs := d1.size
  replace hB := hB.trans (d1.mono hB.size)
  clear T d1 eW1 qb4
  simp only [msgL]
  have h3 := Bk.new w2 27 #[.int .i64 r.kind, .string r.user, .int .u64 (r.el.1 : Int), .int .u64 (r.el.2.1 : Int), .bool r.el.2.2, .int .u64 (r.ot.1 : Int), .int .u64 (r.ot.2.1 : Int), .bool r.ot.2.2, .string r.nonce, .string r.box, .string r.mac, .int .i64 r.code]
  replace h4 := h4.alloc (Obj.cells #[.int .i64 r.kind, .string r.user, .int .u64 (r.el.1 : Int), .int .u64 (r.el.2.1 : Int), .bool r.el.2.2, .int .u64 (r.ot.1 : Int), .int .u64 (r.ot.2.1 : Int), .bool r.ot.2.2, .string r.nonce, .string r.box, .string r.mac, .int .i64 r.code] 27)
  replace hB := hB.alloc hB.size (Obj.cells #[.int .i64 r.kind, .string r.user, .int .u64 (r.el.1 : Int), .int .u64 (r.el.2.1 : Int), .bool r.el.2.2, .int .u64 (r.ot.1 : Int), .int .u64 (r.ot.2.1 : Int), .bool r.ot.2.2, .string r.nonce, .string r.box, .string r.mac, .int .i64 r.code] 27)
  obtain ⟨W3, eW3⟩ : ∃ W, w2.alloc (Obj.cells #[.int .i64 r.kind, .string r.user, .int .u64 (r.el.1 : Int), .int .u64 (r.el.2.1 : Int), .bool r.el.2.2, .int .u64 (r.ot.1 : Int), .int .u64 (r.ot.2.1 : Int), .bool r.ot.2.2, .string r.nonce, .string r.box, .string r.mac, .int .i64 r.code] 27) = W := ⟨_, rfl⟩
  rw [eW3] at h4 h3 hB
  obtain ⟨b3, qb3⟩ : ∃ b, w2.heap.size = b := ⟨_, rfl⟩
  rw [qb3] at h3
  have n34 : b4 ≠ b3 := by omega
  have c0 : W3.cell? ⟨b3, 0, none⟩ = some (.int .i64 r.kind) := h3.cell (k := 0) rfl
  have c1 : W3.cell? ⟨b3, 1, none⟩ = some (.string r.user) := h3.cell (k := 1) rfl
  have c2 : W3.cell? ⟨b3, 2, none⟩ = some (.int .u64 (r.el.1 : Int)) := h3.cell (k := 2) rfl
  have c3 : W3.cell? ⟨b3, 3, none⟩ = some (.int .u64 (r.el.2.1 : Int)) := h3.cell (k := 3) rfl
  have c4 : W3.cell? ⟨b3, 4, none⟩ = some (.bool r.el.2.2) := h3.cell (k := 4) rfl
  have c5 : W3.cell? ⟨b3, 5, none⟩ = some (.int .u64 (r.ot.1 : Int)) := h3.cell (k := 5) rfl
  have c6 : W3.cell? ⟨b3, 6, none⟩ = some (.int .u64 (r.ot.2.1 : Int)) := h3.cell (k := 6) rfl
  have c7 : W3.cell? ⟨b3, 7, none⟩ = some (.bool r.ot.2.2) := h3.cell (k := 7) rfl
  have c8 : W3.cell? ⟨b3, 8, none⟩ = some (.string r.nonce) := h3.cell (k := 8) rfl
  have c9 : W3.cell? ⟨b3, 9, none⟩ = some (.string r.box) := h3.cell (k := 9) rfl
  have c10 : W3.cell? ⟨b3, 10, none⟩ = some (.string r.mac) := h3.cell (k := 10) rfl
  have c11 : W3.cell? ⟨b3, 11, none⟩ = some (.int .i64 r.code) := h3.cell (k := 11) rfl
  have th4 := h4.there 12 (Nat.le_refl _)
  go_wp2_with (refine wpList_store_mid rfl 27 _ _ rfl b4 0 (msgL r).toArray rfl rfl th4 sizeMsg (oneMsg _) ?_)
  exact bodyPost_ret (v := .agg (msgL r).toArray) (bk_res1 (fn := Tryz.f4) (p := 2) Tryz.results4 _ rfl (bkS h4 (msgL r) rfl) Tryz.underlying27 rfl sizeMsg) rfl ⟨⟨r, hr, rfl⟩, below_setCells hB hl4 0 (msgL r)⟩
end Go.Proofs.YtdaobioomoajfaaGreat
namespace Go.Proofs.YtdaobioomoajfaaGreat.X
open Go.RowKit
section
variable {A : Act} {w : World} {dst : Option Tmp} {ty : TypeId} {ps : String} {af : Array Edge} {gd : Option (Nat × Bool)} {x y z : Operand} {b i : Nat}
theorem cvN {k d : Int} (hx : A.eval x = .int .i64 k) (hw : IntKind.u64.wrap k = d) : Does Tryz.prog { dst := dst, op := .convert 3 64 x, type := ty, pos := ps, after := af, guard := gd } A w fun v' w' => v' = .int .u64 d ∧ Below w.heap.size w w' := by
  have h : (execOp A.eval { dst := dst, op := .convert 3 64 x, type := ty, pos := ps, after := af, guard := gd }).run Tryz.prog w = .ok (.value (.int .u64 d)) w := by generalize A.eval = ev at *; simp [execOp, hx, hw, go_sem]
  exact does_value h ⟨rfl, Below.refl _ _⟩
theorem shU {n d : Int} (hy : A.eval y = .int .u64 n) (h0 : 0 ≤ n) (h1 : n ≤ 8) (hd : (128 : Int) / 2 ^ n.toNat = d) : Does Tryz.prog { dst := dst, op := .binOp .shr 5 (.const (.int .u8 128)) y 64, type := ty, pos := ps, after := af, guard := gd } A w fun v' w' => v' = .int .u8 d ∧ Below w.heap.size w w' := by
  have hc : A.eval (.const (.int .u8 128)) = .int .u8 128 := rfl
  have h : (execOp A.eval { dst := dst, op := .binOp .shr 5 (.const (.int .u8 128)) y 64, type := ty, pos := ps, after := af, guard := gd }).run Tryz.prog w = .ok (.value (.int .u8 d)) w := by generalize A.eval = ev at *; simp [execOp, hc, hy, hd, go_sem]
  exact does_value h ⟨rfl, Below.refl _ _⟩
theorem xoU {k c d : Int} (hx : A.eval x = .int .u8 k) (hy : A.eval y = .int .u8 c) (hd : bits .xor .u8 k c = d) : Does Tryz.prog { dst := dst, op := .binOp .xor 5 x y 5, type := ty, pos := ps, after := af, guard := gd } A w fun v' w' => v' = .int .u8 d ∧ Below w.heap.size w w' := by
  have h : (execOp A.eval { dst := dst, op := .binOp .xor 5 x y 5, type := ty, pos := ps, after := af, guard := gd }).run Tryz.prog w = .ok (.value (.int .u8 d)) w := by generalize A.eval = ev at *; simp [execOp, hx, hy, hd, go_sem]
  exact does_value h ⟨rfl, Below.refl _ _⟩
end
end Go.Proofs.YtdaobioomoajfaaGreat.X
namespace Go.Proofs.YtdaobioomoajfaaGreat
open Go.RowKit M
theorem Dm.fld {m : Msg} (h : Dm 18 m) (q : Lt) : (fld m q).size ≤ 48 := by
  have h1 := h.us
  have h2 := h.no
  have h3 := h.bo
  have h4 := h.ma
  cases q with
  | u => show (sizB m.user).size ≤ 48; rw [sizB_size]; omega
  | e => show (ptM m.el).size ≤ 48; unfold ptM; rw [ptX_size]; omega
  | o => show (ptM m.ot).size ≤ 48; unfold ptM; rw [ptX_size]; omega
  | n => show m.nonce.size ≤ 48; omega
  | b => show m.box.size ≤ 48; omega
  | m => show m.mac.size ≤ 48; omega
  | c => show (byB m.code).size ≤ 48; unfold byB; rw [strOfNums_size]; simp
theorem Dm.cat {m : Msg} (h : Dm 18 m) : ∀ l : List Lt, (cat m l).size ≤ l.length * 48
  | [] => Nat.zero_le _
  | q :: l => by
    have h1 := h.fld q
    have h2 := h.cat l
    show (Go.Proofs.YtdaobioomoajfaaGreat.fld m q ++ Go.Proofs.YtdaobioomoajfaaGreat.cat m l).size ≤ (l.length + 1) * 48
    rw [ByteArray.size_append]
    omega
theorem Dm.put {m : Msg} (h : Dm 18 m) : (putM m).size ≤ 241 := by
  unfold putM
  split
  · have h1 := h.cat (flds m.kind)
    have h2 := flds_le m.kind
    have h3 : (byB m.kind).size = 1 := by unfold byB; rw [strOfNums_size]; rfl
    rw [ByteArray.size_append]
    omega
  · exact Nat.zero_le _
theorem Dm.fits {m : Msg} (h : Dm 18 m) : Fits m := by
  have h0 := h.k0
  have h1 := h.k1
  have h2 := h.c0
  have h3 := h.c1
  have h4 := h.us
  have h5 := h.cat (flds m.kind)
  have h6 := flds_le m.kind
  exact ⟨by omega, by omega, by omega, by omega, by omega, by omega⟩
theorem dgm (v : Value) (w : World) (hv : Cod w v) :
    Calls Tryz.prog 8 #[v] w fun e w' => (∃ (t : ByteArray), t.size ≤ 1000 ∧ e = .returned (.string t)) ∧ Below w.heap.size w w' := by
  have T1 := take_any v 0 12 w hv (by omega) (by omega) (by omega)
  go_enter Tryz.func8, Tryz.ntmps8
  go_wp2_with fail
  refine T1.mono ?_
  rintro e w1 ⟨⟨h, hh, rfl⟩, rfl⟩
  clear T1
  have T2 := mdr v 1 w hv (by omega)
  go_wp2_with fail
  refine T2.mono ?_
  rintro e w1 ⟨⟨r, hr, rfl⟩, hB⟩
  clear T2
  simp only [msgL]
  have h5 := Bk.new w1 27 #[.int .i64 r.kind, .string r.user, .int .u64 (r.el.1 : Int), .int .u64 (r.el.2.1 : Int), .bool r.el.2.2, .int .u64 (r.ot.1 : Int), .int .u64 (r.ot.2.1 : Int), .bool r.ot.2.2, .string r.nonce, .string r.box, .string r.mac, .int .i64 r.code]
  replace hB := hB.alloc hB.size (Obj.cells #[.int .i64 r.kind, .string r.user, .int .u64 (r.el.1 : Int), .int .u64 (r.el.2.1 : Int), .bool r.el.2.2, .int .u64 (r.ot.1 : Int), .int .u64 (r.ot.2.1 : Int), .bool r.ot.2.2, .string r.nonce, .string r.box, .string r.mac, .int .i64 r.code] 27)
  obtain ⟨W2, eW2⟩ : ∃ W, w1.alloc (Obj.cells #[.int .i64 r.kind, .string r.user, .int .u64 (r.el.1 : Int), .int .u64 (r.el.2.1 : Int), .bool r.el.2.2, .int .u64 (r.ot.1 : Int), .int .u64 (r.ot.2.1 : Int), .bool r.ot.2.2, .string r.nonce, .string r.box, .string r.mac, .int .i64 r.code] 27) = W := ⟨_, rfl⟩
  rw [eW2] at h5 hB
  obtain ⟨b5, qb5⟩ : ∃ b, w1.heap.size = b := ⟨_, rfl⟩
  rw [qb5] at h5
  have c0 : W2.cell? ⟨b5, 0, none⟩ = some (.int .i64 r.kind) := h5.cell (k := 0) rfl
  have c1 : W2.cell? ⟨b5, 1, none⟩ = some (.string r.user) := h5.cell (k := 1) rfl
  have c2 : W2.cell? ⟨b5, 2, none⟩ = some (.int .u64 (r.el.1 : Int)) := h5.cell (k := 2) rfl
  have c3 : W2.cell? ⟨b5, 3, none⟩ = some (.int .u64 (r.el.2.1 : Int)) := h5.cell (k := 3) rfl
  have c4 : W2.cell? ⟨b5, 4, none⟩ = some (.bool r.el.2.2) := h5.cell (k := 4) rfl
  have c5 : W2.cell? ⟨b5, 5, none⟩ = some (.int .u64 (r.ot.1 : Int)) := h5.cell (k := 5) rfl
  have c6 : W2.cell? ⟨b5, 6, none⟩ = some (.int .u64 (r.ot.2.1 : Int)) := h5.cell (k := 6) rfl
  have c7 : W2.cell? ⟨b5, 7, none⟩ = some (.bool r.ot.2.2) := h5.cell (k := 7) rfl
  have c8 : W2.cell? ⟨b5, 8, none⟩ = some (.string r.nonce) := h5.cell (k := 8) rfl
  have c9 : W2.cell? ⟨b5, 9, none⟩ = some (.string r.box) := h5.cell (k := 9) rfl
  have c10 : W2.cell? ⟨b5, 10, none⟩ = some (.string r.mac) := h5.cell (k := 10) rfl
  have c11 : W2.cell? ⟨b5, 11, none⟩ = some (.int .i64 r.code) := h5.cell (k := 11) rfl
  have T3 := pmS r W2 hr.fits
  obtain ⟨s, hs⟩ : ∃ s, putM r = s := ⟨_, rfl⟩
  have hz := hr.put
  rw [hs] at T3 hz
  simp only [msgL] at T3
  go_wp2_with fail
  refine T3.mono ?_
  rintro e w3 ⟨rfl, d1⟩
  replace hB := hB.trans (d1.mono hB.size)
  clear T3 d1 eW2 qb5 h5 hs c0 c1 c2 c3 c4 c5 c6 c7 c8 c9 c10 c11
  have T4 := take_any v 125 (s.size + 1) w3 (hv.below hB) (by omega) (by omega) (by omega)
  have e1 : ((s.size + 1 : Nat) : Int) = (s.size : Int) + 1 := by omega
  rw [e1] at T4
  clear e1
  go_wp2_with fail
  refine T4.mono ?_
  rintro e w4 ⟨⟨x, hx, rfl⟩, rfl⟩
  clear T4
  have T5 := take_any v 126 256 w3 (hv.below hB) (by omega) (by omega) (by omega)
  go_wp2_with fail
  refine T5.mono ?_
  rintro e w4 ⟨⟨y, hy, rfl⟩, rfl⟩
  clear T5
  have hxs : x ≤ s.size := by omega
  have hw8 : IntKind.u8.wrap (y : Int) = (y : Int) := by rw [IntKind.wrap_u8]; omega
  have hl1 : (strOfNums [(y : Int)]).size = 1 := by rw [strOfNums_size]; rfl
  obtain ⟨p1, hp1, hp2⟩ : ∃ p1 : ByteArray, s.extract 0 x = p1 ∧ p1.size ≤ 241 := ⟨_, rfl, by rw [ByteArray.size_extract]; omega⟩
  have hB1 : Below w.heap.size w w3 := hB
  by_cases h0 : h = 0
  · subst h0
    by_cases hxl : x < s.size
    · have hxi : (x : Int) < (s.size : Int) := by omega
      have hwx : IntKind.i64.wrap ((x : Int) + 1) = ((x + 1 : Nat) : Int) := by rw [IntKind.wrap_i64]; omega
      obtain ⟨p2, hp3, hp4⟩ : ∃ p2 : ByteArray, s.extract (x + 1) s.size = p2 ∧ p2.size ≤ 241 := ⟨_, rfl, by rw [ByteArray.size_extract]; omega⟩
      have hc1 : p1.size + (strOfNums [(y : Int)]).size ≤ 9223372036854775807 := by omega
      have hc2 : (p1 ++ strOfNums [(y : Int)]).size + p2.size ≤ 9223372036854775807 := by rw [ByteArray.size_append]; omega
      have hx1 : x + 1 ≤ s.size := hxl
      go_wp2
      refine G.pool_list (W := w3) [] [.val (.string s),
          .val (.int .i64 (x : Int)),
          .val (.string p1),
          .val (.int .i64 (y : Int)),
          .val (.int .u8 (y : Int)),
          .new (.cells #[.int .u8 (y : Int)] 5) (.cells #[.int .u8 (y : Int)] 5) 1001,
          .val (.string (strOfNums [(y : Int)])),
          .val (.string (p1 ++ strOfNums [(y : Int)])),
          .val (.string s),
          .val (.int .i64 (x : Int)),
          .val (.int .i64 ((x + 1 : Nat) : Int)),
          .val (.string p2),
          .val (.string (p1 ++ strOfNums [(y : Int)] ++ p2)),
          .val (.string (p1 ++ strOfNums [(y : Int)] ++ p2))] [[7], [8], [48, 49], [10], [51], [52], [53], [50, 54], [7], [8], [57], [56, 58], [55, 59], [60]] (fun f => [(some 48, .string s), (some 49, .int .i64 (x : Int)), (some 50, .string p1), (some 51, .int .i64 (y : Int)), (some 52, .int .u8 (y : Int)), (some 53, .slice (some ⟨f 5, 0, none⟩) 1 1), (some 54, .string (strOfNums [(y : Int)])), (some 55, .string (p1 ++ strOfNums [(y : Int)])), (some 56, .string s), (some 57, .int .i64 (x : Int)), (some 58, .int .i64 ((x + 1 : Nat) : Int)), (some 59, .string p2), (some 60, .string (p1 ++ strOfNums [(y : Int)] ++ p2)), (some 2, .string (p1 ++ strOfNums [(y : Int)] ++ p2))]) (by kernel_rfl) (by kernel_rfl) (by kernel_rfl) (by kernel_rfl) (fun _ => by kernel_rfl) (G.last_of [.cells #[.int .u8 (y : Int)] 5] (fun F R hm => by simp at hm) (fun ob ob' k hm => by simp at hm; simp [hm]) (fun b ob ob' hm => by simp at hm)) (fun b ob ob' hm => by simp at hm) ?_ ?_
      · intro ix hix
        match ix, hix with
        | 0, _ => exact G.ob_val [(7, .string s)] rfl rfl (fun _ => by kernel_rfl) (fun A w ⟨e0, _⟩ hB => Y.move e0)
        | 1, _ => exact G.ob_val [(8, .int .i64 (x : Int))] rfl rfl (fun _ => by kernel_rfl) (fun A w ⟨e0, _⟩ hB => Y.move e0)
        | 2, _ => exact G.ob_val [(48, .string s), (49, .int .i64 (x : Int))] rfl rfl (fun _ => by kernel_rfl) (fun A w ⟨e0, e1, _⟩ hB => X.slP e0 e1 hxs hp1)
        | 3, _ => exact G.ob_val [(10, .int .i64 (y : Int))] rfl rfl (fun _ => by kernel_rfl) (fun A w ⟨e0, _⟩ hB => Y.move e0)
        | 4, _ => exact G.ob_val [(51, .int .i64 (y : Int))] rfl rfl (fun _ => by kernel_rfl) (fun A w ⟨e0, _⟩ hB => L.cv8 e0 hw8)
        | 5, _ => exact G.ob_slc 1 [(52, .int .u8 (y : Int))] rfl rfl (fun _ => by kernel_rfl) (fun A w ⟨e0, _⟩ => L.sl1 e0)
        | 6, _ => exact G.ob_use 53 5 1001 (.cells #[.int .u8 (y : Int)] 5) (fun f => [(53, .slice (some ⟨f 5, 0, none⟩) 1 1)]) rfl rfl (by decide) (by kernel_rfl) rfl (fun _ => by kernel_rfl) (fun f A w ⟨e0, _⟩ hB hr => L.cvS e0 hr)
        | 7, _ => exact G.ob_val [(50, .string p1), (54, .string (strOfNums [(y : Int)]))] rfl rfl (fun _ => by kernel_rfl) (fun A w ⟨e0, e1, _⟩ hB => Y.cat e0 e1 hc1)
        | 8, _ => exact G.ob_val [(7, .string s)] rfl rfl (fun _ => by kernel_rfl) (fun A w ⟨e0, _⟩ hB => Y.move e0)
        | 9, _ => exact G.ob_val [(8, .int .i64 (x : Int))] rfl rfl (fun _ => by kernel_rfl) (fun A w ⟨e0, _⟩ hB => Y.move e0)
        | 10, _ => exact G.ob_val [(57, .int .i64 (x : Int))] rfl rfl (fun _ => by kernel_rfl) (fun A w ⟨e0, _⟩ hB => X.add e0 rfl hwx)
        | 11, _ => exact G.ob_val [(56, .string s), (58, .int .i64 ((x + 1 : Nat) : Int))] rfl rfl (fun _ => by kernel_rfl) (fun A w ⟨e0, e1, _⟩ hB => X.slT (k := x + 1) e0 e1 hx1 hp3)
        | 12, _ => exact G.ob_val [(55, .string (p1 ++ strOfNums [(y : Int)])), (59, .string p2)] rfl rfl (fun _ => by kernel_rfl) (fun A w ⟨e0, e1, _⟩ hB => Y.cat e0 e1 hc2)
        | 13, _ => exact G.ob_val [(60, .string (p1 ++ strOfNums [(y : Int)] ++ p2))] rfl rfl (fun _ => by kernel_rfl) (fun A w ⟨e0, _⟩ hB => Y.assign e0)
        | ix + 14, h => exact absurd h (by simp)
      intro f W5 hS _ _ _ _
      have b1 : Below w3.heap.size w3 W5 := (Below.refl _ w3).drew.trans hS.below
      replace hB := hB.trans (b1.mono hB.size)
      clear hS b1
      simp only [puts, List.foldl, Act.put, List.setIfInBounds_toArray, List.set_cons_zero, List.set_cons_succ]
      go_wp2
      go_ret
      exact ⟨⟨p1 ++ strOfNums [(y : Int)] ++ p2, by rw [ByteArray.size_append, ByteArray.size_append]; omega, rfl⟩, hB⟩
    · have hxi : ¬ ((x : Int) < (s.size : Int)) := by omega
      go_wp2
      go_ret
      exact ⟨⟨s, by omega, rfl⟩, hB⟩
  by_cases h1 : h = 1
  · subst h1
    go_wp2
    go_ret
    exact ⟨⟨p1, by omega, rfl⟩, hB⟩
  by_cases h2 : h = 2
  · subst h2
    have hcv := conv1 w3 (y : Int)
    replace hB := hB.alloc hB.size (Obj.cells #[.int .u8 (y : Int)] 5)
    obtain ⟨W5, eW5⟩ : ∃ W, w3.alloc (Obj.cells #[.int .u8 (y : Int)] 5) = W := ⟨_, rfl⟩
    rw [eW5] at hcv hB
    have hc1 : ¬ (9223372036854775807 < s.size + (strOfNums [(y : Int)]).size) := by omega
    generalize strOfNums [(y : Int)] = yt at *
    go_wp2
    go_ret
    exact ⟨⟨s ++ yt, by rw [ByteArray.size_append]; omega, rfl⟩, hB⟩
  have g0 : ¬ (h : Int) = 0 := fun e => h0 (Int.ofNat.inj e)
  have g1 : ¬ (h : Int) = 1 := fun e => h1 (Int.ofNat.inj e)
  have g2 : ¬ (h : Int) = 2 := fun e => h2 (Int.ofNat.inj e)
  by_cases h3 : h = 3
  · subst h3
    by_cases hxl : x < s.size
    · have hxi : (x : Int) < (s.size : Int) := by omega
      have hwx : IntKind.i64.wrap ((x : Int) + 1) = ((x + 1 : Nat) : Int) := by rw [IntKind.wrap_i64]; omega
      obtain ⟨p2, hp3, hp4⟩ : ∃ p2 : ByteArray, s.extract (x + 1) s.size = p2 ∧ p2.size ≤ 241 := ⟨_, rfl, by rw [ByteArray.size_extract]; omega⟩
      obtain ⟨z, hz0⟩ : ∃ z : Int, ∀ hj, ((s[x]'hj).toNat : Int) = z := ⟨((s[x]'hxl).toNat : Int), fun _ => rfl⟩
      obtain ⟨y8, hy8, hy9, hy10⟩ : ∃ y8 : Int, ((y : Nat) : Int).tmod 8 = y8 ∧ 0 ≤ y8 ∧ y8 ≤ 8 := ⟨((y % 8 : Nat) : Int), (Int.ofNat_tmod y 8).symm, by omega, by have := Nat.mod_lt y (show 0 < 8 by decide); omega⟩
      have hwy : IntKind.u64.wrap y8 = y8 := by rw [IntKind.wrap_u64]; omega
      obtain ⟨sh, hsh⟩ : ∃ sh : Int, (128 : Int) / 2 ^ y8.toNat = sh := ⟨_, rfl⟩
      obtain ⟨xz, hxz⟩ : ∃ xz : Int, bits .xor .u8 z sh = xz := ⟨_, rfl⟩
      have hl2 : (strOfNums [xz]).size = 1 := by rw [strOfNums_size]; rfl
      have hc1 : p1.size + (strOfNums [xz]).size ≤ 9223372036854775807 := by omega
      have hc2 : (p1 ++ strOfNums [xz]).size + p2.size ≤ 9223372036854775807 := by rw [ByteArray.size_append]; omega
      have hx1 : x + 1 ≤ s.size := hxl
      go_wp2
      refine G.pool_list (W := w3) [] [.val (.string s),
          .val (.int .i64 (x : Int)),
          .val (.string p1),
          .val (.string s),
          .val (.int .i64 (x : Int)),
          .val (.int .u8 z),
          .val (.int .i64 (y : Int)),
          .val (.int .i64 y8),
          .val (.int .u64 y8),
          .val (.int .u8 sh),
          .val (.int .u8 xz),
          .new (.cells #[.int .u8 xz] 5) (.cells #[.int .u8 xz] 5) 1001,
          .val (.string (strOfNums [xz])),
          .val (.string (p1 ++ strOfNums [xz])),
          .val (.string s),
          .val (.int .i64 (x : Int)),
          .val (.int .i64 ((x + 1 : Nat) : Int)),
          .val (.string p2),
          .val (.string (p1 ++ strOfNums [xz] ++ p2)),
          .val (.string (p1 ++ strOfNums [xz] ++ p2))] [[7], [8], [82, 83], [7], [8], [85, 86], [10], [88], [89], [90], [87, 91], [92], [93], [84, 94], [7], [8], [97], [96, 98], [95, 99], [100]] (fun f => [(some 82, .string s), (some 83, .int .i64 (x : Int)), (some 84, .string p1), (some 85, .string s), (some 86, .int .i64 (x : Int)), (some 87, .int .u8 z), (some 88, .int .i64 (y : Int)), (some 89, .int .i64 y8), (some 90, .int .u64 y8), (some 91, .int .u8 sh), (some 92, .int .u8 xz), (some 93, .slice (some ⟨f 11, 0, none⟩) 1 1), (some 94, .string (strOfNums [xz])), (some 95, .string (p1 ++ strOfNums [xz])), (some 96, .string s), (some 97, .int .i64 (x : Int)), (some 98, .int .i64 ((x + 1 : Nat) : Int)), (some 99, .string p2), (some 100, .string (p1 ++ strOfNums [xz] ++ p2)), (some 2, .string (p1 ++ strOfNums [xz] ++ p2))]) (by kernel_rfl) (by kernel_rfl) (by kernel_rfl) (by kernel_rfl) (fun _ => by kernel_rfl) (G.last_of [.cells #[.int .u8 xz] 5] (fun F R hm => by simp at hm) (fun ob ob' k hm => by simp at hm; simp [hm]) (fun b ob ob' hm => by simp at hm)) (fun b ob ob' hm => by simp at hm) ?_ ?_
      · intro ix hix
        match ix, hix with
        | 0, _ => exact G.ob_val [(7, .string s)] rfl rfl (fun _ => by kernel_rfl) (fun A w ⟨e0, _⟩ hB => Y.move e0)
        | 1, _ => exact G.ob_val [(8, .int .i64 (x : Int))] rfl rfl (fun _ => by kernel_rfl) (fun A w ⟨e0, _⟩ hB => Y.move e0)
        | 2, _ => exact G.ob_val [(82, .string s), (83, .int .i64 (x : Int))] rfl rfl (fun _ => by kernel_rfl) (fun A w ⟨e0, e1, _⟩ hB => X.slP e0 e1 hxs hp1)
        | 3, _ => exact G.ob_val [(7, .string s)] rfl rfl (fun _ => by kernel_rfl) (fun A w ⟨e0, _⟩ hB => Y.move e0)
        | 4, _ => exact G.ob_val [(8, .int .i64 (x : Int))] rfl rfl (fun _ => by kernel_rfl) (fun A w ⟨e0, _⟩ hB => Y.move e0)
        | 5, _ => exact G.ob_val [(85, .string s), (86, .int .i64 (x : Int))] rfl rfl (fun _ => by kernel_rfl) (fun A w ⟨e0, e1, _⟩ hB => L.ixS e0 e1 hxl (hz0 hxl))
        | 6, _ => exact G.ob_val [(10, .int .i64 (y : Int))] rfl rfl (fun _ => by kernel_rfl) (fun A w ⟨e0, _⟩ hB => Y.move e0)
        | 7, _ => exact G.ob_val [(88, .int .i64 (y : Int))] rfl rfl (fun _ => by kernel_rfl) (fun A w ⟨e0, _⟩ hB => X.rem e0 rfl (by decide) hy8)
        | 8, _ => exact G.ob_val [(89, .int .i64 y8)] rfl rfl (fun _ => by kernel_rfl) (fun A w ⟨e0, _⟩ hB => X.cvN e0 hwy)
        | 9, _ => exact G.ob_val [(90, .int .u64 y8)] rfl rfl (fun _ => by kernel_rfl) (fun A w ⟨e0, _⟩ hB => X.shU e0 hy9 hy10 hsh)
        | 10, _ => exact G.ob_val [(87, .int .u8 z), (91, .int .u8 sh)] rfl rfl (fun _ => by kernel_rfl) (fun A w ⟨e0, e1, _⟩ hB => X.xoU e0 e1 hxz)
        | 11, _ => exact G.ob_slc 1 [(92, .int .u8 xz)] rfl rfl (fun _ => by kernel_rfl) (fun A w ⟨e0, _⟩ => L.sl1 e0)
        | 12, _ => exact G.ob_use 93 11 1001 (.cells #[.int .u8 xz] 5) (fun f => [(93, .slice (some ⟨f 11, 0, none⟩) 1 1)]) rfl rfl (by decide) (by kernel_rfl) rfl (fun _ => by kernel_rfl) (fun f A w ⟨e0, _⟩ hB hr => L.cvS e0 hr)
        | 13, _ => exact G.ob_val [(84, .string p1), (94, .string (strOfNums [xz]))] rfl rfl (fun _ => by kernel_rfl) (fun A w ⟨e0, e1, _⟩ hB => Y.cat e0 e1 hc1)
        | 14, _ => exact G.ob_val [(7, .string s)] rfl rfl (fun _ => by kernel_rfl) (fun A w ⟨e0, _⟩ hB => Y.move e0)
        | 15, _ => exact G.ob_val [(8, .int .i64 (x : Int))] rfl rfl (fun _ => by kernel_rfl) (fun A w ⟨e0, _⟩ hB => Y.move e0)
        | 16, _ => exact G.ob_val [(97, .int .i64 (x : Int))] rfl rfl (fun _ => by kernel_rfl) (fun A w ⟨e0, _⟩ hB => X.add e0 rfl hwx)
        | 17, _ => exact G.ob_val [(96, .string s), (98, .int .i64 ((x + 1 : Nat) : Int))] rfl rfl (fun _ => by kernel_rfl) (fun A w ⟨e0, e1, _⟩ hB => X.slT (k := x + 1) e0 e1 hx1 hp3)
        | 18, _ => exact G.ob_val [(95, .string (p1 ++ strOfNums [xz])), (99, .string p2)] rfl rfl (fun _ => by kernel_rfl) (fun A w ⟨e0, e1, _⟩ hB => Y.cat e0 e1 hc2)
        | 19, _ => exact G.ob_val [(100, .string (p1 ++ strOfNums [xz] ++ p2))] rfl rfl (fun _ => by kernel_rfl) (fun A w ⟨e0, _⟩ hB => Y.assign e0)
        | ix + 20, h => exact absurd h (by simp)
      intro f W5 hS _ _ _ _
      have b1 : Below w3.heap.size w3 W5 := (Below.refl _ w3).drew.trans hS.below
      replace hB := hB.trans (b1.mono hB.size)
      clear hS b1
      simp only [puts, List.foldl, Act.put, List.setIfInBounds_toArray, List.set_cons_zero, List.set_cons_succ]
      go_wp2
      go_ret
      exact ⟨⟨p1 ++ strOfNums [xz] ++ p2, by rw [ByteArray.size_append, ByteArray.size_append]; omega, rfl⟩, hB⟩
    · have hxi : ¬ ((x : Int) < (s.size : Int)) := by omega
      go_wp2
      go_ret
      exact ⟨⟨s, by omega, rfl⟩, hB⟩
  have g3 : ¬ (h : Int) = 3 := fun e => h3 (Int.ofNat.inj e)
  go_wp2
  go_ret
  exact ⟨⟨s, by omega, rfl⟩, hB⟩
theorem dpw (v : Value) (w : World) (hv : Cod w v) :
    Calls Tryz.prog 13 #[v] w fun e w' => (∃ (x : Nat), x < 18446744073709551616 ∧ e = .returned (.int .u64 (x : Int))) ∧ Below w.heap.size w w' := by
  have T := dword_any v 0 w hv (by omega)
  go_enter Tryz.func13, Tryz.ntmps13
  go_wp2_with fail
  refine T.mono ?_
  rintro e w1 ⟨⟨x, hx, rfl⟩, d1⟩
  go_wp2
  go_ret
  exact ⟨⟨x, hx, rfl⟩, d1⟩
theorem dpp (v : Value) (w : World) (hv : Cod w v) :
    Calls Tryz.prog 10 #[v] w fun e w' => (∃ (x y : Nat), x < 18446744073709551616 ∧ y < 18446744073709551616 ∧ e = .returned (.agg #[.int .u64 (x : Int), .int .u64 (y : Int)])) ∧ Below w.heap.size w w' := by
  have h2 := Bk.new w 34 #[.int .u64 0, .int .u64 0]
  have hB := (Below.refl _ w).alloc (Nat.le_refl _) (Obj.cells #[.int .u64 0, .int .u64 0] 34)
  obtain ⟨W1, eW1⟩ : ∃ W, w.alloc (Obj.cells #[.int .u64 0, .int .u64 0] 34) = W := ⟨_, rfl⟩
  rw [eW1] at h2 hB
  obtain ⟨b2, qb2⟩ : ∃ b, w.heap.size = b := ⟨_, rfl⟩
  rw [qb2] at h2
  have hl2 : w.heap.size ≤ b2 := by omega
  have T := dword_any v 0 W1 (hv.below hB) (by omega)
  go_enter Tryz.func10, Tryz.ntmps10
  go_wp2_with fail
  refine T.mono ?_
  rintro e w2 ⟨⟨x, hx, rfl⟩, d1⟩
  replace h2 := h2.keep d1
  replace hB := hB.trans (d1.mono hB.size)
  clear T d1
  have T := dword_any v (0 + 10) w2 (hv.below hB) (by omega)
  go_wp2_with fail
  refine T.mono ?_
  rintro e w3 ⟨⟨y, hy, rfl⟩, d1⟩
  replace h2 := h2.keep d1
  replace hB := hB.trans (d1.mono hB.size)
  clear T d1 eW1 qb2
  have c0 : w3.cell? ⟨b2, 0, none⟩ = some (.int .u64 0) := h2.cell (k := 0) rfl
  have c1 : w3.cell? ⟨b2, 1, none⟩ = some (.int .u64 0) := h2.cell (k := 1) rfl
  have f0 := h2.frz 0
  have f1 := h2.frz 1
  go_wp2
  have t2 := (h2.set 0 (.int .u64 (x : Int))).set 1 (.int .u64 (y : Int))
  have tB := (hB.setCell (p := ⟨b2, 0, none⟩) hl2 (.int .u64 (x : Int))).setCell (p := ⟨b2, 1, none⟩) hl2 (.int .u64 (y : Int))
  simp only [List.setIfInBounds_toArray, List.set_cons_zero, List.set_cons_succ] at t2
  exact bodyPost_ret (v := .agg #[.int .u64 (x : Int), .int .u64 (y : Int)]) (bk_res1 (fn := Tryz.f10) (p := 2) Tryz.results10 _ rfl t2 Tryz.underlying34 rfl (by kernel_rfl)) rfl ⟨⟨x, y, hx, hy, rfl⟩, tB⟩
end Go.Proofs.YtdaobioomoajfaaGreat
