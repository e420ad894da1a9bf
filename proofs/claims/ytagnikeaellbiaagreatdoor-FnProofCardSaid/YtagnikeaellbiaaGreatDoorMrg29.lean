import Derived.Test.YtagnikeaellbiaaGreatDoorMrg10
import Derived.Test.YtagnikeaellbiaaGreatDoorMrg19
import Derived.Test.YtagnikeaellbiaaGreatDoorMrg17
import Derived.Test.YtagnikeaellbiaaGreatDoorMrg26
import Derived.Test.YtagnikeaellbiaaGreatDoorMrg1
import Derived.Test.YtagnikeaellbiaaGreatDoorMrg27
import Derived.Test.YtagnikeaellbiaaGreatDoorMrg28
import Derived.Shelf.Strings.Builder1
import Derived.Test.YtagnikeaellbiaaGreatDoorMrg0
import Derived.Test.YtagnikeaellbiaaGreatDoorMrg7
import Derived.Test.YtagnikeaellbiaaGreatDoorChecked
import Derived.WalkKit
import Derived.ProofKit
import Derived.Laws.BytesArg
import Derived.Lib.ConvBytes
import Derived.Deep.RegionHeld3
import Derived.Test.YtagnikeaellbiaaGreatDoorMrg4
import Derived.Test.YtagnikeaellbiaaGreatDoorMrg2
import Derived.Test.YtagnikeaellbiaaGreatDoorMrg8
import Derived.Laws.EntriesVeiled
/-
  The program's parts of a transcript.
-/
namespace Go.Proofs.YtagnikeaellbiaaGreatDoor
open Go.RowKit M
set_option linter.unusedVariables false

theorem beTo2 (n : Nat) (h : n ≤ 65535) : strOfNums (beTo (n : Int) 2) = numB n := by
  unfold numB
  have e : beTo (n : Int) 2 = [((n / 256 % 256 : Nat) : Int), ((n % 256 : Nat) : Int)] := by
    simp only [beTo]
    simp
  rw [e]
set_option maxRecDepth 100000 in
theorem wrtZ (s : ByteArray) (w : World) (h : s.size ≤ 65535) :
    Calls Tryz.prog 163 #[.string s] w fun e w' => e = .returned (.string (sizB s)) ∧ Below w.heap.size w w' := by
  have L := fun w => beI_any (s.size : Int) 2 w (by omega) (by omega) (by omega) (by omega)
  rw [beTo2 _ h] at L
  have e1 : IntKind.u64.wrap (s.size : Int) = (s.size : Int) := by rw [IntKind.wrap_u64]; omega
  have hs : sizB s = numB s.size ++ s := rfl
  have hz := numB_size s.size
  rw [hs]
  generalize numB s.size = T at *
  clear hs
  go_enter Tryz.func163, Tryz.ntmps163
  go_wp2_with fail
  refine (L _).mono ?_
  rintro e w1 ⟨rfl, b1⟩
  go_wp2
  go_ret
  exact ⟨rfl, b1⟩
set_option maxRecDepth 100000 in
theorem wrtP (s : ByteArray) (w : World) :
    Calls Tryz.prog 171 #[.string s] w fun e w' => e = .returned (.string s) ∧ Below w.heap.size w w' := by
  go_enter Tryz.func171, Tryz.ntmps171
  go_wp2
  go_ret
  exact ⟨rfl, Below.refl _ _⟩
set_option maxRecDepth 100000 in
theorem wrtX (n : Nat) (w : World) (h : n ≤ 65535) :
    Calls Tryz.prog 170 #[.int .i64 n] w fun e w' => e = .returned (.string (numB n)) ∧ Below w.heap.size w w' := by
  have L := fun w => beI_any (n : Int) 2 w (by omega) (by omega) (by omega) (by omega)
  rw [beTo2 _ h] at L
  have e1 : IntKind.u64.wrap (n : Int) = (n : Int) := by rw [IntKind.wrap_u64]; omega
  go_enter Tryz.func170, Tryz.ntmps170
  go_wp2_with fail
  refine (L _).mono ?_
  rintro e w1 ⟨rfl, b1⟩
  go_wp2
  go_ret
  exact ⟨rfl, b1⟩
set_option maxRecDepth 100000 in
theorem wrtC_of (x y n : Int) (c : Bool) (s z : ByteArray) (w : World)
    (L1 : ∀ w, Calls Tryz.prog 161 #[.agg #[.int .u64 x, .int .u64 y, .bool c]] w fun e w' => e = .returned (.int .u64 n) ∧ Below w.heap.size w w')
    (L2 : ∀ w, Calls Tryz.prog 45 #[.int .u64 n] w fun e w' => e = .returned (.string s) ∧ Below w.heap.size w w')
    (L3 : ∀ w, Calls Tryz.prog 163 #[.string s] w fun e w' => e = .returned (.string z) ∧ Below w.heap.size w w') :
    Calls Tryz.prog 162 #[.agg #[.int .u64 x, .int .u64 y, .bool c]] w fun e w' => e = .returned (.string z) ∧ Below w.heap.size w w' := by
  have hb := (Below.refl _ w).alloc (Nat.le_refl _) (Obj.cells #[.int .u64 x, .int .u64 y, .bool c] 62)
  go_enter Tryz.func162, Tryz.ntmps162
  go_wp2_with fail
  refine (L1 _).mono ?_
  rintro e w1 ⟨rfl, b1⟩
  replace hb := hb.trans (b1.mono hb.size)
  go_wp2_with fail
  refine (L2 _).mono ?_
  rintro e w2 ⟨rfl, b2⟩
  replace hb := hb.trans (b2.mono hb.size)
  go_wp2_with fail
  refine (L3 _).mono ?_
  rintro e w3 ⟨rfl, b3⟩
  replace hb := hb.trans (b3.mono hb.size)
  go_wp2
  go_ret
  exact ⟨rfl, hb⟩
theorem wrtC (p : Pt) (w : World) :
    Calls Tryz.prog 162 #[.agg #[.int .u64 (px p), .int .u64 (py p), .bool (pb p)]] w fun e w' => e = .returned (.string (sizB (ptB p))) ∧ Below w.heap.size w w' :=
  wrtC_of _ _ _ _ _ _ w (fun w => by rw [← ptW_eq]; exact wrdV p w) (fun w => putI_any (putN p) w (putN_lt p)) (fun w => wrtZ (ptB p) w (by rw [ptB_size]; omega))

/-- an interface value that writes itself as s -/
def Writ (v : Value) (s : ByteArray) : Prop := ∃ (T : TypeId) (x : Value) (F : FuncId), v = .iface T x ∧ (∀ w, (method 325 T x "loop.example/s02095/impl.written").run Tryz.prog w = .ok (F, x) w) ∧
  (∀ (args : Array Value) (w : World), (callFunc F args).run Tryz.prog w = .ok (.enter F args) w) ∧ ∀ w, Calls Tryz.prog F #[x] w fun e w' => e = .returned (.string s) ∧ Below w.heap.size w w'
theorem mthZ (s : ByteArray) (w : World) : (method 325 130 (.string s) "loop.example/s02095/impl.written").run Tryz.prog w = .ok (163, .string s) w := by kernel_rfl
theorem mthP (s : ByteArray) (w : World) : (method 325 133 (.string s) "loop.example/s02095/impl.written").run Tryz.prog w = .ok (171, .string s) w := by kernel_rfl
theorem mthX (n : Int) (w : World) : (method 325 132 (.int .i64 n) "loop.example/s02095/impl.written").run Tryz.prog w = .ok (170, .int .i64 n) w := by kernel_rfl
theorem mthC (x y : Int) (c : Bool) (w : World) : (method 325 62 (.agg #[.int .u64 x, .int .u64 y, .bool c]) "loop.example/s02095/impl.written").run Tryz.prog w = .ok (162, .agg #[.int .u64 x, .int .u64 y, .bool c]) w := by kernel_rfl
theorem ceZ (args : Array Value) (w : World) : (callFunc 163 args).run Tryz.prog w = .ok (.enter 163 args) w := by kernel_rfl
theorem ceP (args : Array Value) (w : World) : (callFunc 171 args).run Tryz.prog w = .ok (.enter 171 args) w := by kernel_rfl
theorem ceX (args : Array Value) (w : World) : (callFunc 170 args).run Tryz.prog w = .ok (.enter 170 args) w := by kernel_rfl
theorem ceC (args : Array Value) (w : World) : (callFunc 162 args).run Tryz.prog w = .ok (.enter 162 args) w := by kernel_rfl
theorem writZ (s : ByteArray) (h : s.size ≤ 65535) : Writ (.iface 130 (.string s)) (sizB s) := ⟨_, _, _, rfl, mthZ s, ceZ, fun w => wrtZ s w h⟩
theorem writP (s : ByteArray) : Writ (.iface 133 (.string s)) s := ⟨_, _, _, rfl, mthP s, ceP, fun w => wrtP s w⟩
theorem writX (n : Nat) (h : n ≤ 65535) : Writ (.iface 132 (.int .i64 n)) (numB n) := ⟨_, _, _, rfl, mthX n, ceX, fun w => wrtX n w h⟩
theorem writC (p : Pt) : Writ (.iface 62 (.agg #[.int .u64 (px p), .int .u64 (py p), .bool (pb p)])) (sizB (ptB p)) := ⟨_, _, _, rfl, mthC _ _ _, ceC, fun w => wrtC p w⟩
end Go.Proofs.YtagnikeaellbiaaGreatDoor

namespace Go.Proofs.YtagnikeaellbiaaGreatDoor
open Go.RowKit
set_option linter.unusedVariables false

theorem lkb (a : ByteArray) (k : Nat) (h : k < a.size) : lk (byt a) k = (a[k].toNat : Int) := by
  unfold lk byt
  rw [List.getD_eq_getElem?_getD, List.getElem?_map, List.getElem?_eq_getElem (by simpa using h)]
  rfl
theorem xorB_set (a b : ByteArray) (k : Nat) (ha : k < a.size) (hb : k < b.size) :
    ((xorB (byt a) (byt b)).take k ++ (byt a).drop k).set k ((a[k].toNat ^^^ b[k].toNat : Nat) : Int) = (xorB (byt a) (byt b)).take (k + 1) ++ (byt a).drop (k + 1) := by
  have hl : ((xorB (byt a) (byt b)).take k).length = k := by rw [List.length_take, xorB_length, byt_length, byt_length]; omega
  rw [List.drop_eq_getElem_cons (by rw [byt_length]; exact ha), set_at _ _ _ _ _ hl, xorB_take a b k ha hb, ← cons_snoc]

set_option maxRecDepth 100000 in
set_option maxHeartbeats 2000000 in
theorem xorT_any (a b : ByteArray) (w : World) (ha : a.size ≤ 1000) (hab : a.size ≤ b.size) :
    Calls Tryz.prog 137 #[.string a, .string b] w fun e w' => e = .returned (.string (strOfNums (xorB (byt a) (byt b)))) ∧ Below w.heap.size w w' := by
  obtain ⟨cap0, w1, hcv, hrow0, hbl0⟩ : ∃ cap0 w1, (convert 9 46 (.string a)).run Tryz.prog w = .ok (.slice (some ⟨w.heap.size, 0, none⟩) a.size cap0) w1 ∧
      Row w1 w.heap.size w.heap.size a.size cap0 ((byt a).map (Value.int .u8)) ∧ Below w.heap.size w w1 :=
    ⟨_, _, Lib.run_convert_string_bytes w 9 46 5 a Tryz.underlying9 Tryz.underlying46 Tryz.underlying5, row_bytes w _ a w.heap.size (Nat.le_refl _) (by unfold maxLen; omega)⟩
  have hxl : (xorB (byt a) (byt b)).length = a.size := by rw [xorB_length, byt_length, byt_length]; omega
  have hset := xorB_set a b
  obtain ⟨X, hX⟩ : ∃ X, X = xorB (byt a) (byt b) := ⟨_, rfl⟩
  rw [← hX] at hxl hset ⊢
  go_enter Tryz.func137, Tryz.ntmps137
  go_wp2
  go_loopw [6, 11] (fun _ i wr => ∃ k : Nat, k ≤ a.size ∧ i = .int .i64 (k : Int) ∧ Row wr w.heap.size w.heap.size a.size cap0 ((X.take k ++ (byt a).drop k).map (Value.int .u8)) ∧ Below w.heap.size w wr) (fun _ i _ => a.size - (intOf i).toNat)
  case atStart => exact ⟨0, by omega, rfl, by simpa using hrow0, hbl0⟩
  case round =>
    clear hrow0 hbl0 hcv hX
    obtain ⟨k, hk, rfl, hrow, hbl⟩ := hrel
    have hbk := hrow.le
    by_cases hlt : k < a.size
    · have hlt2 : k < b.size := by omega
      have hc := hrow.cell k hlt
      have hlk : lk (X.take k ++ (byt a).drop k) k = (a[k].toNat : Int) := by
        rw [List.drop_eq_getElem_cons (by rw [byt_length]; exact hlt), lk_mid _ _ _ _ (by rw [List.length_take]; omega)]
        have := lkb a k hlt
        unfold lk at this
        rw [List.getD_eq_getElem?_getD, List.getElem?_eq_getElem (by rw [byt_length]; exact hlt)] at this
        exact this
      rw [hlk] at hc
      have hfz := (hrow.room k (by omega)).2
      have hst := hset k hlt hlt2
      have ex := u8_xor_nat a[k].toNat b[k].toNat a[k].toNat_lt b[k].toNat_lt
      have q0 : (0 : Int) ≤ (k : Int) := by omega
      have q1 : (k : Int) < (a.size : Int) := by omega
      have q2 : (k : Int) < (b.size : Int) := by omega
      generalize a[k].toNat = za at *
      generalize hzz : za ^^^ b[k].toNat = z at *
      clear hlk hset hzz
      go_wp2
      go_region
      have R1 := (hrow.set k hlt (.int .u8 (z : Int))).drew
      rw [← List.map_set, hst] at R1
      have R2 := (hbl.setCell (p := ⟨w.heap.size, k, none⟩) (Nat.le_refl _) (.int .u8 (z : Int))).drew
      clear hst ex hc hrow hbl
      go_wp2
      go_roundw
      case rel =>
        first
          | exact ⟨k + 1, by omega, by go_num, R1, R2⟩
          | ((repeat apply Exists.intro); exact ⟨⟨k + 1, by omega, by go_num, R1, R2⟩, rfl⟩)
      case measure => simp [intOf]; omega
    · obtain rfl : k = a.size := by omega
      rw [List.take_of_length_le (by omega), List.drop_of_length_le (by rw [byt_length]; omega), List.append_nil] at hrow
      have hcv := run_convert_bytes_arg (P := Tryz.prog) wr 46 5 Tryz.underlying46 Tryz.underlying5 w.heap.size 0 a.size cap0 X hxl (fun i h => by rw [Nat.zero_add]; exact hrow.cell i h) 9 Tryz.underlying9
      go_wp2
      go_ret
      exact ⟨rfl, hbl⟩
end Go.Proofs.YtagnikeaellbiaaGreatDoor

namespace Go.Proofs.YtagnikeaellbiaaGreatDoor
open Go.RowKit
set_option linter.unusedVariables false

theorem cf_xor (args : Array Value) (w : World) : (callFunc 137 args).run Tryz.prog w = .ok (.enter 137 args) w := by kernel_rfl
theorem cf_be (args : Array Value) (w : World) : (callFunc 70 args).run Tryz.prog w = .ok (.enter 70 args) w := by kernel_rfl
theorem cf_hash (args : Array Value) (w : World) : (callFunc 80 args).run Tryz.prog w = .ok (.enter 80 args) w := by kernel_rfl
theorem cf_rep (args : Array Value) (w : World) : (callFunc 135 args).run Tryz.prog w = .ok (.enter 135 args) w := by kernel_rfl
theorem keepA {w1 w2 : World} {p : Addr} {v : Value} (h : w1.cell? p = some v) (b : Below w1.heap.size w1 w2) : w2.cell? p = some v :=
  (b.cell (p := p) (World.block_lt_of_cell? w1 _ h)).trans h
theorem keepT {w1 w2 : World} (h : TabK w1) (hg : 3 < w1.heap.size) (b : Below w1.heap.size w1 w2) : TabK w2 := fun i hi => (b.cell (p := ⟨3, i, none⟩) hg).trans (h i hi)
theorem str3 {w : World} {b : Nat} {t : TypeId} {x y z : ByteArray} (h : w.heap[b]? = some (.cells #[.string x, .string y, .string z] t)) (i : Nat) (hi : i < 3) : w.cell? ⟨b, i, none⟩ = some (.string ([x, y, z].getD i ByteArray.empty)) := by
  match i, hi with
  | 0, _ => exact block_cell h rfl
  | 1, _ => exact block_cell h rfl
  | 2, _ => exact block_cell h rfl
theorem str5 {w : World} {b : Nat} {t : TypeId} {x y z u v : ByteArray} (h : w.heap[b]? = some (.cells #[.string x, .string y, .string z, .string u, .string v] t)) (i : Nat) (hi : i < 5) : w.cell? ⟨b, i, none⟩ = some (.string ([x, y, z, u, v].getD i ByteArray.empty)) := by
  match i, hi with
  | 0, _ => exact block_cell h rfl
  | 1, _ => exact block_cell h rfl
  | 2, _ => exact block_cell h rfl
  | 3, _ => exact block_cell h rfl
  | 4, _ => exact block_cell h rfl
/-- a block of one cell -/
def R1c (W : World) (t : TypeId) (b : Nat) (v : Value) : Prop := W.heap[b]? = some (.cells #[v] t)
section
variable {W W' : World} {t : TypeId} {b : Nat} {v : Value}
theorem R1c.cell (h : R1c W t b v) : W.cell? ⟨b, 0, none⟩ = some v := block_cell h rfl
theorem R1c.frz (h : R1c W t b v) : W.frozen? ⟨b, 0, none⟩ = false := by unfold R1c at h; simp [World.frozen?, h]
theorem R1c.lt (h : R1c W t b v) : b < W.heap.size := (Array.getElem?_eq_some_iff.1 h).1
theorem R1c.keep (h : R1c W t b v) (hb : Below W.heap.size W W') : R1c W' t b v := (hb.block b h.lt).trans h
theorem R1c.new (w : World) (t : TypeId) (v : Value) : R1c (w.alloc (.cells #[v] t)) t w.heap.size v := heap_alloc_new w _
theorem R1c.alloc (h : R1c W t b v) (o : Obj) : R1c (W.alloc o) t b v := (Below.heap_alloc W o b h.lt).trans h
theorem R1c.drew (h : R1c W t b v) : R1c W.drew t b v := h
theorem R1c.at {b' : Nat} (h : R1c W t b v) (e : b = b') : R1c W t b' v := e ▸ h
theorem R1c.set (h : R1c W t b v) (u : Value) : R1c (W.setCell ⟨b, 0, none⟩ u) t b u := by
  unfold R1c at *
  simp [World.setCell, Array.getElem?_modify, h]
theorem R1c.other {b' : Nat} (h : R1c W t b v) (hne : b ≠ b') (i : Nat) (u : Value) : R1c (W.setCell ⟨b', i, none⟩ u) t b v := by
  unfold R1c at *
  rw [← h]
  simp [World.setCell, Array.getElem?_modify, Ne.symm hne]
theorem R1c.ne {b' : Nat} {t' : TypeId} {v' : Value} (h : R1c W t b v) (h' : R1c W t' b' v') (hne : t ≠ t') : b ≠ b' := by
  rintro rfl
  unfold R1c at h h'
  rw [h] at h'
  simp at h'
  exact hne h'.2
end
/-- the four variables of the closure: k blocks have been given -/
structure Cls (W : World) (bc bs bl be : Nat) (F Tl : List Int) (T : ByteArray) (k : Nat) : Prop where
  c : R1c W 22 bc (.int .u64 (k : Int))
  s : R1c W 9 bs (.string (strOfNums F))
  l : R1c W 9 bl (.string (strOfNums (mBlk F Tl k)))
  e : R1c W 9 be (.string T)
theorem Cls.keep {W W' : World} {bc bs bl be : Nat} {F Tl : List Int} {T : ByteArray} {k : Nat} (h : Cls W bc bs bl be F Tl T k) (hb : Below W.heap.size W W') : Cls W' bc bs bl be F Tl T k :=
  ⟨h.c.keep hb, h.s.keep hb, h.l.keep hb, h.e.keep hb⟩

set_option maxRecDepth 100000 in
set_option maxHeartbeats 4000000 in
theorem nextI (B bc bs bl be : Nat) (F Tl : List Int) (T : ByteArray) (k : Nat) (w : World) (hC : Cls w bc bs bl be F Tl T k) (hT0 : TabK w) (hls : bl ≠ bs) (hle : bl ≠ be) (hgb : 3 < B) (hB1 : B ≤ bc) (hB2 : B ≤ bl)
    (hk : k < 255) (hF : F.length = 32) (hFb : ∀ x ∈ F, 0 ≤ x ∧ x < 256) (hTb : byt T = Tl) (hTs : T.size ≤ 256) :
    Calls Tryz.prog 136 #[.pointer (some ⟨bc, 0, none⟩), .pointer (some ⟨bs, 0, none⟩), .pointer (some ⟨bl, 0, none⟩), .pointer (some ⟨be, 0, none⟩)] w fun e w' =>
      e = .returned (.string (strOfNums (mBlk F Tl (k + 1)))) ∧ Cls w' bc bs bl be F Tl T (k + 1) ∧ Below B w w' ∧ (∀ b, b < w.heap.size → b ≠ bc → b ≠ bl → w'.heap[b]? = w.heap[b]?) := by
  have hbl := mBlk_length F Tl k
  have hxl : (xorB F (mBlk F Tl k)).length = 32 := by rw [xorB_length]; omega
  obtain ⟨X, hX⟩ : ∃ X, X = strOfNums (xorB F (mBlk F Tl k)) := ⟨_, rfl⟩
  have XT : ∀ w, Calls Tryz.prog 137 #[.string (strOfNums F), .string (strOfNums (mBlk F Tl k))] w fun e w' => e = .returned (.string X) ∧ Below w.heap.size w w' := fun w => by
    have := xorT_any (strOfNums F) (strOfNums (mBlk F Tl k)) w (by rw [strOfNums_size]; omega) (by rw [strOfNums_size, strOfNums_size]; omega)
    rwa [byt_str _ hFb, byt_str _ (mBlk_lt F Tl k), ← hX] at this
  have BE : ∀ w, Calls Tryz.prog 70 #[.int .u64 ((k : Int) + 1), .int .i64 1] w fun e w' => e = .returned (.string (strOfNums (beTo ((k : Int) + 1) 1))) ∧ Below w.heap.size w w' := fun w => beI_any ((k : Int) + 1) 1 w (by omega) (by omega) (by omega) (by omega)
  have hcat : shaF (catB [X, strOfNums (beTo ((k : Int) + 1) 1), T]) = mBlk F Tl (k + 1) := by
    have hb : beTo ((k : Int) + 1) 1 = [(k : Int) + 1] := by
      simp only [beTo, Int.pow_zero, Int.ediv_one]
      rw [show ((k : Int) + 1) % 256 = (k : Int) + 1 by omega]
    simp only [catB, List.append_nil]
    rw [hX, hb, byt_str _ (xorB_lt _ _ hFb (mBlk_lt F Tl k)), byt_one k hk, hTb, mBlk, List.append_assoc]
  have HO : ∀ (g : Nat) (w : World), TabK w → (∀ i, i < 3 → w.cell? ⟨g, i, none⟩ = some (.string ([X, strOfNums (beTo ((k : Int) + 1) 1), T].getD i ByteArray.empty))) → Calls Tryz.prog 80 #[.slice (some ⟨g, 0, none⟩) 3 3] w fun e w' => e = .returned (.string (strOfNums (mBlk F Tl (k + 1)))) ∧ Below w.heap.size w w' := fun g w hTw hc => by
    have := hashOfI_any g 3 3 [X, strOfNums (beTo ((k : Int) + 1) 1), T] w hTw (by rw [hX]; simp only [sizeB, strOfNums_size, beTo_length]; omega) rfl (by omega) (by omega) hc
    rwa [hcat] at this
  have hgw : 3 < w.heap.size := World.block_lt_of_cell? w _ (hT0 0 (by omega))
  have ew : IntKind.u64.wrap ((k : Int) + 1) = (k : Int) + 1 := by rw [IntKind.wrap_u64]; omega
  obtain ⟨hc, hs, hl, he⟩ := hC
  have n1 : bl ≠ bc := hl.ne hc (by decide)
  have n2 : bs ≠ bc := hs.ne hc (by decide)
  have n3 : be ≠ bc := he.ne hc (by decide)
  have c0 := hc.cell
  have f0 := hc.frz
  have hc1 := hc.set (.int .u64 ((k : Int) + 1))
  have hs1 := hs.other n2 0 (.int .u64 ((k : Int) + 1))
  have hl1 := hl.other n1 0 (.int .u64 ((k : Int) + 1))
  have he1 := he.other n3 0 (.int .u64 ((k : Int) + 1))
  have hb1 : Below B w (w.setCell ⟨bc, 0, none⟩ (.int .u64 ((k : Int) + 1))) := (Below.refl _ w).setCell (p := ⟨bc, 0, none⟩) hB1 _
  have ho1 : ∀ b, b ≠ bc → (w.setCell ⟨bc, 0, none⟩ (.int .u64 ((k : Int) + 1))).heap[b]? = w.heap[b]? := fun b hb => by simp [World.setCell, Array.getElem?_modify, Ne.symm hb]
  have hz1 : (w.setCell ⟨bc, 0, none⟩ (.int .u64 ((k : Int) + 1))).drew.heap.size = w.heap.size := by simp [World.setCell]
  have hT : TabK (w.setCell ⟨bc, 0, none⟩ (.int .u64 ((k : Int) + 1))).drew := fun i hi => (hb1.cell (p := ⟨3, i, none⟩) hgb).trans (hT0 i hi)
  have hg : 3 < (w.setCell ⟨bc, 0, none⟩ (.int .u64 ((k : Int) + 1))).drew.heap.size := Nat.lt_of_lt_of_le hgw hb1.size
  have cs := hs1.drew.cell
  have cl := hl1.drew.cell
  have ce := he1.drew.cell
  have cc := hc1.drew.cell
  clear hc hs hl he hT0 hX hcat
  go_enter Tryz.func136, Tryz.ntmps136
  go_wp2
  refine pool_tail [.val (.string (strOfNums F)),
      .val (.string (strOfNums (mBlk F Tl k))),
      .val (.string X),
      .val (.int .u64 ((k : Int) + 1)),
      .val (.string (strOfNums (beTo ((k : Int) + 1) 1))),
      .val (.string T),
      .new (.cells #[.string X, .string (strOfNums (beTo ((k : Int) + 1) 1)), .string T] 9) (.cells #[.string X, .string (strOfNums (beTo ((k : Int) + 1) 1)), .string T] 9) 1003,
      .val (.string (strOfNums (mBlk F Tl (k + 1)))),
      .val undef] [[1], [2], [7, 8], [0], [10], [3], [9, 11, 12], [13], [2, 14]] (fun f => [(some 7, .string (strOfNums F)), (some 8, .string (strOfNums (mBlk F Tl k))), (some 9, .string X), (some 10, .int .u64 ((k : Int) + 1)), (some 11, .string (strOfNums (beTo ((k : Int) + 1) 1))), (some 12, .string T), (some 13, .slice (some ⟨f 6, 0, none⟩) 3 3), (some 14, .string (strOfNums (mBlk F Tl (k + 1))))]) (fun f => [(2, .pointer (some ⟨bl, 0, none⟩)), (14, .string (strOfNums (mBlk F Tl (k + 1))))]) (by kernel_rfl) (by kernel_rfl) (by kernel_rfl) (by kernel_rfl) (by kernel_rfl) (fun _ => by kernel_rfl) ?_ rfl (fun _ => by kernel_rfl) ?_
  · intro ix hix
    match ix, hix with
    | 0, _ => exact ob_val [(1, .pointer (some ⟨bs, 0, none⟩))] rfl rfl (fun _ => by kernel_rfl) (fun A w ⟨e0, _⟩ hB => doS_loadS e0 (keepA cs hB))
    | 1, _ => exact ob_val [(2, .pointer (some ⟨bl, 0, none⟩))] rfl rfl (fun _ => by kernel_rfl) (fun A w ⟨e0, _⟩ hB => doS_loadS e0 (keepA cl hB))
    | 2, _ => exact ob_val [(7, .string (strOfNums F)), (8, .string (strOfNums (mBlk F Tl k)))] rfl rfl (fun _ => by kernel_rfl) (fun A w ⟨e0, e1, _⟩ hB => doS_call2 cf_xor e0 e1 (XT w))
    | 3, _ => exact ob_val [(0, .pointer (some ⟨bc, 0, none⟩))] rfl rfl (fun _ => by kernel_rfl) (fun A w ⟨e0, _⟩ hB => doS_loadW e0 (keepA cc hB))
    | 4, _ => exact ob_val [(10, .int .u64 ((k : Int) + 1))] rfl rfl (fun _ => by kernel_rfl) (fun A w ⟨e0, _⟩ hB => doS_call2 cf_be e0 rfl (BE w))
    | 5, _ => exact ob_val [(3, .pointer (some ⟨be, 0, none⟩))] rfl rfl (fun _ => by kernel_rfl) (fun A w ⟨e0, _⟩ hB => doS_loadS e0 (keepA ce hB))
    | 6, _ => exact ob_slc 3 [(9, .string X), (11, .string (strOfNums (beTo ((k : Int) + 1) 1))), (12, .string T)] rfl rfl (fun _ => by kernel_rfl) (fun A w ⟨e0, e1, e2, _⟩ => doS_str3 e0 e1 e2)
    | 7, _ => exact ob_use 13 6 1003 (.cells #[.string X, .string (strOfNums (beTo ((k : Int) + 1) 1)), .string T] 9) (fun f => [(13, .slice (some ⟨f 6, 0, none⟩) 3 3)]) rfl rfl (by decide) (by kernel_rfl) rfl (fun _ => by kernel_rfl) (fun f A w ⟨e0, _⟩ hB hr => doS_call1 cf_hash e0 (HO (f 6) w (keepT hT hg hB) (fun i h => str3 hr i h)))
    | ix + 8, h => exact absurd h (by simp)
  rintro f A w3 ⟨e0, e1, _⟩ hB _
  have hc3 := hc1.drew.keep hB
  have hs3 := hs1.drew.keep hB
  have hl3 := hl1.drew.keep hB
  have he3 := he1.drew.keep hB
  have hb3 : Below B w w3 := (hb1.drew).trans (hB.mono (Nat.le_of_lt (Nat.lt_of_le_of_lt hB2 hl1.lt)))
  refine does_skip (execS_storeS e0 e1 hl3.cell hl3.frz) ?_
  simp only [puts, List.foldl, Act.put, List.setIfInBounds_toArray, List.set_cons_zero, List.set_cons_succ]
  have hl4 := hl3.set (.string (strOfNums (mBlk F Tl (k + 1))))
  have R : Cls (w3.setCell ⟨bl, 0, none⟩ (.string (strOfNums (mBlk F Tl (k + 1))))) bc bs bl be F Tl T (k + 1) := ⟨hc3.other (Ne.symm n1) 0 _, hs3.other (Ne.symm hls) 0 _, hl4, he3.other (Ne.symm hle) 0 _⟩
  have hb4 := hb3.setCell (p := ⟨bl, 0, none⟩) hB2 (.string (strOfNums (mBlk F Tl (k + 1))))
  have ho4 : ∀ b, b < w.heap.size → b ≠ bc → b ≠ bl → (w3.setCell ⟨bl, 0, none⟩ (.string (strOfNums (mBlk F Tl (k + 1))))).heap[b]? = w.heap[b]? := fun b h1 h2 h3 => by
    have e1 : (w3.setCell ⟨bl, 0, none⟩ (.string (strOfNums (mBlk F Tl (k + 1))))).heap[b]? = w3.heap[b]? := by simp [World.setCell, Array.getElem?_modify, Ne.symm h3]
    rw [e1, hB.block b (by rw [hz1]; exact h1)]
    exact ho1 b h2
  have c4 := hl4.cell
  clear hc3 hs3 hl3 he3 hb3 cs cl ce cc c0 f0
  go_wp2
  go_ret
  exact ⟨rfl, R, hb4, ho4⟩

set_option maxRecDepth 100000 in
set_option maxHeartbeats 4000000 in
theorem blocksI (msg tag : ByteArray) (n : Nat) (w : World) (hT0 : TabK w) (h1 : 1 ≤ tag.size) (h2 : tag.size ≤ 255) (h3 : n ≤ 8160) (h4 : msg.size ≤ 65535) :
    Calls Tryz.prog 132 #[.string msg, .string tag, .int .i64 n] w fun e w' => ∃ (bc bs bl be : Nat) (T : ByteArray), e = .returned (.func (.func 136) #[] #[.pointer (some ⟨bc, 0, none⟩), .pointer (some ⟨bs, 0, none⟩), .pointer (some ⟨bl, 0, none⟩), .pointer (some ⟨be, 0, none⟩)]) ∧
      Cls w' bc bs bl be (mFirst (byt msg) (byt tag) n) (mTag (byt tag)) T 0 ∧ byt T = mTag (byt tag) ∧ T.size ≤ 256 ∧ bl ≠ bs ∧ bl ≠ be ∧ w.heap.size ≤ bc ∧ w.heap.size ≤ bl ∧ Below w.heap.size w w' := by
  have hgw : 3 < w.heap.size := World.block_lt_of_cell? w _ (hT0 0 (by omega))
  have hbe1 : beTo (tag.size : Int) 1 = [(tag.size : Int)] := by
    simp only [beTo, Int.pow_zero, Int.ediv_one]
    rw [show (tag.size : Int) % 256 = (tag.size : Int) by omega]
  have hbe2 : beTo (n : Int) 2 = [((n / 256 : Nat) : Int), ((n % 256 : Nat) : Int)] := by
    simp only [beTo, Int.pow_zero, Int.ediv_one, Int.pow_one]
    rw [show (n : Int) / 256 % 256 = ((n / 256 : Nat) : Int) by omega, show (n : Int) % 256 = ((n % 256 : Nat) : Int) by omega]
  obtain ⟨T1, hT1⟩ : ∃ T1, T1 = strOfNums (beTo (tag.size : Int) 1) := ⟨_, rfl⟩
  have hT1s : T1.size = 1 := by rw [hT1, strOfNums_size, beTo_length]
  have hTb : byt (tag ++ T1) = mTag (byt tag) := by
    rw [hT1, byt_append, hbe1, mTag, byt_length, byt_str _ (fun x hx => by simp at hx; omega)]
  have hTs : (tag ++ T1).size ≤ 256 := by rw [ByteArray.size_append]; omega
  have B1 : ∀ w, Calls Tryz.prog 70 #[.int .u64 (tag.size : Int), .int .i64 1] w fun e w' => e = .returned (.string T1) ∧ Below w.heap.size w w' := fun w => hT1 ▸ beI_any (tag.size : Int) 1 w (by omega) (by omega) (by omega) (by omega)
  obtain ⟨N2, hN2⟩ : ∃ N2, N2 = strOfNums (beTo (n : Int) 2) := ⟨_, rfl⟩
  have B2 : ∀ w, Calls Tryz.prog 70 #[.int .u64 (n : Int), .int .i64 2] w fun e w' => e = .returned (.string N2) ∧ Below w.heap.size w w' := fun w => hN2 ▸ beI_any (n : Int) 2 w (by omega) (by omega) (by omega) (by omega)
  obtain ⟨Z, hZ⟩ : ∃ Z, Z = strOfNums (List.replicate 64 0) := ⟨_, rfl⟩
  have Z64 : ∀ w, Calls Tryz.prog 135 #[.string ⟨#[0]⟩, .int .i64 64] w fun e w' => e = .returned (.string Z) ∧ Below w.heap.size w w' := fun w => hZ ▸ rep64 w
  obtain ⟨F, hF⟩ : ∃ F, F = mFirst (byt msg) (byt tag) n := ⟨_, rfl⟩
  rw [← hF]
  have hcat : shaF (catB [Z, msg, N2, ⟨#[0]⟩, tag ++ T1]) = F := by
    simp only [catB, List.append_nil]
    rw [hF, mFirst, hZ, hN2, hTb, hbe2, byt_str _ (rep_lt 64), byt_str _ (fun x hx => by simp at hx; omega), show byt ⟨#[0]⟩ = [0] from rfl]
    simp only [List.append_assoc, List.cons_append, List.nil_append]
  have HO : ∀ (g : Nat) (w : World), TabK w → (∀ i, i < 5 → w.cell? ⟨g, i, none⟩ = some (.string ([Z, msg, N2, ⟨#[0]⟩, tag ++ T1].getD i ByteArray.empty))) → Calls Tryz.prog 80 #[.slice (some ⟨g, 0, none⟩) 5 5] w fun e w' => e = .returned (.string (strOfNums F)) ∧ Below w.heap.size w w' := fun g w hTw hc => by
    have := hashOfI_any g 5 5 [Z, msg, N2, ⟨#[0]⟩, tag ++ T1] w hTw (by rw [hZ, hN2]; simp only [sizeB, strOfNums_size, beTo_length, List.length_replicate, show (⟨#[0]⟩ : ByteArray).size = 1 from rfl]; omega) rfl (by omega) (by omega) hc
    rwa [hcat] at this
  have e64 : IntKind.u64.wrap (n : Int) = (n : Int) := by rw [IntKind.wrap_u64]; omega
  have e64t : IntKind.u64.wrap (tag.size : Int) = (tag.size : Int) := by rw [IntKind.wrap_u64]; omega
  clear hcat hbe1 hbe2 hZ hN2 hF hT1
  go_enter Tryz.func132, Tryz.ntmps132
  go_wp2_with fail
  refine (B1 _).mono ?_
  rintro e w1 ⟨rfl, b1⟩
  go_wp2
  generalize hTT : tag ++ T1 = T at *
  have hTr : R1c (w1.alloc (.cells #[.string T] 9)) 9 w1.heap.size (.string T) := R1c.new w1 _ _
  have hb1 : Below w.heap.size w (w1.alloc (.cells #[.string T] 9)) := b1.alloc b1.size _
  have hl1 : (w1.alloc (.cells #[.string T] 9)).heap.size = w1.heap.size + 1 := by simp
  have hw1 := b1.size
  generalize w1.alloc (.cells #[.string T] 9) = W1 at *
  generalize w1.heap.size = q7 at *
  have hT : TabK W1.drew := fun i hi => (hb1.cell (p := ⟨3, i, none⟩) hgw).trans (hT0 i hi)
  have hg : 3 < W1.drew.heap.size := Nat.lt_of_lt_of_le hgw hb1.size
  have c7 := hTr.drew.cell
  clear B1 hTT b1 hT0 e64t
  refine pool_list [.val (.string Z),
      .val (.string msg),
      .val (.int .i64 n),
      .val (.int .u64 n),
      .val (.string N2),
      .val (.string T),
      .new (.cells #[.string Z, .string msg, .string N2, .string ⟨#[0]⟩, .string T] 9) (.cells #[.string Z, .string msg, .string N2, .string ⟨#[0]⟩, .string T] 9) 1005,
      .val (.string (strOfNums F)),
      .new (.cells #[.string ⟨#[]⟩] 9) (.cells #[.string (strOfNums F)] 9) 9,
      .put 8] [[], [0], [2], [19], [20], [7], [17, 18, 21, 22], [23], [], [8, 24]] (fun f => [(some 17, .string Z), (some 18, .string msg), (some 19, .int .i64 n), (some 20, .int .u64 n), (some 21, .string N2), (some 22, .string T), (some 23, .slice (some ⟨f 6, 0, none⟩) 5 5), (some 24, .string (strOfNums F)), (some 8, .pointer (some ⟨f 8, 0, none⟩)), (none, undef)]) (by kernel_rfl) (by kernel_rfl) (by kernel_rfl) (by kernel_rfl) (fun _ => by kernel_rfl) ?_ ?_
  · intro ix hix
    match ix, hix with
    | 0, _ => exact ob_val [] rfl rfl (fun _ => by kernel_rfl) (fun A w _ hB => doS_call2 cf_rep rfl rfl (Z64 w))
    | 1, _ => exact ob_val [(0, .string msg)] rfl rfl (fun _ => by kernel_rfl) (fun A w ⟨e0, _⟩ hB => doS_move e0)
    | 2, _ => exact ob_val [(2, .int .i64 n)] rfl rfl (fun _ => by kernel_rfl) (fun A w ⟨e0, _⟩ hB => doS_move e0)
    | 3, _ => exact ob_val [(19, .int .i64 n)] rfl rfl (fun _ => by kernel_rfl) (fun A w ⟨e0, _⟩ hB => doS_c64 e0 e64)
    | 4, _ => exact ob_val [(20, .int .u64 n)] rfl rfl (fun _ => by kernel_rfl) (fun A w ⟨e0, _⟩ hB => doS_call2 cf_be e0 rfl (B2 w))
    | 5, _ => exact ob_val [(7, .pointer (some ⟨q7, 0, none⟩))] rfl rfl (fun _ => by kernel_rfl) (fun A w ⟨e0, _⟩ hB => doS_loadS e0 (keepA c7 hB))
    | 6, _ => exact ob_slc 5 [(17, .string Z), (18, .string msg), (21, .string N2), (22, .string T)] rfl rfl (fun _ => by kernel_rfl) (fun A w ⟨e0, e1, e2, e3, _⟩ => doS_str5 e0 e1 e2 rfl e3)
    | 7, _ => exact ob_use 23 6 1005 (.cells #[.string Z, .string msg, .string N2, .string ⟨#[0]⟩, .string T] 9) (fun f => [(23, .slice (some ⟨f 6, 0, none⟩) 5 5)]) rfl rfl (by decide) (by kernel_rfl) rfl (fun _ => by kernel_rfl) (fun f A w ⟨e0, _⟩ hB hr => doS_call1 cf_hash e0 (HO (f 6) w (keepT hT hg hB) (fun i h => str5 hr i h)))
    | 8, _ => exact ob_new rfl rfl (fun A w => doS_new)
    | 9, _ => exact ob_put 8 (fun f => [(8, .pointer (some ⟨f 8, 0, none⟩)), (24, .string (strOfNums F))]) rfl rfl rfl (by decide) (by kernel_rfl) rfl (fun _ => by kernel_rfl) (fun f A w ⟨e0, e1, _⟩ hr => doS_put e0 e1 hr)
    | ix + 10, h => exact absurd h (by simp)
  intro f w2 hB hN _
  have n8 := hN 8 _ _ _ rfl (by simp)
  rw [if_pos (by simp)] at n8
  replace hTr := hTr.drew.keep hB
  replace hb1 := hb1.drew.trans (hB.mono hb1.size)
  have l2 := hB.size
  simp only [puts, List.foldl, Act.put, List.setIfInBounds_toArray, List.set_cons_zero, List.set_cons_succ]
  obtain ⟨l8, n8⟩ := n8
  replace n8 : R1c w2 9 (f 8) (.string (strOfNums F)) := n8
  have l8' := n8.lt
  generalize f 8 = q8 at *
  clear hN hB hT hg c7 HO B2 Z64
  go_wp2_with fail
  refine (rep32 _).mono ?_
  rintro e w3 ⟨rfl, b3⟩
  replace hTr := hTr.keep b3
  replace n8 := n8.keep b3
  replace hb1 := hb1.trans (b3.mono hb1.size)
  have l3 := b3.size
  clear b3
  go_wp2
  go_ret
  refine ⟨w3.heap.size + 1, q8, w3.heap.size, q7, T, rfl, ⟨(R1c.new _ _ _).at (by simp), (n8.alloc _).alloc _, (R1c.new w3 _ _).alloc _, (hTr.alloc _).alloc _⟩, hTb, hTs, by omega, ?_, by have := hb1.size; omega, hb1.size, (hb1.alloc hb1.size _).alloc (by have := hb1.size; simp; omega) _⟩
  · have := hTr.lt
    omega
end Go.Proofs.YtagnikeaellbiaaGreatDoor
