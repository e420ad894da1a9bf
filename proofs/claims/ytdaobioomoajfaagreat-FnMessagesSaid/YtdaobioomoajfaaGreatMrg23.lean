import Derived.Test.YtdaobioomoajfaaGreatMrg17
import Derived.Deep.QuietTactic
import Derived.BigQuiet
import Derived.Test.YtdaobioomoajfaaGreatMrg21
import Derived.Test.YtdaobioomoajfaaGreatMrg22
import Derived.Test.YtdaobioomoajfaaGreatMrg18
import Derived.Test.YtdaobioomoajfaaGreatMrg1
set_option linter.unusedVariables false
set_option maxRecDepth 100000
set_option maxHeartbeats 16000000
namespace Go.Proofs.YtdaobioomoajfaaGreat
open Go.RowKit
theorem bt_at (t : ByteArray) (i : Nat) (h : i < t.size) : (t[i].toNat : Int) = (bt t i : Int) := by
  unfold bt
  rw [Array.getD_eq_getD_getElem?, Array.getElem?_eq_getElem (show i < t.data.size from h)]
  rfl
theorem szS_u (s : ByteArray) (i : Nat) (w : World) (hs : s.size ≤ 1099511627776) (hi : i ≤ s.size) :
    Calls Tryz.prog 24 #[.string s, .int .i64 (i : Int), .int .u8 117] w fun e w' => e = .returned (.int .i64 (szS s i .u : Nat)) ∧ Below w.heap.size w w' := by
  by_cases h : i + 2 ≤ s.size
  · have e : szS s i .u = 2 + bt s i * 256 + bt s (i + 1) := by unfold szS; rw [if_pos h]
    have h1 : (i : Int) + 2 ≤ (s.size : Int) := by omega
    have h2 : (i : Int) < (s.size : Int) := by omega
    have h3 : (i : Int) + 1 < (s.size : Int) := by omega
    have b0 := bt_at s i (by omega)
    have b1 := bt_at s (i + 1) (by omega)
    have l0 := s[i].toNat_lt
    have l1 := s[i + 1].toNat_lt
    have w0 : IntKind.i64.wrap ((s[i]'(by omega)).toNat : Int) = ((s[i]'(by omega)).toNat : Int) := by rw [IntKind.wrap_i64]; omega
    have w1 : IntKind.i64.wrap ((s[i + 1]'(by omega)).toNat : Int) = ((s[i + 1]'(by omega)).toNat : Int) := by rw [IntKind.wrap_i64]; omega
    rw [e]
    go_enter Tryz.func24, Tryz.ntmps24
    go_wp2
    go_quiet (fail)
    go_wp2
    have hr : (Value.int .i64 (2 + (bt s i : Int) * 256 + (bt s (i + 1) : Int))) = .int .i64 ((2 + bt s i * 256 + bt s (i + 1) : Nat) : Int) := by congr 1
    go_ret
    exact ⟨congrArg Ending.returned hr, rfl, rfl, rfl, Nat.le_refl _, fun _ _ => rfl⟩
  · have e : szS s i .u = 2 := by unfold szS; rw [if_neg h]
    have h1 : (s.size : Int) < (i : Int) + 2 := by omega
    rw [e]
    go_enter Tryz.func24, Tryz.ntmps24
    go_wp2
    go_ret
    exact ⟨rfl, Below.refl _ _⟩
theorem szS_r (q : Lt) (hq : q ≠ .u) (s : ByteArray) (i : Nat) (w : World) :
    Calls Tryz.prog 24 #[.string s, .int .i64 (i : Int), .int .u8 (ltN q)] w fun e w' => e = .returned (.int .i64 (szS s i q : Nat)) ∧ w = w' := by
  cases q with
  | u => exact absurd rfl hq
  | e =>
    show Calls Tryz.prog 24 #[.string s, .int .i64 (i : Int), .int .u8 101] w _
    go_enter Tryz.func24, Tryz.ntmps24
    go_wp2
    go_ret
    exact ⟨rfl, rfl⟩
  | o =>
    show Calls Tryz.prog 24 #[.string s, .int .i64 (i : Int), .int .u8 111] w _
    go_enter Tryz.func24, Tryz.ntmps24
    go_wp2
    go_ret
    exact ⟨rfl, rfl⟩
  | n =>
    show Calls Tryz.prog 24 #[.string s, .int .i64 (i : Int), .int .u8 110] w _
    go_enter Tryz.func24, Tryz.ntmps24
    go_wp2
    go_ret
    exact ⟨rfl, rfl⟩
  | b =>
    show Calls Tryz.prog 24 #[.string s, .int .i64 (i : Int), .int .u8 98] w _
    go_enter Tryz.func24, Tryz.ntmps24
    go_wp2
    go_ret
    exact ⟨rfl, rfl⟩
  | m =>
    show Calls Tryz.prog 24 #[.string s, .int .i64 (i : Int), .int .u8 109] w _
    go_enter Tryz.func24, Tryz.ntmps24
    go_wp2
    go_ret
    exact ⟨rfl, rfl⟩
  | c =>
    show Calls Tryz.prog 24 #[.string s, .int .i64 (i : Int), .int .u8 99] w _
    go_enter Tryz.func24, Tryz.ntmps24
    go_wp2
    go_ret
    exact ⟨rfl, rfl⟩
end Go.Proofs.YtdaobioomoajfaaGreat
namespace Go.Proofs.YtdaobioomoajfaaGreat
open Go.RowKit
theorem set_any (q : Lt) (m : Msg) (t : ByteArray) (w : World) (hu : q = .u → 2 ≤ t.size ∧ t.size ≤ 2097152) (hc : q = .c → 1 ≤ t.size) :
    Calls Tryz.prog 25 #[.agg (msgL m).toArray, .int .u8 (ltN q : Nat), .string t] w fun e w' => e = .returned (.agg (msgL (setS m t q)).toArray) ∧ Below w.heap.size w w' := by
  cases q
  · exact set_u m t w (hu rfl).1 (hu rfl).2
  · exact set_e m t w
  · exact set_o m t w
  · exact set_n m t w
  · exact set_b m t w
  · exact set_m m t w
  · exact set_c m t w (hc rfl)
theorem sz_any (q : Lt) (s : ByteArray) (i : Nat) (w : World) (hs : s.size ≤ 1099511627776) (hi : i ≤ s.size) :
    Calls Tryz.prog 24 #[.string s, .int .i64 (i : Int), .int .u8 (ltN q : Nat)] w fun e w' => e = .returned (.int .i64 (szS s i q : Nat)) ∧ Below w.heap.size w w' := by
  by_cases h : q = .u
  · subst h
    exact szS_u s i w hs hi
  · exact (szS_r q h s i w).mono fun e w' ⟨h1, h2⟩ => ⟨h1, h2 ▸ Below.refl _ _⟩
theorem sz_ge (q : Lt) (s : ByteArray) (i : Nat) : 1 ≤ szS s i q ∧ (q = .u → 2 ≤ szS s i q) ∧ szS s i q ≤ 65537 := by
  cases q with
  | u =>
    have h0 : bt s i < 256 := by unfold bt; exact UInt8.toNat_lt _
    have h1 : bt s (i + 1) < 256 := by unfold bt; exact UInt8.toNat_lt _
    show 1 ≤ (if i + 2 ≤ s.size then 2 + bt s i * 256 + bt s (i + 1) else 2) ∧ (_ → 2 ≤ (if i + 2 ≤ s.size then 2 + bt s i * 256 + bt s (i + 1) else 2)) ∧ (if i + 2 ≤ s.size then 2 + bt s i * 256 + bt s (i + 1) else 2) ≤ 65537
    split
    · exact ⟨by omega, fun _ => by omega, by omega⟩
    · exact ⟨by omega, fun _ => by omega, by omega⟩
  | e => exact ⟨show 1 ≤ 8 by decide, (fun h => by cases h), show 8 ≤ 65537 by decide⟩
  | o => exact ⟨show 1 ≤ 8 by decide, (fun h => by cases h), show 8 ≤ 65537 by decide⟩
  | n => exact ⟨show 1 ≤ 16 by decide, (fun h => by cases h), show 16 ≤ 65537 by decide⟩
  | b => exact ⟨show 1 ≤ 48 by decide, (fun h => by cases h), show 48 ≤ 65537 by decide⟩
  | m => exact ⟨show 1 ≤ 32 by decide, (fun h => by cases h), show 32 ≤ 65537 by decide⟩
  | c => exact ⟨show 1 ≤ 1 by decide, (fun h => by cases h), show 1 ≤ 65537 by decide⟩
end Go.Proofs.YtdaobioomoajfaaGreat
namespace Go.Proofs.YtdaobioomoajfaaGreat
open Go.RowKit
namespace L
section
variable {A : Act} {w : World} {dst : Option Tmp} {ty : TypeId} {ps : String} {af : Array Edge} {gd : Option (Nat × Bool)} {x y z : Operand} {b i : Nat}
theorem addI {a c : Nat} (hx : A.eval x = .int .i64 (a : Int)) (hy : A.eval y = .int .i64 (c : Int)) (h : a + c < 9223372036854775808) : Does Tryz.prog { dst := dst, op := .binOp .add 3 x y 3, type := ty, pos := ps, after := af, guard := gd } A w fun v' w' => v' = .int .i64 ((a + c : Nat) : Int) ∧ Below w.heap.size w w' := by
  have hw : IntKind.i64.wrap ((a : Int) + (c : Int)) = ((a + c : Nat) : Int) := by rw [IntKind.wrap_i64]; omega
  have h : (execOp A.eval { dst := dst, op := .binOp .add 3 x y 3, type := ty, pos := ps, after := af, guard := gd }).run Tryz.prog w = .ok (.value (.int .i64 ((a + c : Nat) : Int))) w := by generalize A.eval = ev at *; simp only [Int.natCast_add] at hw ⊢; simp [execOp, hx, hy, hw, go_sem]
  exact does_value h ⟨rfl, Below.refl _ _⟩
theorem slS {s : ByteArray} {a c : Nat} (hx : A.eval x = .string s) (hy : A.eval y = .int .i64 (a : Int)) (hz : A.eval z = .int .i64 ((a + c : Nat) : Int)) (h : a + c ≤ s.size) : Does Tryz.prog { dst := dst, op := .slice 9 x (some y) (some z) none, type := ty, pos := ps, after := af, guard := gd } A w fun v' w' => v' = .string (s.extract a (a + c)) ∧ Below w.heap.size w w' := by
  generalize hd : a + c = d at *
  have h1 : (d : Int) ≤ (s.size : Int) := by omega
  have h2 : (a : Int) ≤ (d : Int) := by omega
  have h : (execOp A.eval { dst := dst, op := .slice 9 x (some y) (some z) none, type := ty, pos := ps, after := af, guard := gd }).run Tryz.prog w = .ok (.value (.string (s.extract a d))) w := by generalize A.eval = ev at *; simp [execOp, hx, hy, hz, Instr.slice, Instr.sliceBounds, Instr.sliceBound, h, show a ≤ d by omega, go_sem]
  exact does_value h ⟨rfl, Below.refl _ _⟩
theorem cl3 {F : FuncId} {at_ : Array TypeId} {r : Value} {x0 x1 x2 : Operand} {u0 u1 u2 : Value} (hcf : ∀ (args : Array Value) (w : World), (callFunc F args).run Tryz.prog w = .ok (.enter F args) w) (h0 : A.eval x0 = u0) (h1 : A.eval x1 = u1) (h2 : A.eval x2 = u2)
    (hc : Calls Tryz.prog F #[u0, u1, u2] w fun e w' => e = .returned r ∧ Below w.heap.size w w') :
    Does Tryz.prog { dst := dst, op := .call { callee := .value (.func F), args := #[x0, x1, x2], argTypes := at_ }, type := ty, pos := ps, after := af, guard := gd } A w fun v' w' => v' = r ∧ Below w.heap.size w w' := by
  have hF : A.eval (.func F) = .func (.func F) #[] #[] := rfl
  have h : (execOp A.eval { dst := dst, op := .call { callee := .value (.func F), args := #[x0, x1, x2], argTypes := at_ }, type := ty, pos := ps, after := af, guard := gd }).run Tryz.prog w = .ok (.enter F #[u0, u1, u2]) w := by generalize A.eval = ev at *; simp [execOp, hF, hcf, h0, h1, h2, go_sem]
  exact does_call h (hc.mono fun _ _ ⟨h, h'⟩ => ⟨r, h, rfl, h'⟩)
end
end L
theorem Bk.same {W : World} {t : TypeId} {b : Nat} {cs : Array Value} (h : Bk W t b cs) (k : Nat) {v : Value} (hv : cs[k]? = some v) : W.setCell ⟨b, k, none⟩ v = W := by
  have hh : W.heap[b]? = some (.cells cs t) := h
  have e : (W.setCell ⟨b, k, none⟩ v).heap = W.heap := by
    unfold World.setCell
    dsimp only
    apply Array.ext (by simp)
    intro i h1 h2
    rw [Array.getElem_modify]
    split
    · next hi =>
      subst hi
      have e1 := (Array.getElem?_eq_some_iff.1 hh).2
      rw [e1]
      obtain ⟨hk, hk2⟩ := Array.getElem?_eq_some_iff.1 hv
      have e2 : cs.setIfInBounds k v = cs := by
        rw [Array.setIfInBounds_def, dif_pos hk, ← hk2, Array.set_getElem_self]
      simp [e2]
    · rfl
  show { W with heap := (W.setCell ⟨b, k, none⟩ v).heap } = W
  rw [e]
theorem cf7g (args : Array Value) (w : World) : (callFunc 25 args).run Tryz.prog w = .ok (.enter 25 args) w := by kernel_rfl
theorem fl_any (k : Int) (w : World) : Calls Tryz.prog 19 #[.int .i64 k] w fun e w' => e = .returned (.string (ltB (flds k))) ∧ Below w.heap.size w w' := by
  by_cases h : kindB k = true
  · exact flS_yes k w h
  · rw [Bool.not_eq_true] at h
    have e : flds k = [] := by unfold flds; rw [h]; rfl
    rw [e]
    exact flS_no k w h
theorem gmS_0 (s : ByteArray) (w : World) (h0 : s.size = 0) :
    Calls Tryz.prog 9 #[.string s] w fun e w' => e = .returned (.tuple #[.agg (msgL ((getM s).getD { kind := 0 })).toArray, .bool (getM s).isSome]) ∧ Below w.heap.size w w' := by
  rw [← getS_eq]
  have h2 := Bk.new w 27 #[.int .i64 0, .string ⟨#[]⟩, .int .u64 0, .int .u64 0, .bool false, .int .u64 0, .int .u64 0, .bool false, .string ⟨#[]⟩, .string ⟨#[]⟩, .string ⟨#[]⟩, .int .i64 0]
  have hB := (Below.refl _ w).alloc (Nat.le_refl _) (Obj.cells #[.int .i64 0, .string ⟨#[]⟩, .int .u64 0, .int .u64 0, .bool false, .int .u64 0, .int .u64 0, .bool false, .string ⟨#[]⟩, .string ⟨#[]⟩, .string ⟨#[]⟩, .int .i64 0] 27)
  obtain ⟨W1, hW1⟩ : ∃ W, w.alloc (Obj.cells #[.int .i64 0, .string ⟨#[]⟩, .int .u64 0, .int .u64 0, .bool false, .int .u64 0, .int .u64 0, .bool false, .string ⟨#[]⟩, .string ⟨#[]⟩, .string ⟨#[]⟩, .int .i64 0] 27) = W := ⟨_, rfl⟩
  rw [hW1] at h2 hB
  have hl1 : w.heap.size < W1.heap.size := h2.lt
  have h4 := Bk.new W1 27 #[.int .i64 0, .string ⟨#[]⟩, .int .u64 0, .int .u64 0, .bool false, .int .u64 0, .int .u64 0, .bool false, .string ⟨#[]⟩, .string ⟨#[]⟩, .string ⟨#[]⟩, .int .i64 0]
  replace h2 := h2.alloc (Obj.cells #[.int .i64 0, .string ⟨#[]⟩, .int .u64 0, .int .u64 0, .bool false, .int .u64 0, .int .u64 0, .bool false, .string ⟨#[]⟩, .string ⟨#[]⟩, .string ⟨#[]⟩, .int .i64 0] 27)
  replace hB := hB.alloc hB.size (Obj.cells #[.int .i64 0, .string ⟨#[]⟩, .int .u64 0, .int .u64 0, .bool false, .int .u64 0, .int .u64 0, .bool false, .string ⟨#[]⟩, .string ⟨#[]⟩, .string ⟨#[]⟩, .int .i64 0] 27)
  obtain ⟨W2, hW2⟩ : ∃ W, W1.alloc (Obj.cells #[.int .i64 0, .string ⟨#[]⟩, .int .u64 0, .int .u64 0, .bool false, .int .u64 0, .int .u64 0, .bool false, .string ⟨#[]⟩, .string ⟨#[]⟩, .string ⟨#[]⟩, .int .i64 0] 27) = W := ⟨_, rfl⟩
  rw [hW2] at h2 h4 hB
  · have hg : getS s = none := by unfold getS; rw [if_pos h0]
    clear hl1
    have cp0 : W2.cell? ⟨W1.heap.size, 0, none⟩ = some (.int .i64 0) := h4.cell (k := 0) rfl
    have cp1 : W2.cell? ⟨W1.heap.size, 1, none⟩ = some (.string ⟨#[]⟩) := h4.cell (k := 1) rfl
    have cp2 : W2.cell? ⟨W1.heap.size, 2, none⟩ = some (.int .u64 0) := h4.cell (k := 2) rfl
    have cp3 : W2.cell? ⟨W1.heap.size, 3, none⟩ = some (.int .u64 0) := h4.cell (k := 3) rfl
    have cp4 : W2.cell? ⟨W1.heap.size, 4, none⟩ = some (.bool false) := h4.cell (k := 4) rfl
    have cp5 : W2.cell? ⟨W1.heap.size, 5, none⟩ = some (.int .u64 0) := h4.cell (k := 5) rfl
    have cp6 : W2.cell? ⟨W1.heap.size, 6, none⟩ = some (.int .u64 0) := h4.cell (k := 6) rfl
    have cp7 : W2.cell? ⟨W1.heap.size, 7, none⟩ = some (.bool false) := h4.cell (k := 7) rfl
    have cp8 : W2.cell? ⟨W1.heap.size, 8, none⟩ = some (.string ⟨#[]⟩) := h4.cell (k := 8) rfl
    have cp9 : W2.cell? ⟨W1.heap.size, 9, none⟩ = some (.string ⟨#[]⟩) := h4.cell (k := 9) rfl
    have cp10 : W2.cell? ⟨W1.heap.size, 10, none⟩ = some (.string ⟨#[]⟩) := h4.cell (k := 10) rfl
    have cp11 : W2.cell? ⟨W1.heap.size, 11, none⟩ = some (.int .i64 0) := h4.cell (k := 11) rfl
    have fp0 := h4.frz 0
    have fp1 := h4.frz 1
    have fp2 := h4.frz 2
    have fp3 := h4.frz 3
    have fp4 := h4.frz 4
    have fp5 := h4.frz 5
    have fp6 := h4.frz 6
    have fp7 := h4.frz 7
    have fp8 := h4.frz 8
    have fp9 := h4.frz 9
    have fp10 := h4.frz 10
    have fp11 := h4.frz 11
    have ep0 : W2.setCell ⟨W1.heap.size, 0, none⟩ (.int .i64 0) = W2 := h4.same 0 rfl
    have ep1 : W2.setCell ⟨W1.heap.size, 1, none⟩ (.string ⟨#[]⟩) = W2 := h4.same 1 rfl
    have ep2 : W2.setCell ⟨W1.heap.size, 2, none⟩ (.int .u64 0) = W2 := h4.same 2 rfl
    have ep3 : W2.setCell ⟨W1.heap.size, 3, none⟩ (.int .u64 0) = W2 := h4.same 3 rfl
    have ep4 : W2.setCell ⟨W1.heap.size, 4, none⟩ (.bool false) = W2 := h4.same 4 rfl
    have ep5 : W2.setCell ⟨W1.heap.size, 5, none⟩ (.int .u64 0) = W2 := h4.same 5 rfl
    have ep6 : W2.setCell ⟨W1.heap.size, 6, none⟩ (.int .u64 0) = W2 := h4.same 6 rfl
    have ep7 : W2.setCell ⟨W1.heap.size, 7, none⟩ (.bool false) = W2 := h4.same 7 rfl
    have ep8 : W2.setCell ⟨W1.heap.size, 8, none⟩ (.string ⟨#[]⟩) = W2 := h4.same 8 rfl
    have ep9 : W2.setCell ⟨W1.heap.size, 9, none⟩ (.string ⟨#[]⟩) = W2 := h4.same 9 rfl
    have ep10 : W2.setCell ⟨W1.heap.size, 10, none⟩ (.string ⟨#[]⟩) = W2 := h4.same 10 rfl
    have ep11 : W2.setCell ⟨W1.heap.size, 11, none⟩ (.int .i64 0) = W2 := h4.same 11 rfl
    have cq0 : W2.cell? ⟨w.heap.size, 0, none⟩ = some (.int .i64 0) := h2.cell (k := 0) rfl
    have cq1 : W2.cell? ⟨w.heap.size, 1, none⟩ = some (.string ⟨#[]⟩) := h2.cell (k := 1) rfl
    have cq2 : W2.cell? ⟨w.heap.size, 2, none⟩ = some (.int .u64 0) := h2.cell (k := 2) rfl
    have cq3 : W2.cell? ⟨w.heap.size, 3, none⟩ = some (.int .u64 0) := h2.cell (k := 3) rfl
    have cq4 : W2.cell? ⟨w.heap.size, 4, none⟩ = some (.bool false) := h2.cell (k := 4) rfl
    have cq5 : W2.cell? ⟨w.heap.size, 5, none⟩ = some (.int .u64 0) := h2.cell (k := 5) rfl
    have cq6 : W2.cell? ⟨w.heap.size, 6, none⟩ = some (.int .u64 0) := h2.cell (k := 6) rfl
    have cq7 : W2.cell? ⟨w.heap.size, 7, none⟩ = some (.bool false) := h2.cell (k := 7) rfl
    have cq8 : W2.cell? ⟨w.heap.size, 8, none⟩ = some (.string ⟨#[]⟩) := h2.cell (k := 8) rfl
    have cq9 : W2.cell? ⟨w.heap.size, 9, none⟩ = some (.string ⟨#[]⟩) := h2.cell (k := 9) rfl
    have cq10 : W2.cell? ⟨w.heap.size, 10, none⟩ = some (.string ⟨#[]⟩) := h2.cell (k := 10) rfl
    have cq11 : W2.cell? ⟨w.heap.size, 11, none⟩ = some (.int .i64 0) := h2.cell (k := 11) rfl
    have fq0 := h2.frz 0
    have fq1 := h2.frz 1
    have fq2 := h2.frz 2
    have fq3 := h2.frz 3
    have fq4 := h2.frz 4
    have fq5 := h2.frz 5
    have fq6 := h2.frz 6
    have fq7 := h2.frz 7
    have fq8 := h2.frz 8
    have fq9 := h2.frz 9
    have fq10 := h2.frz 10
    have fq11 := h2.frz 11
    have eq0 : W2.setCell ⟨w.heap.size, 0, none⟩ (.int .i64 0) = W2 := h2.same 0 rfl
    have eq1 : W2.setCell ⟨w.heap.size, 1, none⟩ (.string ⟨#[]⟩) = W2 := h2.same 1 rfl
    have eq2 : W2.setCell ⟨w.heap.size, 2, none⟩ (.int .u64 0) = W2 := h2.same 2 rfl
    have eq3 : W2.setCell ⟨w.heap.size, 3, none⟩ (.int .u64 0) = W2 := h2.same 3 rfl
    have eq4 : W2.setCell ⟨w.heap.size, 4, none⟩ (.bool false) = W2 := h2.same 4 rfl
    have eq5 : W2.setCell ⟨w.heap.size, 5, none⟩ (.int .u64 0) = W2 := h2.same 5 rfl
    have eq6 : W2.setCell ⟨w.heap.size, 6, none⟩ (.int .u64 0) = W2 := h2.same 6 rfl
    have eq7 : W2.setCell ⟨w.heap.size, 7, none⟩ (.bool false) = W2 := h2.same 7 rfl
    have eq8 : W2.setCell ⟨w.heap.size, 8, none⟩ (.string ⟨#[]⟩) = W2 := h2.same 8 rfl
    have eq9 : W2.setCell ⟨w.heap.size, 9, none⟩ (.string ⟨#[]⟩) = W2 := h2.same 9 rfl
    have eq10 : W2.setCell ⟨w.heap.size, 10, none⟩ (.string ⟨#[]⟩) = W2 := h2.same 10 rfl
    have eq11 : W2.setCell ⟨w.heap.size, 11, none⟩ (.int .i64 0) = W2 := h2.same 11 rfl
    go_enter Tryz.func9, Tryz.ntmps9
    go_wp2
    all_goals
      refine bodyPost_ret (v := .tuple #[.agg #[.int .i64 0, .string ⟨#[]⟩, .int .u64 0, .int .u64 0, .bool false, .int .u64 0, .int .u64 0, .bool false, .string ⟨#[]⟩, .string ⟨#[]⟩, .string ⟨#[]⟩, .int .i64 0], .bool false]) (bk_res2 (fn := Tryz.f9) (p := 2) (u := 3) Tryz.results9 _ rfl h2 Tryz.underlying27 rfl (by kernel_rfl)) rfl ⟨?_, hB⟩
      rw [hg]
      rfl
theorem gmS_n (s : ByteArray) (w : World) (hz : s.size ≤ 1048576) (h0 : s.size ≠ 0) :
    Calls Tryz.prog 9 #[.string s] w fun e w' => e = .returned (.tuple #[.agg (msgL ((getM s).getD { kind := 0 })).toArray, .bool (getM s).isSome]) ∧ Below w.heap.size w w' := by
  rw [← getS_eq]
  have h2 := Bk.new w 27 #[.int .i64 0, .string ⟨#[]⟩, .int .u64 0, .int .u64 0, .bool false, .int .u64 0, .int .u64 0, .bool false, .string ⟨#[]⟩, .string ⟨#[]⟩, .string ⟨#[]⟩, .int .i64 0]
  have hB := (Below.refl _ w).alloc (Nat.le_refl _) (Obj.cells #[.int .i64 0, .string ⟨#[]⟩, .int .u64 0, .int .u64 0, .bool false, .int .u64 0, .int .u64 0, .bool false, .string ⟨#[]⟩, .string ⟨#[]⟩, .string ⟨#[]⟩, .int .i64 0] 27)
  obtain ⟨W1, hW1⟩ : ∃ W, w.alloc (Obj.cells #[.int .i64 0, .string ⟨#[]⟩, .int .u64 0, .int .u64 0, .bool false, .int .u64 0, .int .u64 0, .bool false, .string ⟨#[]⟩, .string ⟨#[]⟩, .string ⟨#[]⟩, .int .i64 0] 27) = W := ⟨_, rfl⟩
  rw [hW1] at h2 hB
  have hl1 : w.heap.size < W1.heap.size := h2.lt
  have h4 := Bk.new W1 27 #[.int .i64 0, .string ⟨#[]⟩, .int .u64 0, .int .u64 0, .bool false, .int .u64 0, .int .u64 0, .bool false, .string ⟨#[]⟩, .string ⟨#[]⟩, .string ⟨#[]⟩, .int .i64 0]
  replace h2 := h2.alloc (Obj.cells #[.int .i64 0, .string ⟨#[]⟩, .int .u64 0, .int .u64 0, .bool false, .int .u64 0, .int .u64 0, .bool false, .string ⟨#[]⟩, .string ⟨#[]⟩, .string ⟨#[]⟩, .int .i64 0] 27)
  replace hB := hB.alloc hB.size (Obj.cells #[.int .i64 0, .string ⟨#[]⟩, .int .u64 0, .int .u64 0, .bool false, .int .u64 0, .int .u64 0, .bool false, .string ⟨#[]⟩, .string ⟨#[]⟩, .string ⟨#[]⟩, .int .i64 0] 27)
  obtain ⟨W2, hW2⟩ : ∃ W, W1.alloc (Obj.cells #[.int .i64 0, .string ⟨#[]⟩, .int .u64 0, .int .u64 0, .bool false, .int .u64 0, .int .u64 0, .bool false, .string ⟨#[]⟩, .string ⟨#[]⟩, .string ⟨#[]⟩, .int .i64 0] 27) = W := ⟨_, rfl⟩
  rw [hW2] at h2 h4 hB
  have hi0 : (0 : Int) < (s.size : Int) := by omega
  have hk := bt_at s 0 (by omega)
  have hkl := (s[0]'(by omega)).toNat_lt
  have e1 : IntKind.i64.wrap ((s[0]'(by omega)).toNat : Int) = ((s[0]'(by omega)).toNat : Int) := by rw [IntKind.wrap_i64]; omega
  have hG : getS s = match goS s (flds (bt s 0)) { kind := bt s 0 } 1 with
      | none => none
      | some m => if putM m = s then some m else none := by unfold getS; rw [if_neg h0]; rfl
  have hk' : bt s 0 = (s[0]'(by omega)).toNat := by omega
  rw [hk'] at hG
  clear hk hk'
  generalize hkk : (s[0]'(by omega)).toNat = k at *
  obtain ⟨F, hF⟩ : ∃ F, F = flds (k : Int) := ⟨_, rfl⟩
  rw [← hF] at hG
  have cp0 : W2.cell? ⟨W1.heap.size, 0, none⟩ = some (.int .i64 0) := h4.cell (k := 0) rfl
  have cp1 : W2.cell? ⟨W1.heap.size, 1, none⟩ = some (.string ⟨#[]⟩) := h4.cell (k := 1) rfl
  have cp2 : W2.cell? ⟨W1.heap.size, 2, none⟩ = some (.int .u64 0) := h4.cell (k := 2) rfl
  have cp3 : W2.cell? ⟨W1.heap.size, 3, none⟩ = some (.int .u64 0) := h4.cell (k := 3) rfl
  have cp4 : W2.cell? ⟨W1.heap.size, 4, none⟩ = some (.bool false) := h4.cell (k := 4) rfl
  have cp5 : W2.cell? ⟨W1.heap.size, 5, none⟩ = some (.int .u64 0) := h4.cell (k := 5) rfl
  have cp6 : W2.cell? ⟨W1.heap.size, 6, none⟩ = some (.int .u64 0) := h4.cell (k := 6) rfl
  have cp7 : W2.cell? ⟨W1.heap.size, 7, none⟩ = some (.bool false) := h4.cell (k := 7) rfl
  have cp8 : W2.cell? ⟨W1.heap.size, 8, none⟩ = some (.string ⟨#[]⟩) := h4.cell (k := 8) rfl
  have cp9 : W2.cell? ⟨W1.heap.size, 9, none⟩ = some (.string ⟨#[]⟩) := h4.cell (k := 9) rfl
  have cp10 : W2.cell? ⟨W1.heap.size, 10, none⟩ = some (.string ⟨#[]⟩) := h4.cell (k := 10) rfl
  have cp11 : W2.cell? ⟨W1.heap.size, 11, none⟩ = some (.int .i64 0) := h4.cell (k := 11) rfl
  have fp0 := h4.frz 0
  have fp1 := h4.frz 1
  have fp2 := h4.frz 2
  have fp3 := h4.frz 3
  have fp4 := h4.frz 4
  have fp5 := h4.frz 5
  have fp6 := h4.frz 6
  have fp7 := h4.frz 7
  have fp8 := h4.frz 8
  have fp9 := h4.frz 9
  have fp10 := h4.frz 10
  have fp11 := h4.frz 11
  have ep0 : W2.setCell ⟨W1.heap.size, 0, none⟩ (.int .i64 0) = W2 := h4.same 0 rfl
  have ep1 : W2.setCell ⟨W1.heap.size, 1, none⟩ (.string ⟨#[]⟩) = W2 := h4.same 1 rfl
  have ep2 : W2.setCell ⟨W1.heap.size, 2, none⟩ (.int .u64 0) = W2 := h4.same 2 rfl
  have ep3 : W2.setCell ⟨W1.heap.size, 3, none⟩ (.int .u64 0) = W2 := h4.same 3 rfl
  have ep4 : W2.setCell ⟨W1.heap.size, 4, none⟩ (.bool false) = W2 := h4.same 4 rfl
  have ep5 : W2.setCell ⟨W1.heap.size, 5, none⟩ (.int .u64 0) = W2 := h4.same 5 rfl
  have ep6 : W2.setCell ⟨W1.heap.size, 6, none⟩ (.int .u64 0) = W2 := h4.same 6 rfl
  have ep7 : W2.setCell ⟨W1.heap.size, 7, none⟩ (.bool false) = W2 := h4.same 7 rfl
  have ep8 : W2.setCell ⟨W1.heap.size, 8, none⟩ (.string ⟨#[]⟩) = W2 := h4.same 8 rfl
  have ep9 : W2.setCell ⟨W1.heap.size, 9, none⟩ (.string ⟨#[]⟩) = W2 := h4.same 9 rfl
  have ep10 : W2.setCell ⟨W1.heap.size, 10, none⟩ (.string ⟨#[]⟩) = W2 := h4.same 10 rfl
  have ep11 : W2.setCell ⟨W1.heap.size, 11, none⟩ (.int .i64 0) = W2 := h4.same 11 rfl
  have h5 := Bk.new W2 27 #[.int .i64 (k : Int), .string ⟨#[]⟩, .int .u64 0, .int .u64 0, .bool false, .int .u64 0, .int .u64 0, .bool false, .string ⟨#[]⟩, .string ⟨#[]⟩, .string ⟨#[]⟩, .int .i64 0]
  have hl12 : W1.heap.size < W2.heap.size := h4.lt
  replace h2 := h2.alloc (Obj.cells #[.int .i64 (k : Int), .string ⟨#[]⟩, .int .u64 0, .int .u64 0, .bool false, .int .u64 0, .int .u64 0, .bool false, .string ⟨#[]⟩, .string ⟨#[]⟩, .string ⟨#[]⟩, .int .i64 0] 27)
  replace h4 := h4.alloc (Obj.cells #[.int .i64 (k : Int), .string ⟨#[]⟩, .int .u64 0, .int .u64 0, .bool false, .int .u64 0, .int .u64 0, .bool false, .string ⟨#[]⟩, .string ⟨#[]⟩, .string ⟨#[]⟩, .int .i64 0] 27)
  replace hB := hB.alloc hB.size (Obj.cells #[.int .i64 (k : Int), .string ⟨#[]⟩, .int .u64 0, .int .u64 0, .bool false, .int .u64 0, .int .u64 0, .bool false, .string ⟨#[]⟩, .string ⟨#[]⟩, .string ⟨#[]⟩, .int .i64 0] 27)
  obtain ⟨W3, hW3⟩ : ∃ W, W2.alloc (Obj.cells #[.int .i64 (k : Int), .string ⟨#[]⟩, .int .u64 0, .int .u64 0, .bool false, .int .u64 0, .int .u64 0, .bool false, .string ⟨#[]⟩, .string ⟨#[]⟩, .string ⟨#[]⟩, .int .i64 0] 27) = W := ⟨_, rfl⟩
  rw [hW3] at h2 h4 h5 hB
  have cr0 : W3.cell? ⟨W2.heap.size, 0, none⟩ = some (.int .i64 (k : Int)) := h5.cell (k := 0) rfl
  have cr1 : W3.cell? ⟨W2.heap.size, 1, none⟩ = some (.string ⟨#[]⟩) := h5.cell (k := 1) rfl
  have cr2 : W3.cell? ⟨W2.heap.size, 2, none⟩ = some (.int .u64 0) := h5.cell (k := 2) rfl
  have cr3 : W3.cell? ⟨W2.heap.size, 3, none⟩ = some (.int .u64 0) := h5.cell (k := 3) rfl
  have cr4 : W3.cell? ⟨W2.heap.size, 4, none⟩ = some (.bool false) := h5.cell (k := 4) rfl
  have cr5 : W3.cell? ⟨W2.heap.size, 5, none⟩ = some (.int .u64 0) := h5.cell (k := 5) rfl
  have cr6 : W3.cell? ⟨W2.heap.size, 6, none⟩ = some (.int .u64 0) := h5.cell (k := 6) rfl
  have cr7 : W3.cell? ⟨W2.heap.size, 7, none⟩ = some (.bool false) := h5.cell (k := 7) rfl
  have cr8 : W3.cell? ⟨W2.heap.size, 8, none⟩ = some (.string ⟨#[]⟩) := h5.cell (k := 8) rfl
  have cr9 : W3.cell? ⟨W2.heap.size, 9, none⟩ = some (.string ⟨#[]⟩) := h5.cell (k := 9) rfl
  have cr10 : W3.cell? ⟨W2.heap.size, 10, none⟩ = some (.string ⟨#[]⟩) := h5.cell (k := 10) rfl
  have cr11 : W3.cell? ⟨W2.heap.size, 11, none⟩ = some (.int .i64 0) := h5.cell (k := 11) rfl
  have fr0 := h5.frz 0
  have fr1 := h5.frz 1
  have fr2 := h5.frz 2
  have fr3 := h5.frz 3
  have fr4 := h5.frz 4
  have fr5 := h5.frz 5
  have fr6 := h5.frz 6
  have fr7 := h5.frz 7
  have fr8 := h5.frz 8
  have fr9 := h5.frz 9
  have fr10 := h5.frz 10
  have fr11 := h5.frz 11
  have er0 : W3.setCell ⟨W2.heap.size, 0, none⟩ (.int .i64 (k : Int)) = W3 := h5.same 0 rfl
  have er1 : W3.setCell ⟨W2.heap.size, 1, none⟩ (.string ⟨#[]⟩) = W3 := h5.same 1 rfl
  have er2 : W3.setCell ⟨W2.heap.size, 2, none⟩ (.int .u64 0) = W3 := h5.same 2 rfl
  have er3 : W3.setCell ⟨W2.heap.size, 3, none⟩ (.int .u64 0) = W3 := h5.same 3 rfl
  have er4 : W3.setCell ⟨W2.heap.size, 4, none⟩ (.bool false) = W3 := h5.same 4 rfl
  have er5 : W3.setCell ⟨W2.heap.size, 5, none⟩ (.int .u64 0) = W3 := h5.same 5 rfl
  have er6 : W3.setCell ⟨W2.heap.size, 6, none⟩ (.int .u64 0) = W3 := h5.same 6 rfl
  have er7 : W3.setCell ⟨W2.heap.size, 7, none⟩ (.bool false) = W3 := h5.same 7 rfl
  have er8 : W3.setCell ⟨W2.heap.size, 8, none⟩ (.string ⟨#[]⟩) = W3 := h5.same 8 rfl
  have er9 : W3.setCell ⟨W2.heap.size, 9, none⟩ (.string ⟨#[]⟩) = W3 := h5.same 9 rfl
  have er10 : W3.setCell ⟨W2.heap.size, 10, none⟩ (.string ⟨#[]⟩) = W3 := h5.same 10 rfl
  have er11 : W3.setCell ⟨W2.heap.size, 11, none⟩ (.int .i64 0) = W3 := h5.same 11 rfl
  have FL := fun w => fl_any (k : Int) w
  rw [← hF] at FL
  obtain ⟨Gt, hGt⟩ : ∃ g, Hid (g = getS s) := ⟨_, rfl⟩
  rw [← hGt.out] at hG ⊢
  replace hG : Hid (Gt = match goS s F { kind := k } 1 with
      | none => none
      | some m => if putM m = s then some m else none) := hG
  replace hF : Hid (F = flds (k : Int)) := hF
  clear h0
  go_enter Tryz.func9, Tryz.ntmps9
  go_wp2_with fail
  refine (FL _).mono ?_
  rintro e w1 ⟨rfl, b1⟩
  replace h2 := h2.keep b1
  replace h4 := h4.keep b1
  replace h5 := h5.keep b1
  replace hB := hB.trans (b1.mono hB.size)
  have hs0 : (s[0]'(by omega)).toNat = k := hkk
  clear FL b1 hW1 hW2 hW3 e1
  clear cp0 cp1 cp2 cp3 cp4 cp5 cp6 cp7 cp8 cp9 cp10 cp11 fp0 fp1 fp2 fp3 fp4 fp5 fp6 fp7 fp8 fp9 fp10 fp11 ep0 ep1 ep2 ep3 ep4 ep5 ep6 ep7 ep8 ep9 ep10 ep11 cr0 cr1 cr2 cr3 cr4 cr5 cr6 cr7 cr8 cr9 cr10 cr11 fr0 fr1 fr2 fr3 fr4 fr5 fr6 fr7 fr8 fr9 fr10 fr11 er0 er1 er2 er3 er4 er5 er6 er7 er8 er9 er10 er11
  obtain ⟨b5, hb5⟩ : ∃ r, r = W2.heap.size := ⟨_, rfl⟩
  obtain ⟨b4, hb4⟩ : ∃ r, r = W1.heap.size := ⟨_, rfl⟩
  obtain ⟨b2, hb2⟩ : ∃ r, r = w.heap.size := ⟨_, rfl⟩
  have n25 : some b2 ≠ some b5 := fun h => by have := Option.some.inj h; omega
  have n45 : some b4 ≠ some b5 := fun h => by have := Option.some.inj h; omega
  have hl5 : w.heap.size ≤ b5 := by omega
  have hl2 : w.heap.size ≤ b2 := by omega
  rw [← hb5] at h5
  rw [← hb4] at h4
  rw [← hb2] at h2
  simp only [← hb5, ← hb4, ← hb2]
  clear hb5 hb4 hb2 hl1 hl12 hs0 hkk
  obtain ⟨n, hn⟩ : ∃ n, F.length = n := ⟨_, rfl⟩
  have hn8 : n ≤ 5 := by
    rw [← hn, hF.out]
    exact flds_le _
  have hls : (ltB F).size = n := (ltB_size _).trans hn
  have hix : Hid (∀ j, j < n → ∃ q, F[j]? = some q ∧ ∀ hj, (((ltB F)[j]'hj).toNat : Int) = ((ltN q : Nat) : Int)) := fun j hj =>
    ⟨F[j]'(by omega), List.getElem?_eq_getElem (by omega), fun h => ltB_at _ _ _ (List.getElem?_eq_getElem (by omega)) h⟩
  generalize ltB F = LB at *
  have hs1 : Hid (Sml s.size { kind := (k : Int) }) := ⟨by show (0 : Int) ≤ (k : Int); omega, by show (k : Int) < 256; omega, by show (0 : Int) ≤ 0; omega, by show (0 : Int) < 256; omega, Nat.zero_le _, Nat.zero_le _, Nat.zero_le _, Nat.zero_le _⟩
  go_wp2
  have hq0 : ((s.size : Int) == 0) = false := by rw [beq_eq_false_iff_ne]; omega
  simp only [hq0]
  go_loopw [7, 8] (fun av iv wr => ∃ (j i : Nat) (r : Msg), j ≤ n ∧ iv = .int .i64 (j : Int) ∧ av = .int .i64 (i : Int) ∧ i ≤ s.size ∧ Bk wr 27 b2 #[.int .i64 0, .string ⟨#[]⟩, .int .u64 0, .int .u64 0, .bool false, .int .u64 0, .int .u64 0, .bool false, .string ⟨#[]⟩, .string ⟨#[]⟩, .string ⟨#[]⟩, .int .i64 0] ∧ Bk wr 27 b4 #[.int .i64 0, .string ⟨#[]⟩, .int .u64 0, .int .u64 0, .bool false, .int .u64 0, .int .u64 0, .bool false, .string ⟨#[]⟩, .string ⟨#[]⟩, .string ⟨#[]⟩, .int .i64 0] ∧ Bk wr 27 b5 (msgL r).toArray ∧ Hid (Sml s.size r) ∧ Hid (goS s F { kind := (k : Int) } 1 = goS s (F.drop j) r i) ∧ Below w.heap.size w wr) (fun _ i _ => n - (intOf i).toNat)
  case atStart => exact ⟨0, 1, { kind := (k : Int) }, by omega, rfl, rfl, by omega, h2, h4, h5, hs1, by rw [List.drop_zero]; rfl, hB⟩
  case round =>
    clear h2 h4 h5 hB
    obtain ⟨j, i, r, hj, rfl, rfl, hi, h2, h4, h5, hsm, hgo, hB⟩ := hrel
    by_cases hlt : j < n
    · have hli : (j : Int) < (LB.size : Int) := by omega
      obtain ⟨q, hq, hxq⟩ := hix.out j hlt
      have hjl : j < LB.size := by omega
      have hge := sz_ge q s i
      have hstep := goS_step s F j q r i hq
      have SZ := fun w => sz_any q s i w (by omega) hi
      generalize szS s i q = nn at *
      have hx1 := hxq hjl
      have hadd : i + nn < 9223372036854775808 := by omega
      replace hstep : Hid (goS s (F.drop j) r i = if s.size < i + nn then none else goS s (F.drop (j + 1)) (setS r (s.extract i (i + nn)) q) (i + nn)) := hstep
      go_wp2_with fail
      refine (SZ _).mono ?_
      rintro e w1 ⟨rfl, b1⟩
      replace h2 := h2.keep b1
      replace h4 := h4.keep b1
      replace h5 := h5.keep b1
      replace hB := hB.trans (b1.mono hB.size)
      clear b1 SZ
      by_cases hov : s.size < i + nn
      · have hov' : (s.size : Int) < (i : Int) + (nn : Int) := by omega
        have hg : Gt = none := by rw [hG.out, hgo.out, hstep.out, if_pos hov]
        clear hix hov hx1 hadd hli hlt
        have c0 : w1.cell? ⟨b4, 0, none⟩ = some (.int .i64 0) := h4.cell (k := 0) rfl
        have c1 : w1.cell? ⟨b4, 1, none⟩ = some (.string ⟨#[]⟩) := h4.cell (k := 1) rfl
        have c2 : w1.cell? ⟨b4, 2, none⟩ = some (.int .u64 0) := h4.cell (k := 2) rfl
        have c3 : w1.cell? ⟨b4, 3, none⟩ = some (.int .u64 0) := h4.cell (k := 3) rfl
        have c4 : w1.cell? ⟨b4, 4, none⟩ = some (.bool false) := h4.cell (k := 4) rfl
        have c5 : w1.cell? ⟨b4, 5, none⟩ = some (.int .u64 0) := h4.cell (k := 5) rfl
        have c6 : w1.cell? ⟨b4, 6, none⟩ = some (.int .u64 0) := h4.cell (k := 6) rfl
        have c7 : w1.cell? ⟨b4, 7, none⟩ = some (.bool false) := h4.cell (k := 7) rfl
        have c8 : w1.cell? ⟨b4, 8, none⟩ = some (.string ⟨#[]⟩) := h4.cell (k := 8) rfl
        have c9 : w1.cell? ⟨b4, 9, none⟩ = some (.string ⟨#[]⟩) := h4.cell (k := 9) rfl
        have c10 : w1.cell? ⟨b4, 10, none⟩ = some (.string ⟨#[]⟩) := h4.cell (k := 10) rfl
        have c11 : w1.cell? ⟨b4, 11, none⟩ = some (.int .i64 0) := h4.cell (k := 11) rfl
        have cq0 : w1.cell? ⟨b2, 0, none⟩ = some (.int .i64 0) := h2.cell (k := 0) rfl
        have cq1 : w1.cell? ⟨b2, 1, none⟩ = some (.string ⟨#[]⟩) := h2.cell (k := 1) rfl
        have cq2 : w1.cell? ⟨b2, 2, none⟩ = some (.int .u64 0) := h2.cell (k := 2) rfl
        have cq3 : w1.cell? ⟨b2, 3, none⟩ = some (.int .u64 0) := h2.cell (k := 3) rfl
        have cq4 : w1.cell? ⟨b2, 4, none⟩ = some (.bool false) := h2.cell (k := 4) rfl
        have cq5 : w1.cell? ⟨b2, 5, none⟩ = some (.int .u64 0) := h2.cell (k := 5) rfl
        have cq6 : w1.cell? ⟨b2, 6, none⟩ = some (.int .u64 0) := h2.cell (k := 6) rfl
        have cq7 : w1.cell? ⟨b2, 7, none⟩ = some (.bool false) := h2.cell (k := 7) rfl
        have cq8 : w1.cell? ⟨b2, 8, none⟩ = some (.string ⟨#[]⟩) := h2.cell (k := 8) rfl
        have cq9 : w1.cell? ⟨b2, 9, none⟩ = some (.string ⟨#[]⟩) := h2.cell (k := 9) rfl
        have cq10 : w1.cell? ⟨b2, 10, none⟩ = some (.string ⟨#[]⟩) := h2.cell (k := 10) rfl
        have cq11 : w1.cell? ⟨b2, 11, none⟩ = some (.int .i64 0) := h2.cell (k := 11) rfl
        have fq0 := h2.frz 0
        have fq1 := h2.frz 1
        have fq2 := h2.frz 2
        have fq3 := h2.frz 3
        have fq4 := h2.frz 4
        have fq5 := h2.frz 5
        have fq6 := h2.frz 6
        have fq7 := h2.frz 7
        have fq8 := h2.frz 8
        have fq9 := h2.frz 9
        have fq10 := h2.frz 10
        have fq11 := h2.frz 11
        have eq0 : w1.setCell ⟨b2, 0, none⟩ (.int .i64 0) = w1 := h2.same 0 rfl
        have eq1 : w1.setCell ⟨b2, 1, none⟩ (.string ⟨#[]⟩) = w1 := h2.same 1 rfl
        have eq2 : w1.setCell ⟨b2, 2, none⟩ (.int .u64 0) = w1 := h2.same 2 rfl
        have eq3 : w1.setCell ⟨b2, 3, none⟩ (.int .u64 0) = w1 := h2.same 3 rfl
        have eq4 : w1.setCell ⟨b2, 4, none⟩ (.bool false) = w1 := h2.same 4 rfl
        have eq5 : w1.setCell ⟨b2, 5, none⟩ (.int .u64 0) = w1 := h2.same 5 rfl
        have eq6 : w1.setCell ⟨b2, 6, none⟩ (.int .u64 0) = w1 := h2.same 6 rfl
        have eq7 : w1.setCell ⟨b2, 7, none⟩ (.bool false) = w1 := h2.same 7 rfl
        have eq8 : w1.setCell ⟨b2, 8, none⟩ (.string ⟨#[]⟩) = w1 := h2.same 8 rfl
        have eq9 : w1.setCell ⟨b2, 9, none⟩ (.string ⟨#[]⟩) = w1 := h2.same 9 rfl
        have eq10 : w1.setCell ⟨b2, 10, none⟩ (.string ⟨#[]⟩) = w1 := h2.same 10 rfl
        have eq11 : w1.setCell ⟨b2, 11, none⟩ (.int .i64 0) = w1 := h2.same 11 rfl
        go_wp2
        all_goals
          refine bodyPost_ret (v := .tuple #[.agg #[.int .i64 0, .string ⟨#[]⟩, .int .u64 0, .int .u64 0, .bool false, .int .u64 0, .int .u64 0, .bool false, .string ⟨#[]⟩, .string ⟨#[]⟩, .string ⟨#[]⟩, .int .i64 0], .bool false]) (bk_res2 (fn := Tryz.f9) (p := 2) (u := 3) Tryz.results9 _ rfl h2 Tryz.underlying27 rfl (by kernel_rfl)) rfl ⟨?_, hB⟩
          rw [hg]
          rfl
      · have hov' : (i : Int) + (nn : Int) ≤ (s.size : Int) := by omega
        have hle : i + nn ≤ s.size := by omega
        have hez : (s.extract i (i + nn)).size = nn := by rw [ByteArray.size_extract]; omega
        have hsu : q = .u → 2 ≤ (s.extract i (i + nn)).size ∧ (s.extract i (i + nn)).size ≤ 2097152 := fun h => by rw [hez]; exact ⟨hge.2.1 h, by omega⟩
        have hsc : q = .c → 1 ≤ (s.extract i (i + nn)).size := fun h => by rw [hez]; exact hge.1
        have hsm' := hsm.out.set (show (s.extract i (i + nn)).size ≤ s.size by rw [hez]; omega) q
        rw [hstep.out, if_neg hov] at hgo
        clear hx1 hov hez hge hstep
        go_wp2
        refine G.pool_prT (W := w1) [] 11 [.val (.agg (msgL r).toArray),
            .val (.string LB),
            .val (.int .i64 (j : Int)),
            .val (.int .u8 ((ltN q : Nat) : Int)),
            .val (.string s),
            .val (.int .i64 (i : Int)),
            .val (.int .i64 (i : Int)),
            .val (.int .i64 (nn : Int)),
            .val (.int .i64 ((i + nn : Nat) : Int)),
            .val (.string (s.extract i (i + nn))),
            .val (.agg (msgL (setS r (s.extract i (i + nn)) q)).toArray)] [[5], [6], [8], [42, 43], [0], [7], [7], [9], [47, 48], [45, 46, 49], [41, 44, 50], [5, 51]] (fun f => [(some 41, .agg (msgL r).toArray), (some 42, .string LB), (some 43, .int .i64 (j : Int)), (some 44, .int .u8 ((ltN q : Nat) : Int)), (some 45, .string s), (some 46, .int .i64 (i : Int)), (some 47, .int .i64 (i : Int)), (some 48, .int .i64 (nn : Int)), (some 49, .int .i64 ((i + nn : Nat) : Int)), (some 50, .string (s.extract i (i + nn))), (some 51, .agg (msgL (setS r (s.extract i (i + nn)) q)).toArray)]) (by kernel_rfl) (by kernel_rfl) (by kernel_rfl) (by kernel_rfl) (by decide) (by kernel_rfl) (fun _ => by kernel_rfl) (G.last_of [] (fun F R hm => by simp at hm) (fun ob ob' k hm => by simp at hm) (fun b ob ob' hm => by simp at hm)) (fun b ob ob' hm => by simp at hm) ?_ ?_
        · intro ix hix
          match ix, hix with
          | 0, _ => exact G.ob_val [(5, .pointer (some ⟨b5, 0, none⟩))] rfl rfl (fun _ => by kernel_rfl) (fun A w ⟨e0, _⟩ hB => L.ldM e0 (sideBk hB h5) rfl)
          | 1, _ => exact G.ob_val [(6, .string LB)] rfl rfl (fun _ => by kernel_rfl) (fun A w ⟨e0, _⟩ hB => L.move e0)
          | 2, _ => exact G.ob_val [(8, .int .i64 (j : Int))] rfl rfl (fun _ => by kernel_rfl) (fun A w ⟨e0, _⟩ hB => L.move e0)
          | 3, _ => exact G.ob_val [(42, .string LB), (43, .int .i64 (j : Int))] rfl rfl (fun _ => by kernel_rfl) (fun A w ⟨e0, e1, _⟩ hB => L.ixS e0 e1 hjl (hxq hjl))
          | 4, _ => exact G.ob_val [(0, .string s)] rfl rfl (fun _ => by kernel_rfl) (fun A w ⟨e0, _⟩ hB => L.move e0)
          | 5, _ => exact G.ob_val [(7, .int .i64 (i : Int))] rfl rfl (fun _ => by kernel_rfl) (fun A w ⟨e0, _⟩ hB => L.move e0)
          | 6, _ => exact G.ob_val [(7, .int .i64 (i : Int))] rfl rfl (fun _ => by kernel_rfl) (fun A w ⟨e0, _⟩ hB => L.move e0)
          | 7, _ => exact G.ob_val [(9, .int .i64 (nn : Int))] rfl rfl (fun _ => by kernel_rfl) (fun A w ⟨e0, _⟩ hB => L.move e0)
          | 8, _ => exact G.ob_val [(47, .int .i64 (i : Int)), (48, .int .i64 (nn : Int))] rfl rfl (fun _ => by kernel_rfl) (fun A w ⟨e0, e1, _⟩ hB => L.addI e0 e1 hadd)
          | 9, _ => exact G.ob_val [(45, .string s), (46, .int .i64 (i : Int)), (49, .int .i64 ((i + nn : Nat) : Int))] rfl rfl (fun _ => by kernel_rfl) (fun A w ⟨e0, e1, e2, _⟩ hB => L.slS e0 e1 e2 hle)
          | 10, _ => exact G.ob_val [(41, .agg (msgL r).toArray), (44, .int .u8 ((ltN q : Nat) : Int)), (50, .string (s.extract i (i + nn)))] rfl rfl (fun _ => by kernel_rfl) (fun A w ⟨e0, e1, e2, _⟩ hB => L.cl3 cf7g e0 e1 e2 (set_any q r _ w hsu hsc))
          | ix + 11, h => exact absurd h (by omega)
        intro f2 W5 hS y1 y2 y3 fuel hfuel
        have b5' : Below w1.heap.size w1 W5 := (Below.refl _ w1).drew.trans hS.below
        replace h2 := h2.keep b5'
        replace h4 := h4.keep b5'
        replace h5 := h5.keep b5'
        replace hB := hB.trans (b5'.mono hB.size)
        clear hS b5' y1 y2 y3
        simp only [puts, List.foldl, Act.put, List.setIfInBounds_toArray, List.set_cons_zero, List.set_cons_succ]
        refine last_do1 11 hfuel (by kernel_rfl) (by kernel_rfl) rfl rfl ?_
        refine fun Q K hK => L.puA (cs := (msgL (setS r (s.extract i (i + nn)) q)).toArray) rfl rfl h5 rfl sizeMsg (oneMsg _) Q K (fun v w' hT => hK v w' ?_)
        have h6 : Bk w' 27 b5 (msgL (setS r (s.extract i (i + nn)) q)).toArray := hT.self
        have hg : W5.grownBy w' (some b5) := ⟨hT.os, hT.tape, hT.output, by rw [hT.size]; exact Nat.le_refl _, fun k _ hk => hT.other k (fun e => hk (by rw [e]))⟩
        replace h2 := h2.keptBy hg n25
        replace h4 := h4.keptBy hg n45
        have hB6 := belowG hB hg hl5 hB.size
        clear hT hg h5 hB
        go_wp2
        go_round
        case rel => exact ⟨j + 1, i + nn, _, by omega, by go_num, by go_num, hle, h2, h4, h6, hsm', hgo, hB6⟩
        case measure => simp [intOf]; omega
    · obtain rfl : j = n := by omega
      have hli : (LB.size : Int) ≤ (j : Int) := by omega
      have hgo' : goS s F { kind := (k : Int) } 1 = some r := by
        rw [hgo.out, List.drop_eq_nil_of_le (by omega), goS]
      rw [hgo'] at hG
      have hf := hsm.out.fits hz
      have c0 : wr.cell? ⟨b5, 0, none⟩ = some (.int .i64 r.kind) := h5.cell (k := 0) rfl
      have c1 : wr.cell? ⟨b5, 1, none⟩ = some (.string r.user) := h5.cell (k := 1) rfl
      have c2 : wr.cell? ⟨b5, 2, none⟩ = some (.int .u64 (r.el.1 : Int)) := h5.cell (k := 2) rfl
      have c3 : wr.cell? ⟨b5, 3, none⟩ = some (.int .u64 (r.el.2.1 : Int)) := h5.cell (k := 3) rfl
      have c4 : wr.cell? ⟨b5, 4, none⟩ = some (.bool r.el.2.2) := h5.cell (k := 4) rfl
      have c5 : wr.cell? ⟨b5, 5, none⟩ = some (.int .u64 (r.ot.1 : Int)) := h5.cell (k := 5) rfl
      have c6 : wr.cell? ⟨b5, 6, none⟩ = some (.int .u64 (r.ot.2.1 : Int)) := h5.cell (k := 6) rfl
      have c7 : wr.cell? ⟨b5, 7, none⟩ = some (.bool r.ot.2.2) := h5.cell (k := 7) rfl
      have c8 : wr.cell? ⟨b5, 8, none⟩ = some (.string r.nonce) := h5.cell (k := 8) rfl
      have c9 : wr.cell? ⟨b5, 9, none⟩ = some (.string r.box) := h5.cell (k := 9) rfl
      have c10 : wr.cell? ⟨b5, 10, none⟩ = some (.string r.mac) := h5.cell (k := 10) rfl
      have c11 : wr.cell? ⟨b5, 11, none⟩ = some (.int .i64 r.code) := h5.cell (k := 11) rfl
      have PM := fun w => pmS r w hf
      simp only [msgL] at PM
      clear hgo hgo' hsm hf hix
      go_wp2_with fail
      refine (PM _).mono ?_
      rintro e w1 ⟨rfl, b1⟩
      replace h2 := h2.keep b1
      replace h4 := h4.keep b1
      replace h5 := h5.keep b1
      replace hB := hB.trans (b1.mono hB.size)
      clear b1 PM c0 c1 c2 c3 c4 c5 c6 c7 c8 c9 c10 c11
      by_cases hps : putM r = s
      · have hg : Gt = some r := by rw [hG.out]; exact if_pos hps
        rw [hps]
        clear hG hps
        have c0 : w1.cell? ⟨b5, 0, none⟩ = some (.int .i64 r.kind) := h5.cell (k := 0) rfl
        have c1 : w1.cell? ⟨b5, 1, none⟩ = some (.string r.user) := h5.cell (k := 1) rfl
        have c2 : w1.cell? ⟨b5, 2, none⟩ = some (.int .u64 (r.el.1 : Int)) := h5.cell (k := 2) rfl
        have c3 : w1.cell? ⟨b5, 3, none⟩ = some (.int .u64 (r.el.2.1 : Int)) := h5.cell (k := 3) rfl
        have c4 : w1.cell? ⟨b5, 4, none⟩ = some (.bool r.el.2.2) := h5.cell (k := 4) rfl
        have c5 : w1.cell? ⟨b5, 5, none⟩ = some (.int .u64 (r.ot.1 : Int)) := h5.cell (k := 5) rfl
        have c6 : w1.cell? ⟨b5, 6, none⟩ = some (.int .u64 (r.ot.2.1 : Int)) := h5.cell (k := 6) rfl
        have c7 : w1.cell? ⟨b5, 7, none⟩ = some (.bool r.ot.2.2) := h5.cell (k := 7) rfl
        have c8 : w1.cell? ⟨b5, 8, none⟩ = some (.string r.nonce) := h5.cell (k := 8) rfl
        have c9 : w1.cell? ⟨b5, 9, none⟩ = some (.string r.box) := h5.cell (k := 9) rfl
        have c10 : w1.cell? ⟨b5, 10, none⟩ = some (.string r.mac) := h5.cell (k := 10) rfl
        have c11 : w1.cell? ⟨b5, 11, none⟩ = some (.int .i64 r.code) := h5.cell (k := 11) rfl
        have d0 : w1.cell? ⟨b2, 0, none⟩ = some (.int .i64 0) := h2.cell (k := 0) rfl
        have d1 : w1.cell? ⟨b2, 1, none⟩ = some (.string ⟨#[]⟩) := h2.cell (k := 1) rfl
        have d2 : w1.cell? ⟨b2, 2, none⟩ = some (.int .u64 0) := h2.cell (k := 2) rfl
        have d3 : w1.cell? ⟨b2, 3, none⟩ = some (.int .u64 0) := h2.cell (k := 3) rfl
        have d4 : w1.cell? ⟨b2, 4, none⟩ = some (.bool false) := h2.cell (k := 4) rfl
        have d5 : w1.cell? ⟨b2, 5, none⟩ = some (.int .u64 0) := h2.cell (k := 5) rfl
        have d6 : w1.cell? ⟨b2, 6, none⟩ = some (.int .u64 0) := h2.cell (k := 6) rfl
        have d7 : w1.cell? ⟨b2, 7, none⟩ = some (.bool false) := h2.cell (k := 7) rfl
        have d8 : w1.cell? ⟨b2, 8, none⟩ = some (.string ⟨#[]⟩) := h2.cell (k := 8) rfl
        have d9 : w1.cell? ⟨b2, 9, none⟩ = some (.string ⟨#[]⟩) := h2.cell (k := 9) rfl
        have d10 : w1.cell? ⟨b2, 10, none⟩ = some (.string ⟨#[]⟩) := h2.cell (k := 10) rfl
        have d11 : w1.cell? ⟨b2, 11, none⟩ = some (.int .i64 0) := h2.cell (k := 11) rfl
        have f0 := h2.frz 0
        have f1 := h2.frz 1
        have f2 := h2.frz 2
        have f3 := h2.frz 3
        have f4 := h2.frz 4
        have f5 := h2.frz 5
        have f6 := h2.frz 6
        have f7 := h2.frz 7
        have f8 := h2.frz 8
        have f9 := h2.frz 9
        have f10 := h2.frz 10
        have f11 := h2.frz 11
        go_wp2
        all_goals
          have hMn := ((((((((((((h2.set 0 (.int .i64 r.kind)).set 1 (.string r.user)).set 2 (.int .u64 (r.el.1 : Int))).set 3 (.int .u64 (r.el.2.1 : Int))).set 4 (.bool r.el.2.2)).set 5 (.int .u64 (r.ot.1 : Int))).set 6 (.int .u64 (r.ot.2.1 : Int))).set 7 (.bool r.ot.2.2)).set 8 (.string r.nonce)).set 9 (.string r.box)).set 10 (.string r.mac)).set 11 (.int .i64 r.code))
          have hBn := ((((((((((((hB.setCell (p := ⟨b2, 0, none⟩) hl2 (.int .i64 r.kind)).setCell (p := ⟨b2, 1, none⟩) hl2 (.string r.user)).setCell (p := ⟨b2, 2, none⟩) hl2 (.int .u64 (r.el.1 : Int))).setCell (p := ⟨b2, 3, none⟩) hl2 (.int .u64 (r.el.2.1 : Int))).setCell (p := ⟨b2, 4, none⟩) hl2 (.bool r.el.2.2)).setCell (p := ⟨b2, 5, none⟩) hl2 (.int .u64 (r.ot.1 : Int))).setCell (p := ⟨b2, 6, none⟩) hl2 (.int .u64 (r.ot.2.1 : Int))).setCell (p := ⟨b2, 7, none⟩) hl2 (.bool r.ot.2.2)).setCell (p := ⟨b2, 8, none⟩) hl2 (.string r.nonce)).setCell (p := ⟨b2, 9, none⟩) hl2 (.string r.box)).setCell (p := ⟨b2, 10, none⟩) hl2 (.string r.mac)).setCell (p := ⟨b2, 11, none⟩) hl2 (.int .i64 r.code))
          simp only [List.setIfInBounds_toArray, List.set_cons_zero, List.set_cons_succ] at hMn
          refine bodyPost_ret (v := .tuple #[.agg #[.int .i64 r.kind, .string r.user, .int .u64 (r.el.1 : Int), .int .u64 (r.el.2.1 : Int), .bool r.el.2.2, .int .u64 (r.ot.1 : Int), .int .u64 (r.ot.2.1 : Int), .bool r.ot.2.2, .string r.nonce, .string r.box, .string r.mac, .int .i64 r.code], .bool true]) (bk_res2 (fn := Tryz.f9) (p := 2) (u := 3) Tryz.results9 _ rfl hMn Tryz.underlying27 rfl (by kernel_rfl)) rfl ⟨?_, hBn⟩
          rw [hg]; rfl
      · have hg : Gt = none := by rw [hG.out]; exact if_neg hps
        have hre := str_ne hps
        generalize putM r = pr at *
        clear hG hps
        have c0 : w1.cell? ⟨b4, 0, none⟩ = some (.int .i64 0) := h4.cell (k := 0) rfl
        have c1 : w1.cell? ⟨b4, 1, none⟩ = some (.string ⟨#[]⟩) := h4.cell (k := 1) rfl
        have c2 : w1.cell? ⟨b4, 2, none⟩ = some (.int .u64 0) := h4.cell (k := 2) rfl
        have c3 : w1.cell? ⟨b4, 3, none⟩ = some (.int .u64 0) := h4.cell (k := 3) rfl
        have c4 : w1.cell? ⟨b4, 4, none⟩ = some (.bool false) := h4.cell (k := 4) rfl
        have c5 : w1.cell? ⟨b4, 5, none⟩ = some (.int .u64 0) := h4.cell (k := 5) rfl
        have c6 : w1.cell? ⟨b4, 6, none⟩ = some (.int .u64 0) := h4.cell (k := 6) rfl
        have c7 : w1.cell? ⟨b4, 7, none⟩ = some (.bool false) := h4.cell (k := 7) rfl
        have c8 : w1.cell? ⟨b4, 8, none⟩ = some (.string ⟨#[]⟩) := h4.cell (k := 8) rfl
        have c9 : w1.cell? ⟨b4, 9, none⟩ = some (.string ⟨#[]⟩) := h4.cell (k := 9) rfl
        have c10 : w1.cell? ⟨b4, 10, none⟩ = some (.string ⟨#[]⟩) := h4.cell (k := 10) rfl
        have c11 : w1.cell? ⟨b4, 11, none⟩ = some (.int .i64 0) := h4.cell (k := 11) rfl
        have cq0 : w1.cell? ⟨b2, 0, none⟩ = some (.int .i64 0) := h2.cell (k := 0) rfl
        have cq1 : w1.cell? ⟨b2, 1, none⟩ = some (.string ⟨#[]⟩) := h2.cell (k := 1) rfl
        have cq2 : w1.cell? ⟨b2, 2, none⟩ = some (.int .u64 0) := h2.cell (k := 2) rfl
        have cq3 : w1.cell? ⟨b2, 3, none⟩ = some (.int .u64 0) := h2.cell (k := 3) rfl
        have cq4 : w1.cell? ⟨b2, 4, none⟩ = some (.bool false) := h2.cell (k := 4) rfl
        have cq5 : w1.cell? ⟨b2, 5, none⟩ = some (.int .u64 0) := h2.cell (k := 5) rfl
        have cq6 : w1.cell? ⟨b2, 6, none⟩ = some (.int .u64 0) := h2.cell (k := 6) rfl
        have cq7 : w1.cell? ⟨b2, 7, none⟩ = some (.bool false) := h2.cell (k := 7) rfl
        have cq8 : w1.cell? ⟨b2, 8, none⟩ = some (.string ⟨#[]⟩) := h2.cell (k := 8) rfl
        have cq9 : w1.cell? ⟨b2, 9, none⟩ = some (.string ⟨#[]⟩) := h2.cell (k := 9) rfl
        have cq10 : w1.cell? ⟨b2, 10, none⟩ = some (.string ⟨#[]⟩) := h2.cell (k := 10) rfl
        have cq11 : w1.cell? ⟨b2, 11, none⟩ = some (.int .i64 0) := h2.cell (k := 11) rfl
        have fq0 := h2.frz 0
        have fq1 := h2.frz 1
        have fq2 := h2.frz 2
        have fq3 := h2.frz 3
        have fq4 := h2.frz 4
        have fq5 := h2.frz 5
        have fq6 := h2.frz 6
        have fq7 := h2.frz 7
        have fq8 := h2.frz 8
        have fq9 := h2.frz 9
        have fq10 := h2.frz 10
        have fq11 := h2.frz 11
        have eq0 : w1.setCell ⟨b2, 0, none⟩ (.int .i64 0) = w1 := h2.same 0 rfl
        have eq1 : w1.setCell ⟨b2, 1, none⟩ (.string ⟨#[]⟩) = w1 := h2.same 1 rfl
        have eq2 : w1.setCell ⟨b2, 2, none⟩ (.int .u64 0) = w1 := h2.same 2 rfl
        have eq3 : w1.setCell ⟨b2, 3, none⟩ (.int .u64 0) = w1 := h2.same 3 rfl
        have eq4 : w1.setCell ⟨b2, 4, none⟩ (.bool false) = w1 := h2.same 4 rfl
        have eq5 : w1.setCell ⟨b2, 5, none⟩ (.int .u64 0) = w1 := h2.same 5 rfl
        have eq6 : w1.setCell ⟨b2, 6, none⟩ (.int .u64 0) = w1 := h2.same 6 rfl
        have eq7 : w1.setCell ⟨b2, 7, none⟩ (.bool false) = w1 := h2.same 7 rfl
        have eq8 : w1.setCell ⟨b2, 8, none⟩ (.string ⟨#[]⟩) = w1 := h2.same 8 rfl
        have eq9 : w1.setCell ⟨b2, 9, none⟩ (.string ⟨#[]⟩) = w1 := h2.same 9 rfl
        have eq10 : w1.setCell ⟨b2, 10, none⟩ (.string ⟨#[]⟩) = w1 := h2.same 10 rfl
        have eq11 : w1.setCell ⟨b2, 11, none⟩ (.int .i64 0) = w1 := h2.same 11 rfl
        go_wp2
        all_goals
          refine bodyPost_ret (v := .tuple #[.agg #[.int .i64 0, .string ⟨#[]⟩, .int .u64 0, .int .u64 0, .bool false, .int .u64 0, .int .u64 0, .bool false, .string ⟨#[]⟩, .string ⟨#[]⟩, .string ⟨#[]⟩, .int .i64 0], .bool false]) (bk_res2 (fn := Tryz.f9) (p := 2) (u := 3) Tryz.results9 _ rfl h2 Tryz.underlying27 rfl (by kernel_rfl)) rfl ⟨?_, hB⟩
          rw [hg]
          rfl
theorem gmS (s : ByteArray) (w : World) (hz : s.size ≤ 1048576) :
    Calls Tryz.prog 9 #[.string s] w fun e w' => e = .returned (.tuple #[.agg (msgL ((getM s).getD { kind := 0 })).toArray, .bool (getM s).isSome]) ∧ Below w.heap.size w w' := by
  by_cases h0 : s.size = 0
  · exact gmS_0 s w h0
  · exact gmS_n s w hz h0
end Go.Proofs.YtdaobioomoajfaaGreat
namespace Go.Proofs.YtdaobioomoajfaaGreat.Y
open Go.RowKit
theorem side {W W' : World} (h : G.Sides [] W W') {t : TypeId} {b : Nat} {cs : Array Value} (hb : Bk W t b cs) : Bk W' t b cs := (h.block b hb.lt (by simp)).trans hb
theorem setCells_all (b : Nat) (T : TypeId) : ∀ (vs : List Value) (o : Nat) (w : World) (cs : List Value), w.heap[b]? = some (.cells cs.toArray T) → o + vs.length ≤ cs.length → (w.setCells b o vs).heap[b]? = some (.cells (cs.take o ++ vs ++ cs.drop (o + vs.length)).toArray T)
  | [], o, w, cs, h, hl => by simpa [World.setCells] using h
  | v :: r, o, w, cs, h, hl => by
    rw [World.setCells]
    have h1 : (w.setCell ⟨b, o, none⟩ v).heap[b]? = some (.cells (cs.set o v).toArray T) := by simp [World.setCell, Array.getElem?_modify, h]
    simp only [List.length_cons] at hl
    rw [setCells_all b T r (o + 1) _ _ h1 (by simp; omega)]
    congr 3
    rw [List.take_set, List.drop_set_of_lt (by omega), List.take_add_one, List.getElem?_eq_getElem (by omega)]
    simp only [Option.toList_some, List.length_cons]
    rw [List.set_append_right _ _ (by simp; omega)]
    simp [show min o cs.length = o by omega, show o + 1 + r.length = o + (r.length + 1) by omega]
section
variable {A : Act} {w : World} {dst : Option Tmp} {ty : TypeId} {ps : String} {af : Array Edge} {gd : Option (Nat × Bool)} {x y z : Operand} {b i : Nat}
theorem move {u : Value} (hx : A.eval x = u) : Does Tryz.prog { dst := dst, op := .move x, type := ty, pos := ps, after := af, guard := gd } A w fun v' w' => v' = u ∧ Below w.heap.size w w' := by
  have h : (execOp A.eval { dst := dst, op := .move x, type := ty, pos := ps, after := af, guard := gd }).run Tryz.prog w = .ok (.value (u)) w := by generalize A.eval = ev at *; simp [execOp, hx, go_sem]
  exact does_value h ⟨rfl, Below.refl _ _⟩
theorem assign {u : Value} (hx : A.eval x = u) : Does Tryz.prog { dst := dst, op := .assign x, type := ty, pos := ps, after := af, guard := gd } A w fun v' w' => v' = u ∧ Below w.heap.size w w' := by
  have h : (execOp A.eval { dst := dst, op := .assign x, type := ty, pos := ps, after := af, guard := gd }).run Tryz.prog w = .ok (.value (u)) w := by generalize A.eval = ev at *; simp [execOp, hx, go_sem]
  exact does_value h ⟨rfl, Below.refl _ _⟩
theorem cat {a c : ByteArray} (hx : A.eval x = .string a) (hy : A.eval y = .string c) (hz : a.size + c.size ≤ 9223372036854775807) : Does Tryz.prog { dst := dst, op := .binOp .add 9 x y 9, type := ty, pos := ps, after := af, guard := gd } A w fun v' w' => v' = .string (a ++ c) ∧ Below w.heap.size w w' := by
  have hn : ¬ (9223372036854775807 < a.size + c.size) := by omega
  have h : (execOp A.eval { dst := dst, op := .binOp .add 9 x y 9, type := ty, pos := ps, after := af, guard := gd }).run Tryz.prog w = .ok (.value (.string (a ++ c))) w := by generalize A.eval = ev at *; simp [execOp, hx, hy, hn, go_sem]
  exact does_value h ⟨rfl, Below.refl _ _⟩
theorem cl1 {F : FuncId} {at_ : Array TypeId} {r : Value} {x0 : Operand} {u0 : Value} (hcf : ∀ (args : Array Value) (w : World), (callFunc F args).run Tryz.prog w = .ok (.enter F args) w) (h0 : A.eval x0 = u0)
    (hc : Calls Tryz.prog F #[u0] w fun e w' => e = .returned r ∧ Below w.heap.size w w') :
    Does Tryz.prog { dst := dst, op := .call { callee := .value (.func F), args := #[x0], argTypes := at_ }, type := ty, pos := ps, after := af, guard := gd } A w fun v' w' => v' = r ∧ Below w.heap.size w w' := by
  have hF : A.eval (.func F) = .func (.func F) #[] #[] := rfl
  have h : (execOp A.eval { dst := dst, op := .call { callee := .value (.func F), args := #[x0], argTypes := at_ }, type := ty, pos := ps, after := af, guard := gd }).run Tryz.prog w = .ok (.enter F #[u0]) w := by generalize A.eval = ev at *; simp [execOp, hF, hcf, h0, go_sem]
  exact does_call h (hc.mono fun _ _ ⟨h, h'⟩ => ⟨r, h, rfl, h'⟩)
theorem ldT {T : TypeId} {cs : Array Value} {d : TypeDesc} (hu : Tryz.prog.underlying T = some d) (hd : d.isRow = true) (hi : (Tryz.prog.info? T).map (·.size) = some cs.size) (hx : A.eval x = .pointer (some ⟨b, 0, none⟩)) (hr : Bk w T b cs) :
    Does Tryz.prog { dst := dst, op := .load T x, type := ty, pos := ps, after := af, guard := gd } A w fun v' w' => v' = .agg cs ∧ Below w.heap.size w w' := by
  have hl := run_loadVar_mid (P := Tryz.prog) w b 0 T cs.toList d hr.range hu hd (by rw [hi, Array.length_toList])
  have h : (execOp A.eval { dst := dst, op := .load T x, type := ty, pos := ps, after := af, guard := gd }).run Tryz.prog w = .ok (.value (.agg cs)) w := by
    generalize A.eval = ev at *
    simp [execOp, hx, Instr.loadAt, Instr.sureAddr, hl, Result.andThen]
  exact does_value h ⟨rfl, Below.refl _ _⟩
theorem puA {T T' : TypeId} {cs0 cs : Array Value} (hx : A.eval x = .pointer (some ⟨b, 0, none⟩)) (hy : A.eval y = .agg cs) (hr : w.heap[b]? = some (.cells cs0 T')) (hl : cs.size = cs0.size) (hi : (Tryz.prog.info? T).map (·.size) = some cs.size) (h1 : cs.all (·.oneCell') = true) :
    Does Tryz.prog { dst := dst, op := .store T x y, type := ty, pos := ps, after := af, guard := gd } A w fun _ w' => Turned b (.cells cs T') w w' := by
  have ht : w.there b 0 cs.size := fun j hj => by
    rw [Nat.zero_add]
    exact ⟨by rw [cell_of_row _ _ _ _ _ _ hr, Array.getElem?_eq_getElem (by omega)]; rfl, by simp [World.frozen?, hr]⟩
  have h : (execOp A.eval { dst := dst, op := .store T x y, type := ty, pos := ps, after := af, guard := gd }).run Tryz.prog w = .ok .skip (w.setCells b 0 cs.toList) := by
    unfold execOp
    simp only [hx, hy, Instr.storeAt, Instr.sureAddr, Sem.run_bind, Sem.run_pure, Result.andThen_ok, run_storeVar_mid w b 0 T cs ht hi h1]
  refine does_skip h ⟨World.os_setCells w b 0 _, setCells_tape b _ 0 w, World.output_setCells w b 0 _, setCells_size b _ 0 w, ?_, fun k hk => ?_⟩
  · have := setCells_all b T' cs.toList 0 w cs0.toList (by simpa using hr) (by simp; omega)
    rw [this]
    simp [hl, List.drop_eq_nil_of_le]
  · by_cases hlt : k < w.heap.size
    · exact World.heap_setCells_other w b 0 _ hlt hk
    · rw [Array.getElem?_eq_none (by rw [setCells_size]; omega), Array.getElem?_eq_none (by omega)]
end
end Go.Proofs.YtdaobioomoajfaaGreat.Y
