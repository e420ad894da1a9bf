import Derived.Test.YtjmhmajfkdglnaaDoorMrg8
import Derived.Test.YtjmhmajfkdglnaaDoorMrg22
import Derived.Test.YtjmhmajfkdglnaaDoorMrg2
import Derived.Test.YtjmhmajfkdglnaaDoorMrg3
import Derived.Shelf.Strings.Builder1
import Derived.Test.YtjmhmajfkdglnaaDoorMrg1
import Derived.Test.YtjmhmajfkdglnaaDoorMrg12
import Derived.Test.YtjmhmajfkdglnaaDoorChecked
import Derived.WalkKit
import Derived.ProofKit
import Derived.Laws.BytesArg
import Derived.Lib.ConvBytes
import Derived.Deep.RegionHeld3
namespace Go.Proofs.YtjmhmajfkdglnaaDoor
open Go.RowKit
set_option linter.unusedVariables false

theorem beTo2 (n : Nat) (h : n ≤ 65535) : strOfNums (beTo (n : Int) 2) = numB n := by
  unfold numB
  have e : beTo (n : Int) 2 = [((n / 256 % 256 : Nat) : Int), ((n % 256 : Nat) : Int)] := by
    simp only [beTo]
    simp
  rw [e]
set_option maxRecDepth 100000 in
theorem wrtZ (s : ByteArray) (w : World) (h : s.size ≤ 65535) :
    Calls Tryd.prog 95 #[.string s] w fun e w' => e = .returned (.string (sizB s)) ∧ Below w.heap.size w w' := by
  have L := fun w => beI_any (s.size : Int) 2 w (by omega) (by omega) (by omega) (by omega)
  rw [beTo2 _ h] at L
  have e1 : IntKind.u64.wrap (s.size : Int) = (s.size : Int) := by rw [IntKind.wrap_u64]; omega
  have hs : sizB s = numB s.size ++ s := rfl
  have hz := numB_size s.size
  rw [hs]
  generalize numB s.size = T at *
  clear hs
  go_enter Tryd.func95, Tryd.ntmps95
  go_wp2_with fail
  refine (L _).mono ?_
  rintro e w1 ⟨rfl, b1⟩
  go_wp2
  go_ret
  exact ⟨rfl, b1⟩
set_option maxRecDepth 100000 in
theorem wrtP (s : ByteArray) (w : World) :
    Calls Tryd.prog 98 #[.string s] w fun e w' => e = .returned (.string s) ∧ Below w.heap.size w w' := by
  go_enter Tryd.func98, Tryd.ntmps98
  go_wp2
  go_ret
  exact ⟨rfl, Below.refl _ _⟩
/-- an interface value that writes itself as s -/
def Writ (v : Value) (s : ByteArray) : Prop := ∃ (T : TypeId) (x : Value) (F : FuncId), v = .iface T x ∧ (∀ w, (method 279 T x "loop.example/s02095/impl.written").run Tryd.prog w = .ok (F, x) w) ∧
  (∀ (args : Array Value) (w : World), (callFunc F args).run Tryd.prog w = .ok (.enter F args) w) ∧ ∀ w, Calls Tryd.prog F #[x] w fun e w' => e = .returned (.string s) ∧ Below w.heap.size w w'
theorem mthZ (s : ByteArray) (w : World) : (method 279 48 (.string s) "loop.example/s02095/impl.written").run Tryd.prog w = .ok (95, .string s) w := by kernel_rfl
theorem mthP (s : ByteArray) (w : World) : (method 279 55 (.string s) "loop.example/s02095/impl.written").run Tryd.prog w = .ok (98, .string s) w := by kernel_rfl
theorem ceZ (args : Array Value) (w : World) : (callFunc 95 args).run Tryd.prog w = .ok (.enter 95 args) w := by kernel_rfl
theorem ceP (args : Array Value) (w : World) : (callFunc 98 args).run Tryd.prog w = .ok (.enter 98 args) w := by kernel_rfl
theorem writZ (s : ByteArray) (h : s.size ≤ 65535) : Writ (.iface 48 (.string s)) (sizB s) := ⟨_, _, _, rfl, mthZ s, ceZ, fun w => wrtZ s w h⟩
theorem writP (s : ByteArray) : Writ (.iface 55 (.string s)) s := ⟨_, _, _, rfl, mthP s, ceP, fun w => wrtP s w⟩
end Go.Proofs.YtjmhmajfkdglnaaDoor

namespace Go.Proofs.YtjmhmajfkdglnaaDoor
open Go.RowKit
set_option linter.unusedVariables false

theorem lkb (a : ByteArray) (k : Nat) (h : k < a.size) : lk (byt a) k = (a[k].toNat : Int) := by
  unfold lk byt
  rw [List.getD_eq_getElem?_getD, List.getElem?_map, List.getElem?_eq_getElem (by simpa using h)]
  rfl
theorem xorB_set (a b : ByteArray) (k : Nat) (ha : k < a.size) (hb : k < b.size) :
    ((xorB (byt a) (byt b)).take k ++ (byt a).drop k).set k ((a[k].toNat ^^^ b[k].toNat : Nat) : Int) = (xorB (byt a) (byt b)).take (k + 1) ++ (byt a).drop (k + 1) := by
  have hl : ((xorB (byt a) (byt b)).take k).length = k := by rw [List.length_take, xorB_length, byt_length, byt_length]; omega
  rw [List.drop_eq_getElem_cons (by rw [byt_length]; exact ha), set_at _ _ _ _ _ hl, xorB_take a b k ha hb, ← cons_snoc]

set_option maxRecDepth 100000 in
set_option maxHeartbeats 2000000 in
theorem xorT_any (a b : ByteArray) (w : World) (ha : a.size ≤ 1000) (hab : a.size ≤ b.size) :
    Calls Tryd.prog 53 #[.string a, .string b] w fun e w' => e = .returned (.string (strOfNums (xorB (byt a) (byt b)))) ∧ Below w.heap.size w w' := by
  obtain ⟨cap0, w1, hcv, hrow0, hbl0⟩ : ∃ cap0 w1, (convert 9 30 (.string a)).run Tryd.prog w = .ok (.slice (some ⟨w.heap.size, 0, none⟩) a.size cap0) w1 ∧
      Row w1 w.heap.size w.heap.size a.size cap0 ((byt a).map (Value.int .u8)) ∧ Below w.heap.size w w1 :=
    ⟨_, _, Lib.run_convert_string_bytes w 9 30 5 a Tryd.underlying9 Tryd.underlying30 Tryd.underlying5, row_bytes w _ a w.heap.size (Nat.le_refl _) (by unfold maxLen; omega)⟩
  have hxl : (xorB (byt a) (byt b)).length = a.size := by rw [xorB_length, byt_length, byt_length]; omega
  have hset := xorB_set a b
  obtain ⟨X, hX⟩ : ∃ X, X = xorB (byt a) (byt b) := ⟨_, rfl⟩
  rw [← hX] at hxl hset ⊢
  go_enter Tryd.func53, Tryd.ntmps53
  go_wp2
  go_loopw [6, 11] (fun _ i wr => ∃ k : Nat, k ≤ a.size ∧ i = .int .i64 (k : Int) ∧ Row wr w.heap.size w.heap.size a.size cap0 ((X.take k ++ (byt a).drop k).map (Value.int .u8)) ∧ Below w.heap.size w wr) (fun _ i _ => a.size - (intOf i).toNat)
  case atStart => exact ⟨0, by omega, rfl, by simpa using hrow0, hbl0⟩
  case round =>
    clear hrow0 hbl0 hcv hX
    obtain ⟨k, hk, rfl, hrow, hbl⟩ := hrel
    have hbk := hrow.le
    by_cases hlt : k < a.size
    · have hlt2 : k < b.size := by omega
      have hc := hrow.cell k hlt
      have hlk : lk (X.take k ++ (byt a).drop k) k = (a[k].toNat : Int) := by
        rw [List.drop_eq_getElem_cons (by rw [byt_length]; exact hlt), lk_mid _ _ _ _ (by rw [List.length_take]; omega)]
        have := lkb a k hlt
        unfold lk at this
        rw [List.getD_eq_getElem?_getD, List.getElem?_eq_getElem (by rw [byt_length]; exact hlt)] at this
        exact this
      rw [hlk] at hc
      have hfz := (hrow.room k (by omega)).2
      have hst := hset k hlt hlt2
      have ex := u8_xor_nat a[k].toNat b[k].toNat a[k].toNat_lt b[k].toNat_lt
      have q0 : (0 : Int) ≤ (k : Int) := by omega
      have q1 : (k : Int) < (a.size : Int) := by omega
      have q2 : (k : Int) < (b.size : Int) := by omega
      generalize a[k].toNat = za at *
      generalize hzz : za ^^^ b[k].toNat = z at *
      clear hlk hset hzz
      go_wp2
      go_region
      have R1 := (hrow.set k hlt (.int .u8 (z : Int))).drew
      rw [← List.map_set, hst] at R1
      have R2 := (hbl.setCell (p := ⟨w.heap.size, k, none⟩) (Nat.le_refl _) (.int .u8 (z : Int))).drew
      clear hst ex hc hrow hbl
      go_wp2
      go_roundw
      case rel =>
        first
          | exact ⟨k + 1, by omega, by go_num, R1, R2⟩
          | ((repeat apply Exists.intro); exact ⟨⟨k + 1, by omega, by go_num, R1, R2⟩, rfl⟩)
      case measure => simp [intOf]; omega
    · obtain rfl : k = a.size := by omega
      rw [List.take_of_length_le (by omega), List.drop_of_length_le (by rw [byt_length]; omega), List.append_nil] at hrow
      have hcv := run_convert_bytes_arg (P := Tryd.prog) wr 30 5 Tryd.underlying30 Tryd.underlying5 w.heap.size 0 a.size cap0 X hxl (fun i h => by rw [Nat.zero_add]; exact hrow.cell i h) 9 Tryd.underlying9
      go_wp2
      go_ret
      exact ⟨rfl, hbl⟩
end Go.Proofs.YtjmhmajfkdglnaaDoor
