import Derived.Test.YtenggagjgmonoaaGreatDoorMrg1
import Derived.Test.YtenggagjgmonoaaGreatDoorMrg10
import Derived.Test.YtenggagjgmonoaaGreatDoorMrg13
import Derived.Test.YtenggagjgmonoaaGreatDoorChecked
import Derived.WalkKit
import Derived.ProofKit
import Derived.Laws.BytesArg
import Derived.Lib.ConvBytes
import Derived.Deep.RegionHeld3
import Derived.Shelf.Strings.Repeat
import Derived.KernelRfl
import Derived.Below
namespace Go.Proofs.YtenggagjgmonoaaGreatDoor
open Go.RowKit
set_option linter.unusedVariables false

theorem lkb (a : ByteArray) (k : Nat) (h : k < a.size) : lk (byt a) k = (a[k].toNat : Int) := by
  unfold lk byt
  rw [List.getD_eq_getElem?_getD, List.getElem?_map, List.getElem?_eq_getElem (by simpa using h)]
  rfl
theorem xorB_set (a b : ByteArray) (k : Nat) (ha : k < a.size) (hb : k < b.size) :
    ((xorB (byt a) (byt b)).take k ++ (byt a).drop k).set k ((a[k].toNat ^^^ b[k].toNat : Nat) : Int) = (xorB (byt a) (byt b)).take (k + 1) ++ (byt a).drop (k + 1) := by
  have hl : ((xorB (byt a) (byt b)).take k).length = k := by rw [List.length_take, xorB_length, byt_length, byt_length]; omega
  rw [List.drop_eq_getElem_cons (by rw [byt_length]; exact ha), set_at _ _ _ _ _ hl, xorB_take a b k ha hb, ← cons_snoc]

set_option maxRecDepth 100000 in
set_option maxHeartbeats 2000000 in
theorem xorT_any (a b : ByteArray) (w : World) (ha : a.size ≤ 1000) (hab : a.size ≤ b.size) :
    Calls Tryz.prog 70 #[.string a, .string b] w fun e w' => e = .returned (.string (strOfNums (xorB (byt a) (byt b)))) ∧ Below w.heap.size w w' := by
  obtain ⟨cap0, w1, hcv, hrow0, hbl0⟩ : ∃ cap0 w1, (convert 9 22 (.string a)).run Tryz.prog w = .ok (.slice (some ⟨w.heap.size, 0, none⟩) a.size cap0) w1 ∧
      Row w1 w.heap.size w.heap.size a.size cap0 ((byt a).map (Value.int .u8)) ∧ Below w.heap.size w w1 :=
    ⟨_, _, Lib.run_convert_string_bytes w 9 22 5 a Tryz.underlying9 Tryz.underlying22 Tryz.underlying5, row_bytes w _ a w.heap.size (Nat.le_refl _) (by unfold maxLen; omega)⟩
  have hxl : (xorB (byt a) (byt b)).length = a.size := by rw [xorB_length, byt_length, byt_length]; omega
  have hset := xorB_set a b
  obtain ⟨X, hX⟩ : ∃ X, X = xorB (byt a) (byt b) := ⟨_, rfl⟩
  rw [← hX] at hxl hset ⊢
  go_enter Tryz.func70, Tryz.ntmps70
  go_wp2
  go_loopw [6, 11] (fun _ i wr => ∃ k : Nat, k ≤ a.size ∧ i = .int .i64 (k : Int) ∧ Row wr w.heap.size w.heap.size a.size cap0 ((X.take k ++ (byt a).drop k).map (Value.int .u8)) ∧ Below w.heap.size w wr) (fun _ i _ => a.size - (intOf i).toNat)
  case atStart => exact ⟨0, by omega, rfl, by simpa using hrow0, hbl0⟩
  case round =>
    clear hrow0 hbl0 hcv hX
    obtain ⟨k, hk, rfl, hrow, hbl⟩ := hrel
    have hbk := hrow.le
    by_cases hlt : k < a.size
    · have hlt2 : k < b.size := by omega
      have hc := hrow.cell k hlt
      have hlk : lk (X.take k ++ (byt a).drop k) k = (a[k].toNat : Int) := by
        rw [List.drop_eq_getElem_cons (by rw [byt_length]; exact hlt), lk_mid _ _ _ _ (by rw [List.length_take]; omega)]
        have := lkb a k hlt
        unfold lk at this
        rw [List.getD_eq_getElem?_getD, List.getElem?_eq_getElem (by rw [byt_length]; exact hlt)] at this
        exact this
      rw [hlk] at hc
      have hfz := (hrow.room k (by omega)).2
      have hst := hset k hlt hlt2
      have ex := u8_xor_nat a[k].toNat b[k].toNat a[k].toNat_lt b[k].toNat_lt
      have q0 : (0 : Int) ≤ (k : Int) := by omega
      have q1 : (k : Int) < (a.size : Int) := by omega
      have q2 : (k : Int) < (b.size : Int) := by omega
      generalize a[k].toNat = za at *
      generalize hzz : za ^^^ b[k].toNat = z at *
      clear hlk hset hzz
      go_wp2
      go_region
      have R1 := (hrow.set k hlt (.int .u8 (z : Int))).drew
      rw [← List.map_set, hst] at R1
      have R2 := (hbl.setCell (p := ⟨w.heap.size, k, none⟩) (Nat.le_refl _) (.int .u8 (z : Int))).drew
      clear hst ex hc hrow hbl
      go_wp2
      go_roundw
      case rel =>
        first
          | exact ⟨k + 1, by omega, by go_num, R1, R2⟩
          | ((repeat apply Exists.intro); exact ⟨⟨k + 1, by omega, by go_num, R1, R2⟩, rfl⟩)
      case measure => simp [intOf]; omega
    · obtain rfl : k = a.size := by omega
      rw [List.take_of_length_le (by omega), List.drop_of_length_le (by rw [byt_length]; omega), List.append_nil] at hrow
      have hcv := run_convert_bytes_arg (P := Tryz.prog) wr 22 5 Tryz.underlying22 Tryz.underlying5 w.heap.size 0 a.size cap0 X hxl (fun i h => by rw [Nat.zero_add]; exact hrow.cell i h) 9 Tryz.underlying9
      go_wp2
      go_ret
      exact ⟨rfl, hbl⟩
end Go.Proofs.YtenggagjgmonoaaGreatDoor

/-
  strings.Repeat, by the shelf's contract, laid at this program.
-/
namespace Go.Proofs.YtenggagjgmonoaaGreatDoor
open Go.RowKit Go.Shelf
set_option linter.unusedVariables false

def renRepeat : Go.Shelf.Ren := ⟨fun | 105 => 68 | 212 => 79 | 99 => 80 | 165 => 81 | 166 => 82 | 170 => 83 | 169 => 84 | 263 => 88 | 264 => 56 | 206 => 89 | 240 => 90 | 241 => 91 | 276 => 93 | 277 => 94 | n => n, fun | 9 => 9 | 3 => 3 | 4 => 4 | 20 => 20 | 0 => 0 | 46 => 94 | 109 => 123 | 5 => 5 | 72 => 128 | 76 => 130 | 51 => 109 | 146 => 138 | 53 => 23 | 148 => 90 | 70 => 126 | 37 => 22 | 75 => 101 | 127 => 140 | 164 => 141 | 80 => 95 | n => n, fun | n => n⟩
theorem laysRepeat : Go.Proofs.Lays.n105 Tryz.prog renRepeat := {
  mixed := by kernel_rfl
  f99 := Tryz.func80.trans (congrArg some (by kernel_rfl))
  f105 := Tryz.func68.trans (congrArg some (by kernel_rfl))
  f165 := Tryz.func81.trans (congrArg some (by kernel_rfl))
  f166 := Tryz.func82.trans (congrArg some (by kernel_rfl))
  f169 := Tryz.func84.trans (congrArg some (by kernel_rfl))
  f170 := Tryz.func83.trans (congrArg some (by kernel_rfl))
  f206 := Tryz.func89.trans (congrArg some (by kernel_rfl))
  f212 := Tryz.func79.trans (congrArg some (by kernel_rfl))
  f240 := Tryz.func90.trans (congrArg some (by kernel_rfl))
  f241 := Tryz.func91.trans (congrArg some (by kernel_rfl))
  f263 := Tryz.func88.trans (congrArg some (by kernel_rfl))
  f264 := Tryz.func56.trans (congrArg some (by kernel_rfl))
  f276 := Tryz.func93.trans (congrArg some (by kernel_rfl))
  f277 := Tryz.func94.trans (congrArg some (by kernel_rfl))
  t0 := Tryz.underlying0
  a0 := Tryz.isAgg0
  z0 := Tryz.sizeOf0
  v0 := Tryz.zeroValue0
  t3 := Tryz.underlying3
  a3 := Tryz.isAgg3
  z3 := Tryz.sizeOf3
  v3 := Tryz.zeroValue3
  t4 := Tryz.underlying4
  a4 := Tryz.isAgg4
  z4 := Tryz.sizeOf4
  v4 := Tryz.zeroValue4
  t5 := Tryz.underlying5
  a5 := Tryz.isAgg5
  z5 := Tryz.sizeOf5
  v5 := Tryz.zeroValue5
  t9 := Tryz.underlying9
  a9 := Tryz.isAgg9
  z9 := Tryz.sizeOf9
  v9 := Tryz.zeroValue9
  t20 := Tryz.underlying20
  a20 := Tryz.isAgg20
  z20 := Tryz.sizeOf20
  v20 := Tryz.zeroValue20
  t37 := Tryz.underlying22
  a37 := Tryz.isAgg22
  z37 := Tryz.sizeOf22
  v37 := Tryz.zeroValue22
  t46 := Tryz.underlying94
  a46 := Tryz.isAgg94
  z46 := Tryz.sizeOf94
  v46 := Tryz.zeroValue94
  t51 := Tryz.underlying109
  a51 := Tryz.isAgg109
  z51 := Tryz.sizeOf109
  v51 := Tryz.zeroValue109
  t53 := Tryz.underlying23
  a53 := Tryz.isAgg23
  z53 := Tryz.sizeOf23
  v53 := Tryz.zeroValue23
  t70 := Tryz.underlying126
  a70 := Tryz.isAgg126
  z70 := Tryz.sizeOf126
  v70 := Tryz.zeroValue126
  t72 := Tryz.underlying128
  a72 := Tryz.isAgg128
  z72 := Tryz.sizeOf128
  v72 := Tryz.zeroValue128
  t75 := Tryz.underlying101
  a75 := Tryz.isAgg101
  z75 := Tryz.sizeOf101
  v75 := Tryz.zeroValue101
  t76 := Tryz.underlying130
  a76 := Tryz.isAgg130
  z76 := Tryz.sizeOf130
  v76 := Tryz.zeroValue130
  t109 := Tryz.underlying123
  a109 := Tryz.isAgg123
  z109 := Tryz.sizeOf123
  v109 := Tryz.zeroValue123
  t127 := Tryz.underlying140
  a127 := Tryz.isAgg140
  z127 := Tryz.sizeOf140
  v127 := Tryz.zeroValue140
  t146 := Tryz.underlying138
  a146 := Tryz.isAgg138
  z146 := Tryz.sizeOf138
  v146 := Tryz.zeroValue138
  t148 := Tryz.underlying90
  a148 := Tryz.isAgg90
  z148 := Tryz.sizeOf90
  v148 := Tryz.zeroValue90
  t164 := Tryz.underlying141
  a164 := Tryz.isAgg141
  z164 := Tryz.sizeOf141
  v164 := Tryz.zeroValue141 }
theorem extraRepeat : Builder.Extra Tryz.prog renRepeat := {
  sizeBuilder := by kernel_rfl
  liesBuilder := by kernel_rfl
  t5 := laysRepeat.t5
  a5 := laysRepeat.a5
  z5 := laysRepeat.z5
  v5 := laysRepeat.v5
  infoByte := by kernel_rfl
  cellsByte := by kernel_rfl
  sizeByte := by kernel_rfl
  neB5 := by decide }
theorem eq64 : (⟨(Lib.repeatL (⟨#[0]⟩ : ByteArray).data.toList 64).toArray⟩ : ByteArray) = strOfNums (List.replicate 64 0) := by kernel_rfl
theorem rep64 (w : World) : Calls Tryz.prog 68 #[.string ⟨#[0]⟩, .int .i64 64] w fun e w' => e = .returned (.string (strOfNums (List.replicate 64 0))) ∧ Below w.heap.size w w' :=
  (Any.strings_Repeat laysRepeat extraRepeat ⟨#[0]⟩ 64 w (by decide) (by decide)).mono fun e w' ⟨h, h'⟩ => ⟨h.trans (by rw [eq64]), h'⟩
theorem eq32 : (⟨(Lib.repeatL (⟨#[0]⟩ : ByteArray).data.toList 32).toArray⟩ : ByteArray) = strOfNums (List.replicate 32 0) := by kernel_rfl
theorem rep32 (w : World) : Calls Tryz.prog 68 #[.string ⟨#[0]⟩, .int .i64 32] w fun e w' => e = .returned (.string (strOfNums (List.replicate 32 0))) ∧ Below w.heap.size w w' :=
  (Any.strings_Repeat laysRepeat extraRepeat ⟨#[0]⟩ 32 w (by decide) (by decide)).mono fun e w' ⟨h, h'⟩ => ⟨h.trans (by rw [eq32]), h'⟩
end Go.Proofs.YtenggagjgmonoaaGreatDoor
