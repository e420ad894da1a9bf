import Derived.Test.YtjmhmajfkdglnaaDoorMrg19
import Derived.Test.YtjmhmajfkdglnaaDoorMrg14
import Derived.Test.YtjmhmajfkdglnaaDoorMrg20
import Derived.Test.YtjmhmajfkdglnaaDoorMrg21
import Derived.Test.YtjmhmajfkdglnaaDoorMrg1
import Derived.Test.YtjmhmajfkdglnaaDoorChecked
import Derived.Shelf.Strings.Repeat
import Derived.KernelRfl
import Derived.Below
/-
  The model's DeriveKey.
-/
namespace Go.Proofs.YtjmhmajfkdglnaaDoor
open Go.RowKit
set_option linter.unusedVariables false

theorem cf_spec_l5Sized (args : Array Value) (w : World) : (callFunc 8 args).run Tryd.prog w = .ok (.enter 8 args) w := by kernel_rfl
theorem cf_spec_l5Tag (args : Array Value) (w : World) : (callFunc 9 args).run Tryd.prog w = .ok (.enter 9 args) w := by kernel_rfl
theorem cf_spec_HashToScalar (args : Array Value) (w : World) : (callFunc 7 args).run Tryd.prog w = .ok (.enter 7 args) w := by kernel_rfl
section
set_option maxRecDepth 100000
variable {A : Act} {w : World} {dst : Option Tmp} {ty : TypeId} {ps : String} {af : Array Edge} {gd : Option (Nat × Bool)} {x y : Operand} {b i : Nat}
theorem dkx0 {u v : Value} (hx : A.eval x = .tuple #[u, v]) : Does Tryd.prog { dst := dst, op := .extract x 0, type := ty, pos := ps, after := af, guard := gd } A w fun v' w' => v' = u ∧ Below w.heap.size w w' := by
  have h : (execOp A.eval { dst := dst, op := .extract x 0, type := ty, pos := ps, after := af, guard := gd }).run Tryd.prog w = .ok (.value u) w := by generalize A.eval = ev at *; simp [execOp, hx, go_sem]
  exact does_value h ⟨rfl, Below.refl _ _⟩
theorem dkx1 {u v : Value} (hx : A.eval x = .tuple #[u, v]) : Does Tryd.prog { dst := dst, op := .extract x 1, type := ty, pos := ps, after := af, guard := gd } A w fun v' w' => v' = v ∧ Below w.heap.size w w' := by
  have h : (execOp A.eval { dst := dst, op := .extract x 1, type := ty, pos := ps, after := af, guard := gd }).run Tryd.prog w = .ok (.value v) w := by generalize A.eval = ev at *; simp [execOp, hx, go_sem]
  exact does_value h ⟨rfl, Below.refl _ _⟩
theorem dkc8 {n m : Int} (hx : A.eval x = .int .i64 n) (hm : IntKind.u8.wrap n = m) : Does Tryd.prog { dst := dst, op := .convert 3 5 x, type := ty, pos := ps, after := af, guard := gd } A w fun v' w' => v' = .int .u8 m ∧ Below w.heap.size w w' :=
  does_value (execS_c8 hx hm) ⟨rfl, Below.refl _ _⟩
theorem dksl {a : Int} (hx : A.eval x = .int .u8 a) : Does Tryd.prog { dst := dst, op := .buildSlice 30 1 #[(0, x)], type := ty, pos := ps, after := af, guard := gd } A w fun v w' => v = .slice (some ⟨w.heap.size, 0, none⟩) 1 1 ∧ w' = w.alloc (.cells #[.int .u8 a] 5) :=
  does_value (execS_slc1 hx) ⟨rfl, rfl⟩
theorem dkcv {a : Int} (hx : A.eval x = .slice (some ⟨b, 0, none⟩) 1 1) (hr : w.heap[b]? = some (.cells #[.int .u8 a] 5)) : Does Tryd.prog { dst := dst, op := .convert 30 9 x, type := ty, pos := ps, after := af, guard := gd } A w fun v' w' => v' = .string (strOfNums [a]) ∧ Below w.heap.size w w' :=
  does_value (execS_conv (n := 1) (xs := [a]) hx rfl (fun i hi => by obtain rfl : i = 0 := by omega
                                                                     simp [World.cell?, hr, lk])) ⟨rfl, Below.refl _ _⟩
end
set_option maxRecDepth 100000 in
theorem dkS_bad (mode : Int) (seed info : ByteArray) (w : World) (h : dkB mode seed info = false) :
    Calls Tryd.prog 4 #[.int .i64 mode, .string seed, .string info] w fun e w' => e = .returned (.tuple #[.int .u64 0, .int .i64 1]) ∧ Below w.heap.size w w' := by
  unfold dkB at h
  rw [decide_eq_false_iff_not] at h
  by_cases hm : 0 ≤ mode ∧ mode ≤ 2
  · have M := fun w => modS_yes mode w hm.1 hm.2
    by_cases hs : (seed.size : Int) = 32
    · have hi : (60000 : Int) < (info.size : Int) := by omega
      have hs' : ((seed.size : Int) != 32) = false := by simpa using hs
      clear h hm hs
      go_enter Tryd.func4, Tryd.ntmps4
      go_wp2_with fail
      refine (M _).mono ?_
      rintro e w1 ⟨rfl, rfl⟩
      go_wp2
      go_ret2
      exact ⟨rfl, Below.refl _ _⟩
    · have hs' : ((seed.size : Int) != 32) = true := by simpa using hs
      clear h hm hs
      go_enter Tryd.func4, Tryd.ntmps4
      go_wp2_with fail
      refine (M _).mono ?_
      rintro e w1 ⟨rfl, rfl⟩
      go_wp2
      go_ret2
      exact ⟨rfl, Below.refl _ _⟩
  · have M := fun w => modS_no mode w hm
    clear h hm
    go_enter Tryd.func4, Tryd.ntmps4
    go_wp2_with fail
    refine (M _).mono ?_
    rintro e w1 ⟨rfl, rfl⟩
    go_wp2
    go_ret2
    exact ⟨rfl, Below.refl _ _⟩
set_option maxRecDepth 100000 in
set_option maxHeartbeats 4000000 in
theorem dkS_yes (mode : Int) (seed info : ByteArray) (w : World) (m1 : 0 ≤ mode) (m2 : mode ≤ 2) (hs : seed.size = 32) (hi : info.size ≤ 60000) :
    Calls Tryd.prog 4 #[.int .i64 mode, .string seed, .string info] w fun e w' => e = .returned (.tuple #[.int .u64 ((dkR (dkN mode.toNat seed info) 0 256).1 : Nat), .int .i64 (dkR (dkN mode.toNat seed info) 0 256).2]) ∧ Below w.heap.size w w' := by
  obtain ⟨hm, hm'⟩ := dk_mod m1 m2
  have M := fun w => modS_yes mode w m1 m2
  have S := fun w => sizS_any info w (by omega)
  have TG := fun w => tagS_any dkW mode.toNat w hm (by decide)
  rw [hm'] at TG
  have hzt := dkT_size _ hm
  have H : ∀ (j : Nat) (w : World), Calls Tryd.prog 7 #[.string (dkM seed info j), .string (tagB dkW mode.toNat)] w fun e w' => e = .returned (.tuple #[.int .u64 (dkN mode.toNat seed info j : Nat), .bool true]) ∧ Below w.heap.size w w' := fun j w => h2sS_yes (dkM seed info j) (tagB dkW mode.toNat) w ⟨by omega, by omega, by rw [dkM_size]; omega⟩
  have hzs := sizB_sz info
  obtain ⟨f, hf⟩ : ∃ f, f = dkN mode.toNat seed info := ⟨_, rfl⟩
  obtain ⟨R, hR⟩ : ∃ R, Hid (R = dkR f 0 256) := ⟨_, rfl⟩
  rw [← hf] at H ⊢
  rw [← hR.out]
  unfold dkM dkW at *
  generalize tagB _ mode.toNat = tg at *
  generalize sizB info = Z at *
  have q1 : seed.size + Z.size ≤ 9223372036854775807 := by omega
  have q2 : ∀ j : Nat, (seed ++ Z).size + (strOfNums [(j : Int)]).size ≤ 9223372036854775807 := fun j => by
    rw [ByteArray.size_append, strOfNums_size]; simp only [List.length_cons, List.length_nil]; omega
  have hs' : ((seed.size : Int) != 32) = false := by simp [hs]
  have hi' : ¬ (60000 : Int) < (info.size : Int) := by omega
  have q2' : Hid (∀ j : Nat, (seed ++ Z).size + (strOfNums [(j : Int)]).size ≤ 9223372036854775807) := q2
  have H' : Hid (∀ (j : Nat) (w : World), Calls Tryd.prog 7 #[.string (seed ++ Z ++ strOfNums [(j : Int)]), .string tg] w fun e w' => e = .returned (.tuple #[.int .u64 (f j : Nat), .bool true]) ∧ Below w.heap.size w w') := H
  clear hf hzt hzs hm hm' m1 m2 hs hi q2 H
  go_enter Tryd.func4, Tryd.ntmps4
  go_wp2_with fail
  refine (M _).mono ?_
  rintro e w1 ⟨rfl, rfl⟩
  clear M
  go_wp2
  go_loopw [8] (fun iv wr => ∃ j : Nat, j ≤ 256 ∧ iv = .int .i64 (j : Int) ∧ Hid (R = dkR f j (256 - j)) ∧ Below w.heap.size w wr) (fun i _ => 256 - (intOf i).toNat)
  case atStart => exact ⟨0, by omega, rfl, hR, Below.refl _ _⟩
  case round =>
    obtain ⟨j, hj, rfl, hRj, hbl⟩ := hrel
    clear hR
    by_cases hlt : j < 256
    · have hli : (j : Int) < 256 := by omega
      have e8 : IntKind.u8.wrap (j : Int) = (j : Int) := u8_in _ (by omega) (by omega)
      have HJ := H'.out j
      have qj := q2'.out j
      go_wp2
      refine G.pool_list (W := wr) [] [.val (.string seed),
          .val (.string info),
          .val (.string Z),
          .val (.string (seed ++ Z)),
          .val (.int .i64 (j : Int)),
          .val (.int .u8 (j : Int)),
          .new (.cells #[.int .u8 (j : Int)] 5) (.cells #[.int .u8 (j : Int)] 5) 1001,
          .val (.string (strOfNums [(j : Int)])),
          .val (.string (seed ++ Z ++ strOfNums [(j : Int)])),
          .val (.int .i64 mode),
          .val (.string tg),
          .val (.tuple #[.int .u64 ((f j : Nat) : Int), .bool true]),
          .val (.tuple #[.int .u64 ((f j : Nat) : Int), .bool true]),
          .val (.int .u64 ((f j : Nat) : Int)),
          .val (.bool true),
          .val (.int .u64 ((f j : Nat) : Int)),
          .val (.bool true)] [[1], [2], [30], [29, 31], [8], [33], [34], [35], [32, 36], [0], [38], [37, 39], [40], [28], [28], [41], [42]] (fun fr => [(some 29, .string seed), (some 30, .string info), (some 31, .string Z), (some 32, .string (seed ++ Z)), (some 33, .int .i64 (j : Int)), (some 34, .int .u8 (j : Int)), (some 35, .slice (some ⟨fr 6, 0, none⟩) 1 1), (some 36, .string (strOfNums [(j : Int)])), (some 37, .string (seed ++ Z ++ strOfNums [(j : Int)])), (some 38, .int .i64 mode), (some 39, .string tg), (some 40, .tuple #[.int .u64 ((f j : Nat) : Int), .bool true]), (some 28, .tuple #[.int .u64 ((f j : Nat) : Int), .bool true]), (some 41, .int .u64 ((f j : Nat) : Int)), (some 42, .bool true), (some 9, .int .u64 ((f j : Nat) : Int)), (some 10, .bool true)]) (by kernel_rfl) (by kernel_rfl) (by kernel_rfl) (by kernel_rfl) (fun _ => by kernel_rfl) (G.last_of [.cells #[.int .u8 (j : Int)] 5] (fun F R hm => by simp at hm) (fun ob ob' k hm => by simp at hm; simp [hm]) (fun b ob ob' hm => by simp at hm)) (fun b ob ob' hm => by simp at hm) ?_ ?_
      · intro ix hix
        match ix, hix with
        | 0, _ => exact G.ob_val [(1, .string seed)] rfl rfl (fun _ => by kernel_rfl) (fun A w ⟨e0, _⟩ hB => doS_move e0)
        | 1, _ => exact G.ob_val [(2, .string info)] rfl rfl (fun _ => by kernel_rfl) (fun A w ⟨e0, _⟩ hB => doS_move e0)
        | 2, _ => exact G.ob_val [(30, .string info)] rfl rfl (fun _ => by kernel_rfl) (fun A w ⟨e0, _⟩ hB => doS_call1 cf_spec_l5Sized e0 (S w))
        | 3, _ => exact G.ob_val [(29, .string seed), (31, .string Z)] rfl rfl (fun _ => by kernel_rfl) (fun A w ⟨e0, e1, _⟩ hB => doS_cat e0 e1 q1)
        | 4, _ => exact G.ob_val [(8, .int .i64 (j : Int))] rfl rfl (fun _ => by kernel_rfl) (fun A w ⟨e0, _⟩ hB => doS_move e0)
        | 5, _ => exact G.ob_val [(33, .int .i64 (j : Int))] rfl rfl (fun _ => by kernel_rfl) (fun A w ⟨e0, _⟩ hB => dkc8 e0 e8)
        | 6, _ => exact G.ob_slc 1 [(34, .int .u8 (j : Int))] rfl rfl (fun _ => by kernel_rfl) (fun A w ⟨e0, _⟩ => dksl e0)
        | 7, _ => exact G.ob_use 35 6 1001 (.cells #[.int .u8 (j : Int)] 5) (fun fr => [(35, .slice (some ⟨fr 6, 0, none⟩) 1 1)]) rfl rfl (by decide) (by kernel_rfl) rfl (fun _ => by kernel_rfl) (fun fr A w ⟨e0, _⟩ hB hr => dkcv e0 hr)
        | 8, _ => exact G.ob_val [(32, .string (seed ++ Z)), (36, .string (strOfNums [(j : Int)]))] rfl rfl (fun _ => by kernel_rfl) (fun A w ⟨e0, e1, _⟩ hB => doS_cat e0 e1 qj)
        | 9, _ => exact G.ob_val [(0, .int .i64 mode)] rfl rfl (fun _ => by kernel_rfl) (fun A w ⟨e0, _⟩ hB => doS_move e0)
        | 10, _ => exact G.ob_val [(38, .int .i64 mode)] rfl rfl (fun _ => by kernel_rfl) (fun A w ⟨e0, _⟩ hB => doS_call2 cf_spec_l5Tag rfl e0 (TG w))
        | 11, _ => exact G.ob_val [(37, .string (seed ++ Z ++ strOfNums [(j : Int)])), (39, .string tg)] rfl rfl (fun _ => by kernel_rfl) (fun A w ⟨e0, e1, _⟩ hB => doS_call2 cf_spec_HashToScalar e0 e1 (HJ w))
        | 12, _ => exact G.ob_val [(40, .tuple #[.int .u64 ((f j : Nat) : Int), .bool true])] rfl rfl (fun _ => by kernel_rfl) (fun A w ⟨e0, _⟩ hB => doS_move e0)
        | 13, _ => exact G.ob_val [(28, .tuple #[.int .u64 ((f j : Nat) : Int), .bool true])] rfl rfl (fun _ => by kernel_rfl) (fun A w ⟨e0, _⟩ hB => dkx0 e0)
        | 14, _ => exact G.ob_val [(28, .tuple #[.int .u64 ((f j : Nat) : Int), .bool true])] rfl rfl (fun _ => by kernel_rfl) (fun A w ⟨e0, _⟩ hB => dkx1 e0)
        | 15, _ => exact G.ob_val [(41, .int .u64 ((f j : Nat) : Int))] rfl rfl (fun _ => by kernel_rfl) (fun A w ⟨e0, _⟩ hB => doS_assign e0)
        | 16, _ => exact G.ob_val [(42, .bool true)] rfl rfl (fun _ => by kernel_rfl) (fun A w ⟨e0, _⟩ hB => doS_assign e0)
        | ix + 17, h => exact absurd h (by simp)
      intro fr W3 hS _ _ _ _
      have b3 : Below wr.heap.size wr W3 := (Below.refl _ wr).drew.trans hS.below
      replace hbl := hbl.trans (b3.mono hbl.size)
      clear hS b3 HJ qj
      simp only [puts, List.foldl, Act.put, List.setIfInBounds_toArray, List.set_cons_zero, List.set_cons_succ]
      by_cases hz : f j = 0
      · have hz' : (((f j : Nat) : Int) != 0) = false := by simp [hz]
        have hRn : Hid (R = dkR f (j + 1) (256 - (j + 1))) := by unfold Hid; rw [hRj.out, dkR_step hlt hz]
        clear hRj hz
        go_wp2
        go_roundw
        case rel =>
          first
            | exact ⟨j + 1, by omega, by go_num, hRn, hbl⟩
            | ((repeat apply Exists.intro); exact ⟨⟨j + 1, by omega, by go_num, hRn, hbl⟩, rfl⟩)
        case measure => simp [intOf]; omega
      · have hz' : (((f j : Nat) : Int) != 0) = true := by simp; omega
        have hRn : R = (f j, 0) := by rw [hRj.out, dkR_hit hlt hz]
        clear hRj hz
        subst hRn
        go_wp2
        go_ret2
        exact ⟨rfl, hbl⟩
    · obtain rfl : j = 256 := by omega
      have hRn : R = (0, 3) := by rw [hRj.out]; rfl
      clear hRj
      subst hRn
      go_wp2
      go_ret2
      exact ⟨rfl, hbl⟩
end Go.Proofs.YtjmhmajfkdglnaaDoor

/-
  strings.Repeat, by the shelf's contract, laid at this program.
-/
namespace Go.Proofs.YtjmhmajfkdglnaaDoor
open Go.RowKit Go.Shelf
set_option linter.unusedVariables false

def renRepeat : Go.Shelf.Ren := ⟨fun | 105 => 51 | 212 => 63 | 99 => 64 | 165 => 65 | 166 => 23 | 170 => 66 | 169 => 24 | 263 => 70 | 264 => 71 | 206 => 72 | 240 => 33 | 241 => 73 | 276 => 41 | 277 => 75 | n => n, fun | 9 => 9 | 3 => 3 | 4 => 4 | 20 => 20 | 0 => 0 | 46 => 74 | 109 => 129 | 5 => 5 | 72 => 65 | 76 => 66 | 51 => 86 | 146 => 138 | 53 => 22 | 148 => 106 | 70 => 63 | 37 => 30 | 75 => 34 | 127 => 83 | 164 => 103 | 80 => 70 | n => n, fun | n => n⟩
theorem laysRepeat : Go.Proofs.Lays.n105 Tryd.prog renRepeat := {
  mixed := by kernel_rfl
  f99 := Tryd.func64.trans (congrArg some (by kernel_rfl))
  f105 := Tryd.func51.trans (congrArg some (by kernel_rfl))
  f165 := Tryd.func65.trans (congrArg some (by kernel_rfl))
  f166 := Tryd.func23.trans (congrArg some (by kernel_rfl))
  f169 := Tryd.func24.trans (congrArg some (by kernel_rfl))
  f170 := Tryd.func66.trans (congrArg some (by kernel_rfl))
  f206 := Tryd.func72.trans (congrArg some (by kernel_rfl))
  f212 := Tryd.func63.trans (congrArg some (by kernel_rfl))
  f240 := Tryd.func33.trans (congrArg some (by kernel_rfl))
  f241 := Tryd.func73.trans (congrArg some (by kernel_rfl))
  f263 := Tryd.func70.trans (congrArg some (by kernel_rfl))
  f264 := Tryd.func71.trans (congrArg some (by kernel_rfl))
  f276 := Tryd.func41.trans (congrArg some (by kernel_rfl))
  f277 := Tryd.func75.trans (congrArg some (by kernel_rfl))
  t0 := Tryd.underlying0
  a0 := Tryd.isAgg0
  z0 := Tryd.sizeOf0
  v0 := Tryd.zeroValue0
  t3 := Tryd.underlying3
  a3 := Tryd.isAgg3
  z3 := Tryd.sizeOf3
  v3 := Tryd.zeroValue3
  t4 := Tryd.underlying4
  a4 := Tryd.isAgg4
  z4 := Tryd.sizeOf4
  v4 := Tryd.zeroValue4
  t5 := Tryd.underlying5
  a5 := Tryd.isAgg5
  z5 := Tryd.sizeOf5
  v5 := Tryd.zeroValue5
  t9 := Tryd.underlying9
  a9 := Tryd.isAgg9
  z9 := Tryd.sizeOf9
  v9 := Tryd.zeroValue9
  t20 := Tryd.underlying20
  a20 := Tryd.isAgg20
  z20 := Tryd.sizeOf20
  v20 := Tryd.zeroValue20
  t37 := Tryd.underlying30
  a37 := Tryd.isAgg30
  z37 := Tryd.sizeOf30
  v37 := Tryd.zeroValue30
  t46 := Tryd.underlying74
  a46 := Tryd.isAgg74
  z46 := Tryd.sizeOf74
  v46 := Tryd.zeroValue74
  t51 := Tryd.underlying86
  a51 := Tryd.isAgg86
  z51 := Tryd.sizeOf86
  v51 := Tryd.zeroValue86
  t53 := Tryd.underlying22
  a53 := Tryd.isAgg22
  z53 := Tryd.sizeOf22
  v53 := Tryd.zeroValue22
  t70 := Tryd.underlying63
  a70 := Tryd.isAgg63
  z70 := Tryd.sizeOf63
  v70 := Tryd.zeroValue63
  t72 := Tryd.underlying65
  a72 := Tryd.isAgg65
  z72 := Tryd.sizeOf65
  v72 := Tryd.zeroValue65
  t75 := Tryd.underlying34
  a75 := Tryd.isAgg34
  z75 := Tryd.sizeOf34
  v75 := Tryd.zeroValue34
  t76 := Tryd.underlying66
  a76 := Tryd.isAgg66
  z76 := Tryd.sizeOf66
  v76 := Tryd.zeroValue66
  t109 := Tryd.underlying129
  a109 := Tryd.isAgg129
  z109 := Tryd.sizeOf129
  v109 := Tryd.zeroValue129
  t127 := Tryd.underlying83
  a127 := Tryd.isAgg83
  z127 := Tryd.sizeOf83
  v127 := Tryd.zeroValue83
  t146 := Tryd.underlying138
  a146 := Tryd.isAgg138
  z146 := Tryd.sizeOf138
  v146 := Tryd.zeroValue138
  t148 := Tryd.underlying106
  a148 := Tryd.isAgg106
  z148 := Tryd.sizeOf106
  v148 := Tryd.zeroValue106
  t164 := Tryd.underlying103
  a164 := Tryd.isAgg103
  z164 := Tryd.sizeOf103
  v164 := Tryd.zeroValue103 }
theorem extraRepeat : Builder.Extra Tryd.prog renRepeat := {
  sizeBuilder := by kernel_rfl
  liesBuilder := by kernel_rfl
  t5 := laysRepeat.t5
  a5 := laysRepeat.a5
  z5 := laysRepeat.z5
  v5 := laysRepeat.v5
  infoByte := by kernel_rfl
  cellsByte := by kernel_rfl
  sizeByte := by kernel_rfl
  neB5 := by decide }
theorem eq64 : (⟨(Lib.repeatL (⟨#[0]⟩ : ByteArray).data.toList 64).toArray⟩ : ByteArray) = strOfNums (List.replicate 64 0) := by kernel_rfl
theorem rep64 (w : World) : Calls Tryd.prog 51 #[.string ⟨#[0]⟩, .int .i64 64] w fun e w' => e = .returned (.string (strOfNums (List.replicate 64 0))) ∧ Below w.heap.size w w' :=
  (Any.strings_Repeat laysRepeat extraRepeat ⟨#[0]⟩ 64 w (by decide) (by decide)).mono fun e w' ⟨h, h'⟩ => ⟨h.trans (by rw [eq64]), h'⟩
theorem eq32 : (⟨(Lib.repeatL (⟨#[0]⟩ : ByteArray).data.toList 32).toArray⟩ : ByteArray) = strOfNums (List.replicate 32 0) := by kernel_rfl
theorem rep32 (w : World) : Calls Tryd.prog 51 #[.string ⟨#[0]⟩, .int .i64 32] w fun e w' => e = .returned (.string (strOfNums (List.replicate 32 0))) ∧ Below w.heap.size w w' :=
  (Any.strings_Repeat laysRepeat extraRepeat ⟨#[0]⟩ 32 w (by decide) (by decide)).mono fun e w' ⟨h, h'⟩ => ⟨h.trans (by rw [eq32]), h'⟩
end Go.Proofs.YtjmhmajfkdglnaaDoor
