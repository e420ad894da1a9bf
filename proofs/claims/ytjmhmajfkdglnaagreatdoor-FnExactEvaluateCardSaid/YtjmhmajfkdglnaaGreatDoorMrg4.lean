import Derived.Test.YtjmhmajfkdglnaaGreatDoorProg
import Derived.Laws.BytesArg
import Derived.Deep.RegionHeld3
import Derived.Lib.ConvBytes
import Derived.Deep.Strs
import Derived.Test.YtjmhmajfkdglnaaGreatDoorMrg0
import Derived.Test.YtjmhmajfkdglnaaGreatDoorChecked
import Derived.Shelf.Strings.Repeat
import Derived.KernelRfl
import Derived.Below
import Derived.Test.YtjmhmajfkdglnaaGreatDoorMrg1
import Derived.Shelf.Strings.Builder1
import Derived.Deep.AppendLies
import Derived.Deep.QuietTactic
import Derived.BigQuiet
import Derived.Deep.DrawnRows
set_option linter.unusedVariables false
set_option maxRecDepth 100000
set_option maxHeartbeats 16000000
namespace Go.Proofs.YtjmhmajfkdglnaaGreatDoor
open Go.RowKit
theorem conv2 (w : World) (a b : Int) : (convert 61 9 (.slice (some ⟨w.heap.size, 0, none⟩) 2 2)).run Tryz.prog (w.alloc (Obj.cells #[.int .u8 a, .int .u8 b] 5)) = .ok (.string (strOfNums [a, b])) (w.alloc (Obj.cells #[.int .u8 a, .int .u8 b] 5)) :=
  run_convert_bytes_arg (P := Tryz.prog) (w.alloc (Obj.cells #[.int .u8 a, .int .u8 b] 5)) 61 5 Tryz.underlying61 Tryz.underlying5 w.heap.size 0 2 2 [a, b] rfl (fun i hi => by
    have hh := heap_alloc_new w (Obj.cells #[.int .u8 a, .int .u8 b] 5)
    generalize w.alloc (Obj.cells #[.int .u8 a, .int .u8 b] 5) = W at *
    rcases (show i = 0 ∨ i = 1 by omega) with rfl | rfl
    · simp [World.cell?, hh]
    · simp [World.cell?, hh]) 9 Tryz.underlying9
def sizB (s : ByteArray) : ByteArray := strOfNums [((s.size / 256 % 256 : Nat) : Int), ((s.size % 256 : Nat) : Int)] ++ s
theorem sizS_any (s : ByteArray) (w : World) (h : s.size ≤ 65535) :
    Calls Tryz.prog 73 #[.string s] w fun e w' => e = .returned (.string (sizB s)) ∧ Below w.heap.size w w' := by
  have h2 : ((s.size / 256 % 256 : Nat) : Int) = (s.size : Int) / 256 := by omega
  have h3 : ((s.size % 256 : Nat) : Int) = (s.size : Int) % 256 := by omega
  have hcv := conv2 w ((s.size : Int) / 256) ((s.size : Int) % 256)
  unfold sizB
  rw [h2, h3]
  obtain ⟨T, hT⟩ : ∃ T, Hid (T = strOfNums [(s.size : Int) / 256, (s.size : Int) % 256]) := ⟨_, rfl⟩
  have hTs : T.size = 2 := by rw [hT.out, strOfNums_size]; rfl
  rw [← hT.out] at hcv ⊢
  go_enter Tryz.func73, Tryz.ntmps73
  go_wp2
  go_ret
  exact ⟨rfl, (Below.refl _ w).alloc (Nat.le_refl _) _⟩
def tagB (word : ByteArray) (k : Nat) : ByteArray := word ++ ⟨#[84, 79, 89, 80, 82, 70, 45]⟩ ++ (⟨#[48, 49, 50]⟩ : ByteArray).extract k (k + 1) ++ ⟨#[45, 77, 54, 49]⟩
theorem tagB_size (word : ByteArray) (k : Nat) (h : k < 3) : (tagB word k).size = word.size + 12 := by
  rcases (show k = 0 ∨ k = 1 ∨ k = 2 by omega) with rfl | rfl | rfl <;> (unfold tagB; rw [ByteArray.size_append, ByteArray.size_append, ByteArray.size_append]; rfl)
theorem tagS_any (word : ByteArray) (k : Nat) (w : World) (hk : k < 3) (h : word.size ≤ 100) :
    Calls Tryz.prog 71 #[.string word, .int .i64 k] w fun e w' => e = .returned (.string (tagB word k)) ∧ Below w.heap.size w w' := by
  rcases (show k = 0 ∨ k = 1 ∨ k = 2 by omega) with rfl | rfl | rfl
  · go_enter Tryz.func71, Tryz.ntmps71
    go_wp2
    go_ret
    exact ⟨rfl, Below.refl _ _⟩
  · go_enter Tryz.func71, Tryz.ntmps71
    go_wp2
    go_ret
    exact ⟨rfl, Below.refl _ _⟩
  · go_enter Tryz.func71, Tryz.ntmps71
    go_wp2
    go_ret
    exact ⟨rfl, Below.refl _ _⟩
theorem sizB_size (s : ByteArray) : (sizB s).size = s.size + 2 := by
  unfold sizB
  rw [ByteArray.size_append, strOfNums_size]
  simp only [List.length_cons, List.length_nil]
  omega
def numB (i : Nat) : ByteArray := strOfNums [((i / 256 % 256 : Nat) : Int), ((i % 256 : Nat) : Int)]
theorem numB_size (i : Nat) : (numB i).size = 2 := by unfold numB; rw [strOfNums_size]; rfl
end Go.Proofs.YtjmhmajfkdglnaaGreatDoor
namespace Go.Proofs.YtjmhmajfkdglnaaGreatDoor
open Go.RowKit Go.Shelf
def renRepeat : Go.Shelf.Ren := ⟨fun | 105 => 203 | 212 => 212 | 99 => 213 | 165 => 214 | 166 => 167 | 170 => 215 | 169 => 168 | 263 => 218 | 264 => 132 | 206 => 219 | 240 => 189 | 241 => 220 | 276 => 197 | 277 => 221 | n => n, fun | 9 => 9 | 3 => 3 | 4 => 4 | 20 => 20 | 0 => 0 | 46 => 130 | 109 => 306 | 5 => 5 | 72 => 249 | 76 => 250 | 51 => 195 | 146 => 312 | 53 => 22 | 148 => 219 | 70 => 247 | 37 => 61 | 75 => 76 | 127 => 284 | 164 => 293 | 80 => 254 | n => n, fun | n => n⟩
theorem laysRepeat : Go.Proofs.Lays.n105 Tryz.prog renRepeat := {
  mixed := by kernel_rfl
  f99 := Tryz.func213.trans (congrArg some (by kernel_rfl))
  f105 := Tryz.func203.trans (congrArg some (by kernel_rfl))
  f165 := Tryz.func214.trans (congrArg some (by kernel_rfl))
  f166 := Tryz.func167.trans (congrArg some (by kernel_rfl))
  f169 := Tryz.func168.trans (congrArg some (by kernel_rfl))
  f170 := Tryz.func215.trans (congrArg some (by kernel_rfl))
  f206 := Tryz.func219.trans (congrArg some (by kernel_rfl))
  f212 := Tryz.func212.trans (congrArg some (by kernel_rfl))
  f240 := Tryz.func189.trans (congrArg some (by kernel_rfl))
  f241 := Tryz.func220.trans (congrArg some (by kernel_rfl))
  f263 := Tryz.func218.trans (congrArg some (by kernel_rfl))
  f264 := Tryz.func132.trans (congrArg some (by kernel_rfl))
  f276 := Tryz.func197.trans (congrArg some (by kernel_rfl))
  f277 := Tryz.func221.trans (congrArg some (by kernel_rfl))
  t0 := Tryz.underlying0
  a0 := Tryz.isAgg0
  z0 := Tryz.sizeOf0
  v0 := Tryz.zeroValue0
  t3 := Tryz.underlying3
  a3 := Tryz.isAgg3
  z3 := Tryz.sizeOf3
  v3 := Tryz.zeroValue3
  t4 := Tryz.underlying4
  a4 := Tryz.isAgg4
  z4 := Tryz.sizeOf4
  v4 := Tryz.zeroValue4
  t5 := Tryz.underlying5
  a5 := Tryz.isAgg5
  z5 := Tryz.sizeOf5
  v5 := Tryz.zeroValue5
  t9 := Tryz.underlying9
  a9 := Tryz.isAgg9
  z9 := Tryz.sizeOf9
  v9 := Tryz.zeroValue9
  t20 := Tryz.underlying20
  a20 := Tryz.isAgg20
  z20 := Tryz.sizeOf20
  v20 := Tryz.zeroValue20
  t37 := Tryz.underlying61
  a37 := Tryz.isAgg61
  z37 := Tryz.sizeOf61
  v37 := Tryz.zeroValue61
  t46 := Tryz.underlying130
  a46 := Tryz.isAgg130
  z46 := Tryz.sizeOf130
  v46 := Tryz.zeroValue130
  t51 := Tryz.underlying195
  a51 := Tryz.isAgg195
  z51 := Tryz.sizeOf195
  v51 := Tryz.zeroValue195
  t53 := Tryz.underlying22
  a53 := Tryz.isAgg22
  z53 := Tryz.sizeOf22
  v53 := Tryz.zeroValue22
  t70 := Tryz.underlying247
  a70 := Tryz.isAgg247
  z70 := Tryz.sizeOf247
  v70 := Tryz.zeroValue247
  t72 := Tryz.underlying249
  a72 := Tryz.isAgg249
  z72 := Tryz.sizeOf249
  v72 := Tryz.zeroValue249
  t75 := Tryz.underlying76
  a75 := Tryz.isAgg76
  z75 := Tryz.sizeOf76
  v75 := Tryz.zeroValue76
  t76 := Tryz.underlying250
  a76 := Tryz.isAgg250
  z76 := Tryz.sizeOf250
  v76 := Tryz.zeroValue250
  t109 := Tryz.underlying306
  a109 := Tryz.isAgg306
  z109 := Tryz.sizeOf306
  v109 := Tryz.zeroValue306
  t127 := Tryz.underlying284
  a127 := Tryz.isAgg284
  z127 := Tryz.sizeOf284
  v127 := Tryz.zeroValue284
  t146 := Tryz.underlying312
  a146 := Tryz.isAgg312
  z146 := Tryz.sizeOf312
  v146 := Tryz.zeroValue312
  t148 := Tryz.underlying219
  a148 := Tryz.isAgg219
  z148 := Tryz.sizeOf219
  v148 := Tryz.zeroValue219
  t164 := Tryz.underlying293
  a164 := Tryz.isAgg293
  z164 := Tryz.sizeOf293
  v164 := Tryz.zeroValue293 }
theorem extraRepeat : Builder.Extra Tryz.prog renRepeat := {
  sizeBuilder := by kernel_rfl
  liesBuilder := by kernel_rfl
  t5 := laysRepeat.t5
  a5 := laysRepeat.a5
  z5 := laysRepeat.z5
  v5 := laysRepeat.v5
  infoByte := by kernel_rfl
  cellsByte := by kernel_rfl
  sizeByte := by kernel_rfl
  neB5 := by decide }
theorem eq64 : (⟨(Lib.repeatL (⟨#[0]⟩ : ByteArray).data.toList 64).toArray⟩ : ByteArray) = strOfNums (List.replicate 64 0) := by kernel_rfl
theorem rep64 (w : World) : Calls Tryz.prog 203 #[.string ⟨#[0]⟩, .int .i64 64] w fun e w' => e = .returned (.string (strOfNums (List.replicate 64 0))) ∧ Below w.heap.size w w' :=
  (Any.strings_Repeat laysRepeat extraRepeat ⟨#[0]⟩ 64 w (by decide) (by decide)).mono fun e w' ⟨h, h'⟩ => ⟨h.trans (by rw [eq64]), h'⟩
theorem eq32 : (⟨(Lib.repeatL (⟨#[0]⟩ : ByteArray).data.toList 32).toArray⟩ : ByteArray) = strOfNums (List.replicate 32 0) := by kernel_rfl
theorem rep32 (w : World) : Calls Tryz.prog 203 #[.string ⟨#[0]⟩, .int .i64 32] w fun e w' => e = .returned (.string (strOfNums (List.replicate 32 0))) ∧ Below w.heap.size w w' :=
  (Any.strings_Repeat laysRepeat extraRepeat ⟨#[0]⟩ 32 w (by decide) (by decide)).mono fun e w' ⟨h, h'⟩ => ⟨h.trans (by rw [eq32]), h'⟩
end Go.Proofs.YtjmhmajfkdglnaaGreatDoor
namespace Go.Proofs.YtjmhmajfkdglnaaGreatDoor
open Go.RowKit
theorem beTo2 (n : Nat) (h : n ≤ 65535) : strOfNums (beTo (n : Int) 2) = numB n := by
  unfold numB
  have e : beTo (n : Int) 2 = [((n / 256 % 256 : Nat) : Int), ((n % 256 : Nat) : Int)] := by
    simp only [beTo]
    simp
  rw [e]
theorem wrtZ (s : ByteArray) (w : World) (h : s.size ≤ 65535) :
    Calls Tryz.prog 240 #[.string s] w fun e w' => e = .returned (.string (sizB s)) ∧ Below w.heap.size w w' := by
  have L := fun w => beI_any (s.size : Int) 2 w (by omega) (by omega) (by omega) (by omega)
  rw [beTo2 _ h] at L
  have e1 : IntKind.u64.wrap (s.size : Int) = (s.size : Int) := by rw [IntKind.wrap_u64]; omega
  have hs : sizB s = numB s.size ++ s := rfl
  have hz := numB_size s.size
  rw [hs]
  generalize numB s.size = T at *
  clear hs
  go_enter Tryz.func240, Tryz.ntmps240
  go_wp2_with fail
  refine (L _).mono ?_
  rintro e w1 ⟨rfl, b1⟩
  go_wp2
  go_ret
  exact ⟨rfl, b1⟩
theorem wrtP (s : ByteArray) (w : World) :
    Calls Tryz.prog 245 #[.string s] w fun e w' => e = .returned (.string s) ∧ Below w.heap.size w w' := by
  go_enter Tryz.func245, Tryz.ntmps245
  go_wp2
  go_ret
  exact ⟨rfl, Below.refl _ _⟩
def Writ (v : Value) (s : ByteArray) : Prop := ∃ (T : TypeId) (x : Value) (F : FuncId), v = .iface T x ∧ (∀ w, (method 449 T x "loop.example/s02095/impl.written").run Tryz.prog w = .ok (F, x) w) ∧
  (∀ (args : Array Value) (w : World), (callFunc F args).run Tryz.prog w = .ok (.enter F args) w) ∧ ∀ w, Calls Tryz.prog F #[x] w fun e w' => e = .returned (.string s) ∧ Below w.heap.size w w'
theorem mthZ (s : ByteArray) (w : World) : (method 449 208 (.string s) "loop.example/s02095/impl.written").run Tryz.prog w = .ok (240, .string s) w := by kernel_rfl
theorem mthP (s : ByteArray) (w : World) : (method 449 210 (.string s) "loop.example/s02095/impl.written").run Tryz.prog w = .ok (245, .string s) w := by kernel_rfl
theorem ceZ (args : Array Value) (w : World) : (callFunc 240 args).run Tryz.prog w = .ok (.enter 240 args) w := by kernel_rfl
theorem ceP (args : Array Value) (w : World) : (callFunc 245 args).run Tryz.prog w = .ok (.enter 245 args) w := by kernel_rfl
theorem writZ (s : ByteArray) (h : s.size ≤ 65535) : Writ (.iface 208 (.string s)) (sizB s) := ⟨_, _, _, rfl, mthZ s, ceZ, fun w => wrtZ s w h⟩
theorem writP (s : ByteArray) : Writ (.iface 210 (.string s)) s := ⟨_, _, _, rfl, mthP s, ceP, fun w => wrtP s w⟩
attribute [local go_sem ↓] Go.wp_at_zero Go.wp_at_succ
theorem infoU32 : (Tryz.prog.info? 195).map (fun i => (i.zero, i.size, i.bytes)) = some (some (.int .u32 0), 1, 4) := by kernel_rfl
theorem infoU8 : (Tryz.prog.info? 5).map (fun i => (i.zero, i.size, i.bytes)) = some (some (.int .u8 0), 1, 1) := by kernel_rfl
theorem schedS_any (g cap n : Nat) (m : List Int) (fr : Nat) (w : World) (hm : ∀ i, i < n → w.cell? ⟨g, i, none⟩ = some (.int .u8 (lk m i)))
    (hb : ∀ i, 0 ≤ lk m i ∧ lk m i < 256) (hn : n ≤ 1099511627776) (hf : fr + 64 ≤ n) (hg : g < w.heap.size) :
    Calls Tryz.prog 146 #[.slice (some ⟨g, 0, none⟩) n cap, .int .i64 fr] w fun e w' =>
      ∃ g' cap', e = .returned (.slice (some ⟨g', 0, none⟩) 64 cap') ∧
      w'.ownsRow w.heap.size 195 1 (.slice (some ⟨g', 0, none⟩) 64 cap') 64 ((wsTo m fr 64).map (Value.int .u32)) ∧ Below w.heap.size w w' := by
  obtain ⟨i0, hi, hz0, hz1, hz2⟩ := info_parts infoU32
  go_enter Tryz.func146, Tryz.ntmps146
  go_wp2
  go_loopw [5, 6] (fun v i wr => ∃ k : Nat, k ≤ 16 ∧ i = .int .i64 k ∧ wr.ownsRow w.heap.size 195 1 v k ((wsTo m fr k).map (Value.int .u32)) ∧ Below w.heap.size w wr) (fun _ i _ => 16 - (intOf i).toNat)
  case atStart => exact ⟨0, by omega, rfl, ⟨rfl, .inr ⟨w.heap.size, 0, #[], rfl, Nat.le_refl _, heap_alloc_new _ _, by omega, by decide, rfl, rfl⟩⟩, (Below.refl _ _).alloc (Nat.le_refl _) _⟩
  case round =>
    obtain ⟨k, hk, rfl, hown, hbl⟩ := hrel
    by_cases hlt : k < 16
    · obtain ⟨p, hp⟩ : ∃ p : Nat, p = fr + 4 * k := ⟨_, rfl⟩
      have hp' : (fr : Int) + 4 * (k : Int) = (p : Int) := by omega
      have c0 := (hbl.cell (p := ⟨g, p, none⟩) hg).trans (hm p (by omega))
      have c1 := (hbl.cell (p := ⟨g, p + 1, none⟩) hg).trans (hm (p + 1) (by omega))
      have c2 := (hbl.cell (p := ⟨g, p + 2, none⟩) hg).trans (hm (p + 2) (by omega))
      have c3 := (hbl.cell (p := ⟨g, p + 3, none⟩) hg).trans (hm (p + 3) (by omega))
      have b0 := hb p
      have b1 := hb (p + 1)
      have b2 := hb (p + 2)
      have b3 := hb (p + 3)
      have hnb : u5.ownBlock ≠ some g := by
        rcases hown.2 with ⟨rfl, _⟩ | ⟨g1, cap1, cur, rfl, hg1, _⟩
        · simp [Value.ownBlock]
        · simp only [Value.ownBlock, ne_eq, Option.some.injEq]; omega
      have hgr : g < wr.heap.size := Nat.lt_of_lt_of_le hg hbl.size
      have hszr : w.heap.size ≤ wr.heap.size := hbl.size
      have q0 : (0 : Int) ≤ (p : Int) := Int.natCast_nonneg _
      have q1 : (p : Int) < (n : Int) := by omega
      have q2 : (p : Int) + 1 < (n : Int) := by omega
      have q3 : (p : Int) + 2 < (n : Int) := by omega
      have q4 : (p : Int) + 3 < (n : Int) := by omega
      have q5 : (0 : Int) ≤ (p : Int) + 1 := by omega
      have q6 : (0 : Int) ≤ (p : Int) + 2 := by omega
      have q7 : (0 : Int) ≤ (p : Int) + 3 := by omega
      have e1 := i64_in ((p : Int) + 1) (by omega) (by omega)
      have e2 := i64_in ((p : Int) + 2) (by omega) (by omega)
      have e3 := i64_in ((p : Int) + 3) (by omega) (by omega)
      have f0 := u32_in (lk m p) (by omega) (by omega)
      have f1 := u32_in (lk m (p + 1)) (by omega) (by omega)
      have f2 := u32_in (lk m (p + 2)) (by omega) (by omega)
      have f3 := u32_in (lk m (p + 3)) (by omega) (by omega)
      have f4 := u32_in (lk m p * 16777216) (by omega) (by omega)
      have f5 := u32_in (lk m (p + 1) * 65536) (by omega) (by omega)
      have f6 := u32_in (lk m (p + 2) * 256) (by omega) (by omega)
      have t1 : ((p : Int) + 1).toNat = p + 1 := by omega
      have t2 : ((p : Int) + 2).toNat = p + 2 := by omega
      have t3 : ((p : Int) + 3).toNat = p + 3 := by omega
      have Hp : Hid (p = fr + 4 * k) := hp
      have hpn : p + 64 ≤ n + 4 * k := by omega
      clear hp
      go_wp2
      go_region_held3 (fun w' => w'.cell? ⟨g, p, none⟩ = some (.int .u8 (lk m p)) ∧ w'.cell? ⟨g, p + 1, none⟩ = some (.int .u8 (lk m (p + 1))) ∧
          w'.cell? ⟨g, p + 2, none⟩ = some (.int .u8 (lk m (p + 2))) ∧ w'.cell? ⟨g, p + 3, none⟩ = some (.int .u8 (lk m (p + 3))))
        (first
          | go_keep
          | (go_split_ands
             refine ⟨?_, ?_, ?_, ?_⟩
             · (rw [hgrow.cell_far _ (by simp; omega) (Ne.symm hnb)]; assumption)
             · (rw [hgrow.cell_far _ (by simp; omega) (Ne.symm hnb)]; assumption)
             · (rw [hgrow.cell_far _ (by simp; omega) (Ne.symm hnb)]; assumption)
             · (rw [hgrow.cell_far _ (by simp; omega) (Ne.symm hnb)]; assumption)))
        ((refine step_append_lies _ (by rfl) _ _ _ (by rfl) w.heap.size 195 i0 _ 1 4 Tryz.underlying196 hi hz0 hz1 hz2 rfl (by omega) u5 k ((wsTo m fr k).map (Value.int .u32)) (by rfl) ((hown.alloc _).drew)
            ⟨wr.heap.size, 0, none⟩ 1 1 [.int .u32 (word m p)] (by rfl) (by rfl) (World.news_of_block (cs := #[.int .u32 (word m p)]) (t := 195) (fr := (0, 0)) (heap_alloc_new wr _)) (by simp [Value.oneCell'])
            (by omega) (by unfold maxLen; omega) (by omega) (by simp; omega) (wr.heap.size + 1) (by simp) ?_; intro gg cap w1 hown1 hgrow hat hglt))
      go_wp2
      refine ⟨⟨k + 1, by omega, by go_num, ?_, ?_⟩, by simp [intOf]; omega⟩
      · rw [wsTo_lo m fr k hlt, ← Hp.out]; exact hown1
      · exact (((hbl.alloc hszr _).drew).grown hgrow (by simp; omega) (fun r hr => (hown.lt r hr).1))
    · obtain rfl : k = 16 := by omega
      go_wp2
      go_loopw [5, 8] (fun v i wr => ∃ k : Nat, 16 ≤ k ∧ k ≤ 64 ∧ i = .int .i64 k ∧ wr.ownsRow w.heap.size 195 1 v k ((wsTo m fr k).map (Value.int .u32)) ∧ Below w.heap.size w wr) (fun _ i _ => 64 - (intOf i).toNat)
      case atStart => exact ⟨16, by omega, by omega, rfl, hown, hbl⟩
      case round =>
        clear hown hbl
        obtain ⟨k, hk16, hk, rfl, hown, hbl⟩ := hrel
        by_cases hlt : k < 64
        · obtain ⟨g1, cap1, rfl, hg1, hlt1⟩ := hown.form (by omega)
          have c15 := own_cell hown (k - 15) (by omega)
          have c2 := own_cell hown (k - 2) (by omega)
          have c16 := own_cell hown (k - 16) (by omega)
          have c7 := own_cell hown (k - 7) (by omega)
          have b15 := wsTo_lo32 m fr k (k - 15)
          have b2 := wsTo_lo32 m fr k (k - 2)
          have b16 := wsTo_lo32 m fr k (k - 16)
          have b7 := wsTo_lo32 m fr k (k - 7)
          go_wp2_with (go_at_call 147; refine (turn_any _ _ _ (by omega) (by omega) (by omega) (by omega)).mono ?_; rintro e w' ⟨rfl, rfl⟩)
          have hszr : w.heap.size ≤ wr.heap.size := hbl.size
          have hn1 : g1 ≠ wr.heap.size := by omega
          have q0 : (0 : Int) ≤ (k : Int) - 16 := by omega
          have q1 : (k : Int) - 16 < (k : Int) := by omega
          have q2 : (0 : Int) ≤ (k : Int) - 7 := by omega
          have q3 : (k : Int) - 7 < (k : Int) := by omega
          have q4 : (16 : Int) ≤ (k : Int) := by omega
          have q5 : (7 : Int) ≤ (k : Int) := by omega
          have e1 := i64_in ((k : Int) - 16) (by omega) (by omega)
          have e2 := i64_in ((k : Int) - 7) (by omega) (by omega)
          have t1 : ((k : Int) - 16).toNat = k - 16 := by omega
          have t2 : ((k : Int) - 7).toNat = k - 7 := by omega
          have hL16 := own_get hown (k - 16) (by omega)
          have hL7 := own_get hown (k - 7) (by omega)
          go_region_held3 (fun w' => w'.cell? ⟨g1, k - 16, none⟩ = some (.int .u32 (lk (wsTo m fr k) (k - 16))) ∧ w'.cell? ⟨g1, k - 7, none⟩ = some (.int .u32 (lk (wsTo m fr k) (k - 7))))
            (first
              | go_keep
              | exact ⟨hkeep _ _ hL16, hkeep _ _ hL7⟩)
            ((refine step_append_keeps (by rfl) _ _ _ (by rfl) w.heap.size 195 i0 _ 4 Tryz.underlying196 hi hz0 hz1 hz2 rfl g1 k cap1 ((wsTo m fr k).map (Value.int .u32)) (by rfl) ((hown.alloc _).drew)
                ⟨wr.heap.size, 0, none⟩ 1 1 [.int .u32 (nextw (wsTo m fr k) k)] (by rfl) (by rfl) (World.news_of_block (cs := #[.int .u32 (nextw (wsTo m fr k) k)]) (t := 195) (fr := (0, 0)) (heap_alloc_new wr _)) (by simp [Value.oneCell'])
                (by omega) (by unfold maxLen; omega) (by omega) (by simp; omega) (wr.heap.size + 1) (by simp) ?_; intro gg cap w1 hown1 hgrow hat hglt hkeep))
          go_wp2
          go_roundw
          case rel =>
            have R1 : w1.ownsRow w.heap.size 195 1 (.slice (some ⟨gg, 0, none⟩) (k + 1) cap) (k + 1) ((wsTo m fr (k + 1)).map (Value.int .u32)) := by
              rw [wsTo_hi m fr k hk16]; exact hown1
            have R2 : Below w.heap.size w w1 := (((hbl.alloc hszr _).drew).grown hgrow (by simp; omega) (fun r hr => by simp at hr; omega))
            first
              | exact ⟨k + 1, by omega, by omega, by go_num, R1, R2⟩
              | ((repeat apply Exists.intro); exact ⟨⟨k + 1, by omega, by omega, by go_num, R1, R2⟩, rfl⟩)
          case measure => simp [intOf]; omega
        · obtain rfl : k = 64 := by omega
          obtain ⟨g1, cap1, rfl, hg1, hlt1⟩ := hown.form (by omega)
          go_wp2
          go_ret
          exact ⟨g1, cap1, rfl, hown, hbl⟩
end Go.Proofs.YtjmhmajfkdglnaaGreatDoor
