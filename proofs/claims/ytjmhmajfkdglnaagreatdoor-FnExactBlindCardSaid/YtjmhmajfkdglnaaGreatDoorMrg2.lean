import Derived.Test.YtjmhmajfkdglnaaGreatDoorMrg1
import Derived.Laws.BytesArg
import Derived.Deep.RegionHeld3
import Derived.BigQuiet
import Derived.Deep.DrawnRows
namespace Go.Proofs.YtjmhmajfkdglnaaGreatDoor
open Go.RowKit
set_option linter.unusedVariables false
attribute [local go_sem ↓] Go.wp_at_zero Go.wp_at_succ

theorem size44 : (Tryz.prog.info? 259).map (·.size) = some 74 := by kernel_rfl
def zeroRh : List Value := rhL (List.replicate 8 0) (List.replicate 64 0) 0 0
def newRh : List Value := rhL h0L (List.replicate 64 0) 0 0
theorem zero44 (w : World) : (zeroValue 259).run Tryz.prog w = .ok (.agg zeroRh.toArray) w := by kernel_rfl
theorem build44 (w : World) : (Instr.build 259 #[(0, .agg #[.int .u32 1779033703, .int .u32 3144134277, .int .u32 1013904242, .int .u32 2773480762, .int .u32 1359893119, .int .u32 2600822924, .int .u32 528734635, .int .u32 1541459225])]).run Tryz.prog w = .ok (.agg newRh.toArray) w := run_build w _ _ _ (by kernel_rfl)
theorem newRh_len : newRh.length = 74 := by decide
theorem zeroRh_len : zeroRh.length = 74 := by decide
theorem rhL_one (st blk : List Int) (f z : Int) : ∀ v ∈ rhL st blk f z, v.oneCell' = true := by
  intro v hv
  simp only [rhL, List.mem_append, List.mem_map, List.mem_cons, List.not_mem_nil, or_false] at hv
  rcases hv with (⟨x, _, rfl⟩ | ⟨x, _, rfl⟩) | rfl | rfl <;> rfl

set_option maxRecDepth 100000 in
set_option maxHeartbeats 1000000 in
theorem newI_any (w : World) :
    Calls Tryz.prog 169 #[] w fun e w' => e = .returned (.agg newRh.toArray) ∧ Below w.heap.size w w' := by
  have hz := zero44
  have hb := build44
  have hr := results_mid (P := Tryz.prog) (fn := Tryz.f169) (p := 0) (ty := 259) Tryz.results169
  have hth : (w.alloc (.cells zeroRh.toArray 259)).there w.heap.size 0 74 := there_new w _ _ 74 (by simp [zeroRh_len])
  go_enter Tryz.func169, Tryz.ntmps169
  go_wp2_with (refine wpList_store_mid rfl 259 _ _ rfl w.heap.size 0 newRh.toArray rfl rfl (by simpa [newRh_len] using hth) (by rw [size44]; simp [newRh_len]) (all_oneCell_toArray (rhL_one _ _ _ _)) ?_)
  refine bodyPost_ret (v := .agg newRh.toArray) (hr _ _ w.heap.size 0 newRh _ rfl (World.rangeAt_setCells_same _ _ _ _ (by rw [newRh_len]; exact hth)) Tryz.underlying259 rfl (by rw [size44, newRh_len])) rfl ⟨rfl, ?_⟩
  exact below_setCells ((Below.refl _ _).alloc (Nat.le_refl _) _) (Nat.le_refl _) _ _
end Go.Proofs.YtjmhmajfkdglnaaGreatDoor

namespace Go.Proofs.YtjmhmajfkdglnaaGreatDoor
open Go.RowKit
set_option linter.unusedVariables false

theorem rot_any (x k n : Int) (w : World) (h0 : 0 ≤ x) (h1 : x < 4294967296) (hk : -32 < k) (hk' : k < 0) (hn : n = -k) :
    Calls Tryz.prog 207 #[.int .u32 x, .int .i64 k] w fun e w' => e = .returned (.int .u32 (rotr x n)) ∧ w = w' := by
  have e := mask31 k hk hk'
  obtain ⟨m, rfl⟩ : ∃ m : Int, k = -m := ⟨-k, by omega⟩
  have e' : bits BinOp.and IntKind.u64 (IntKind.u64.wrap (-m)) 31 = 32 - m := by rw [e]; omega
  have hn2 : Hid (n = m) := by rw [hn]; simp [Hid]
  clear e hn
  go_enter Tryz.func207, Tryz.ntmps207
  go_wp2
  go_ret
  have e2 : (32 : Int) - (32 - m) = m := by omega
  refine ⟨ret_int (k := .u32) ?_, rfl⟩
  rw [hn2.out, e2, or_comm32]
  rfl
end Go.Proofs.YtjmhmajfkdglnaaGreatDoor

namespace Go.Proofs.YtjmhmajfkdglnaaGreatDoor
open Go.RowKit
set_option linter.unusedVariables false
attribute [local go_sem ↓] Go.wp_at_zero Go.wp_at_succ

theorem size61 : (Tryz.prog.info? 299).map (·.size) = some 64 := by kernel_rfl
theorem size41 : (Tryz.prog.info? 257).map (·.size) = some 64 := by kernel_rfl
def zeroWs : List Value := (List.replicate 64 (0 : Int)).map (Value.int .u32)
theorem zero61 (w : World) : (zeroValue 299).run Tryz.prog w = .ok (.agg zeroWs.toArray) w := by kernel_rfl

theorem len41 : Tryz.prog.arrayLen 257 = 64 := by kernel_rfl
theorem elem41 : Tryz.prog.elem 257 = 5 := by kernel_rfl
theorem sizeOf5 (w : World) : (sizeOf 5).run Tryz.prog w = .ok 1 w := by kernel_rfl
theorem slice41 (b o : Nat) (l h : Nat) (hlh : l ≤ h) (hl : l < 64) (hh : h ≤ 64) (w : World) :
    (Instr.sliceAt 257 (.pointer (some ⟨b, o, none⟩)) (some (.int .i64 (l : Int))) (some (.int .i64 (h : Int))) none).run Tryz.prog w = .ok (.slice (some ⟨b, o + l, none⟩) (h - l) (64 - l)) w := by
  rw [run_sliceAt_array_lh w 257 ⟨b, o, none⟩ (by kernel_rfl) .i64 .i64 (l : Int) (h : Int) (by omega) (by omega) (by rw [len41]; omega), elem41, sizeOf5]
  simp only [Result.andThen, slicedAt, Int.toNat_natCast, len41, Nat.mul_one, Addr.add_mid]
  rw [if_neg (by omega)]
theorem slice41_all (b o : Nat) (w : World) :
    (Instr.sliceAt 257 (.pointer (some ⟨b, o, none⟩)) none none none).run Tryz.prog w = .ok (.slice (some ⟨b, o, none⟩) 64 64) w := by
  rw [run_sliceAt_array_all w 257 ⟨b, o, none⟩ (by kernel_rfl), elem41, sizeOf5]
  simp only [Result.andThen, slicedAt, len41, Nat.mul_one, Addr.add_mid]
  rw [if_neg (by omega)]; simp
theorem slice41_from (b o : Nat) (l : Nat) (hl : l < 64) (w : World) :
    (Instr.sliceAt 257 (.pointer (some ⟨b, o, none⟩)) (some (.int .i64 (l : Int))) none none).run Tryz.prog w = .ok (.slice (some ⟨b, o + l, none⟩) (64 - l) (64 - l)) w := by
  rw [run_sliceAt_array_l w 257 ⟨b, o, none⟩ (by kernel_rfl) .i64 (l : Int) (by omega) (by rw [len41]; omega), elem41, sizeOf5]
  simp only [Result.andThen, slicedAt, Int.toNat_natCast, len41, Nat.mul_one, Addr.add_mid]
  rw [if_neg (by omega)]

theorem cell_set_far {w : World} {b i j : Nat} (v : Value) {u : Value} (h : ¬ i = j) (hc : w.cell? ⟨b, j, none⟩ = some u) : (w.setCell ⟨b, i, none⟩ v).drew.cell? ⟨b, j, none⟩ = some u := by
  show (w.setCell ⟨b, i, none⟩ v).cell? ⟨b, j, none⟩ = some u
  rw [World.cell?_setCell_other _ _ _ _ (fun he => h (congrArg Addr.off he))]; exact hc

/-- the three blocks of a call of schedule: the bytes, the result, the words so far -/
structure SchedW (w : World) (blk ws : List Int) (wr : World) : Prop where
  below : Below w.heap.size w wr
  size : wr.heap.size = w.heap.size + 3
  bytes : ∀ i, i < 64 → wr.cell? ⟨w.heap.size, i, none⟩ = some (.int .u8 (lk blk i))
  res : wr.there (w.heap.size + 1) 0 64
  row : Row wr w.heap.size (w.heap.size + 1 + 1) 64 64 (ws.map (Value.int .u32))

theorem SchedW.start (w : World) (blk : List Int) (hl : blk.length = 64) (t1 t2 : TypeId) : SchedW w blk (List.replicate 64 0)
    (((w.alloc (Obj.cells (List.map (Value.int IntKind.u8) blk).toArray t1)).alloc (Obj.cells zeroWs.toArray t2)).alloc (Obj.cells zeroWs.toArray t2)) := by
  have hzl : zeroWs.toArray.size = 64 := by decide
  have hzt : zeroWs.toArray.toList.take 64 = (List.replicate 64 (0 : Int)).map (Value.int .u32) := rfl
  refine ⟨(((Below.refl _ _).alloc (Nat.le_refl _) _).alloc (by simp) _).alloc (by simp; omega) _, by simp, fun i h64 => ?_, ?_, ?_⟩
  · rw [World.cell?_alloc_lt _ _ _ (by simp; omega), World.cell?_alloc_lt _ _ _ (by simp), cell_of_row _ _ _ _ _ _ (heap_alloc_new w _)]
    simp only [List.getElem?_toArray, List.getElem?_map]
    rw [List.getElem?_eq_getElem (by omega)]
    unfold lk
    rw [List.getD_eq_getElem?_getD, List.getElem?_eq_getElem (by omega)]
    rfl
  · have := World.there_alloc (there_new (w.alloc (Obj.cells (List.map (Value.int IntKind.u8) blk).toArray t1)) zeroWs.toArray t2 64 (by rw [hzl]; omega)) (Obj.cells zeroWs.toArray t2)
    simpa using this
  · have hnew := heap_alloc_new ((w.alloc (Obj.cells (List.map (Value.int IntKind.u8) blk).toArray t1)).alloc (Obj.cells zeroWs.toArray t2)) (Obj.cells zeroWs.toArray t2)
    simp only [World.size_alloc] at hnew
    have := Row.of_block (base := w.heap.size) (n := 64) hnew (by omega) (by rw [hzl]; omega) (by rw [hzl]; unfold maxLen; omega)
    rw [hzt, hzl] at this
    exact this

theorem SchedW.set {w : World} {blk ws : List Int} {wr : World} (F : SchedW w blk ws wr) (i : Nat) (hi : i < 64) (x : Int) : SchedW w blk (ws.set i x) (wr.setCell ⟨w.heap.size + 1 + 1, i, none⟩ (.int .u32 x)) := by
  refine ⟨F.below.setCell (by simp; omega) _, by simpa using F.size, fun j hj => ?_, fun j hj => ?_, ?_⟩
  · rw [World.cell?_setCell_other _ _ _ _ (fun he => by have := congrArg Addr.block he; simp at this; omega)]; exact F.bytes j hj
  · rw [World.cell?_setCell_other _ _ _ _ (fun he => by have := congrArg Addr.block he; simp at this), World.frozen?_setCell]; exact F.res j hj
  · rw [List.map_set]; exact F.row.set i hi _

theorem SchedW.drewN {w : World} {blk ws : List Int} {wr : World} (F : SchedW w blk ws wr) (n : Nat) : SchedW w blk ws (wr.drewN n) :=
  ⟨below_drewN F.below n, F.size, F.bytes, F.res, F.row.same rfl (Nat.le_refl _)⟩
theorem SchedW.drew {w : World} {blk ws : List Int} {wr : World} (F : SchedW w blk ws wr) : SchedW w blk ws wr.drew :=
  ⟨F.below.drew, F.size, F.bytes, F.res, F.row.drew⟩

set_option maxRecDepth 100000 in
set_option maxHeartbeats 1000000 in
theorem schedI_any (blk : List Int) (hl : blk.length = 64) (hb : ∀ i, 0 ≤ lk blk i ∧ lk blk i < 256) (w : World) :
    Calls Tryz.prog 206 #[.agg (blk.map (Value.int .u8)).toArray] w fun e w' => e = .returned (.agg ((wsTo blk 0 64).map (Value.int .u32)).toArray) ∧ Below w.heap.size w w' := by
  have hz := zero61
  go_enter Tryz.func206, Tryz.ntmps206
  go_wp2
  obtain ⟨W0, hW0⟩ : ∃ W0, W0 = ((w.alloc (Obj.cells (List.map (Value.int IntKind.u8) blk).toArray 257)).alloc (Obj.cells zeroWs.toArray 299)).alloc (Obj.cells zeroWs.toArray 299) := ⟨_, rfl⟩
  have F0 : SchedW w blk (List.replicate 64 0) W0 := by rw [hW0]; exact SchedW.start w blk hl _ _
  rw [← hW0]
  clear hW0 hz
  go_loopw [12] (fun c wr => ∃ k : Nat, k ≤ 16 ∧ c = .int .i64 k ∧ SchedW w blk (wsTo blk 0 k ++ List.replicate (64 - k) 0) wr) (fun c _ => 16 - (intOf c).toNat)
  case atStart => exact ⟨0, by omega, rfl, F0⟩
  case round =>
    clear F0
    obtain ⟨k, hk, rfl, F⟩ := hrel
    by_cases hlt : k < 16
    · have hsl : ∀ wx, (Instr.sliceAt 257 (.pointer (some ⟨w.heap.size, 0, none⟩)) (some (.int .i64 (4 * (k : Int)))) (some (.int .i64 (4 * (k : Int) + 4))) none).run Tryz.prog wx = .ok (.slice (some ⟨w.heap.size, 4 * k, none⟩) 4 (64 - 4 * k)) wx := fun wx => by
        have := slice41 w.heap.size 0 (4 * k) (4 * k + 4) (by omega) (by omega) (by omega) wx
        rw [show ((4 * k : Nat) : Int) = 4 * (k : Int) by omega, show ((4 * k + 4 : Nat) : Int) = 4 * (k : Int) + 4 by omega, Nat.zero_add, show 4 * k + 4 - 4 * k = 4 by omega] at this
        exact this
      go_wp2
      go_loopw [22] (fun c wr => ∃ j : Nat, j ≤ 4 ∧ c = .int .i64 j ∧ SchedW w blk (wsTo blk 0 k ++ accTo blk (4 * k) j :: List.replicate (64 - (k + 1)) 0) wr) (fun c _ => 4 - (intOf c).toNat)
      case atStart =>
        refine ⟨0, by omega, rfl, ?_⟩
        rw [show List.replicate (64 - k) (0 : Int) = 0 :: List.replicate (64 - (k + 1)) 0 by rw [← List.replicate_succ]; congr 1; omega] at F
        exact F
      case round =>
        clear F hsl
        obtain ⟨j, hj, rfl, F⟩ := hrel
        by_cases hltj : j < 4
        · have hcb := F.bytes (4 * k + j) (by omega)
          have hbb := hb (4 * k + j)
          have hcw := F.row.cell k (by omega)
          rw [lk_mid _ _ _ _ (wsTo_length blk 0 k)] at hcw
          have hfz := (F.row.room k (by omega)).2
          have hab := accTo_lo blk (4 * k) j
          have hacc : Hid (accTo blk (4 * k) (j + 1) = bits BinOp.or IntKind.u32 (accTo blk (4 * k) j * 256 % 4294967296) (lk blk (4 * k + j))) := rfl
          have hk0 : (k : Int) < 64 := by omega
          generalize accTo blk (4 * k) j = acc at *
          go_wp2
          go_roundw
          case rel =>
            have R := F.set k (by omega) (bits BinOp.or IntKind.u32 (acc * 256 % 4294967296) (lk blk (4 * k + j)))
            rw [set_at _ _ _ _ _ (wsTo_length blk 0 k)] at R
            first
              | exact ⟨j + 1, by omega, by go_num, by rw [hacc.out]; exact R⟩
              | ((repeat apply Exists.intro); exact ⟨⟨j + 1, by omega, by go_num, by rw [hacc.out]; exact R⟩, rfl⟩)
          case measure => simp [intOf]; omega
        · obtain rfl : j = 4 := by omega
          go_wp2
          go_roundw
          case rel =>
            have R := F
            rw [accTo4 blk (4 * k) hb, cons_snoc, show word blk (4 * k) = word blk (0 + 4 * k) by rw [Nat.zero_add], ← wsTo_at blk 0 k hlt] at R
            first
              | exact ⟨k + 1, by omega, by go_num, R⟩
              | ((repeat apply Exists.intro); exact ⟨⟨k + 1, by omega, by go_num, R⟩, rfl⟩)
          case measure => simp [intOf]; omega
    · obtain rfl : k = 16 := by omega
      go_wp2
      go_loopw [7] (fun c wr => ∃ k : Nat, 16 ≤ k ∧ k ≤ 64 ∧ c = .int .i64 k ∧ SchedW w blk (wsTo blk 0 k ++ List.replicate (64 - k) 0) wr) (fun c _ => 64 - (intOf c).toNat)
      case atStart => exact ⟨16, by omega, by omega, rfl, F⟩
      case round =>
        clear F
        obtain ⟨k, hk16, hk64, rfl, F⟩ := hrel
        by_cases hlt : k < 64
        · have hlen := wsTo_length blk 0 k
          have g15 := F.row.cell (k - 15) (by omega)
          have g2 := F.row.cell (k - 2) (by omega)
          have g16 := F.row.cell (k - 16) (by omega)
          have g7 := F.row.cell (k - 7) (by omega)
          rw [lk_append_lt _ _ _ (by omega)] at g15 g2 g16 g7
          obtain ⟨hsome, hfz⟩ := F.row.room k (by omega)
          obtain ⟨v0, hc0⟩ := Option.isSome_iff_exists.1 hsome
          have b15 := wsTo_lo32 blk 0 k (k - 15)
          have b2 := wsTo_lo32 blk 0 k (k - 2)
          have b16 := wsTo_lo32 blk 0 k (k - 16)
          have b7 := wsTo_lo32 blk 0 k (k - 7)
          have q4 : (16 : Int) ≤ (k : Int) := by omega
          have q5 : (k : Int) < 64 := by omega
          have q6 : (15 : Int) ≤ (k : Int) := by omega
          have q7 : (2 : Int) ≤ (k : Int) := by omega
          have q8 : (7 : Int) ≤ (k : Int) := by omega
          clear hlen hsome
          go_wp2
          go_quiet (fail)
          go_wp2_with (go_at_call 207; refine (rot_any _ _ _ _ (by omega) (by omega) (by omega) (by omega) rfl).mono ?_; rintro e w' ⟨rfl, rfl⟩)
          have F2 := F.drewN nq
          clear g15 g2 g16 g7 hc0 hfz F
          generalize wr.drewN nq = wd at *
          have g16 := F2.row.cell (k - 16) (by omega)
          have g7 := F2.row.cell (k - 7) (by omega)
          rw [lk_append_lt _ _ _ (by rw [wsTo_length]; omega)] at g16 g7
          obtain ⟨hsome, hfz⟩ := F2.row.room k (by omega)
          obtain ⟨v1, hc1⟩ := Option.isSome_iff_exists.1 hsome
          clear hsome
          have e1 := i64_in ((k : Int) - 16) (by omega) (by omega)
          have e2 := i64_in ((k : Int) - 7) (by omega) (by omega)
          have t1 : ((k : Int) - 16).toNat = k - 16 := by omega
          have t2 : ((k : Int) - 7).toNat = k - 7 := by omega
          have q9 : (k : Int) - 16 < 64 := by omega
          have q10 : (k : Int) - 7 < 64 := by omega
          have q11 : (0 : Int) ≤ (k : Int) := by omega
          have n1 : ¬ (k = k - 16) := by omega
          have n2 : ¬ (k = k - 7) := by omega
          go_region_held3 (fun w' => w'.cell? ⟨w.heap.size + 1 + 1, k - 16, none⟩ = some (.int .u32 (lk (wsTo blk 0 k) (k - 16))) ∧ w'.cell? ⟨w.heap.size + 1 + 1, k - 7, none⟩ = some (.int .u32 (lk (wsTo blk 0 k) (k - 7))))
            (first | exact ⟨cell_set_far _ n1 g16, cell_set_far _ n2 g7⟩ | go_keep) (fail)
          go_wp2
          go_roundw
          case rel =>
            have R := (F2.set k (by omega) (nextw (wsTo blk 0 k) k)).drew
            rw [set_rep _ _ _ (wsTo_length blk 0 k) hlt, ← wsTo_at' blk 0 k hk16] at R
            first
              | exact ⟨k + 1, by omega, by omega, by go_num, R⟩
              | ((repeat apply Exists.intro); exact ⟨⟨k + 1, by omega, by omega, by go_num, R⟩, rfl⟩)
          case measure => simp [intOf]; omega
        · obtain rfl : k = 64 := by omega
          rw [Nat.sub_self, List.replicate_zero, List.append_nil] at F
          have hrg : wr.rangeAt (w.heap.size + 1 + 1) 0 ((wsTo blk 0 64).map (Value.int .u32)) := fun j v hv => by rw [Nat.zero_add]; exact F.row.cells j v hv
          have hlen : ((wsTo blk 0 64).map (Value.int .u32)).length = 64 := by rw [List.length_map, wsTo_length]
          have hone : ∀ v ∈ (wsTo blk 0 64).map (Value.int .u32), v.oneCell' = true := by
            intro v hv; simp only [List.mem_map] at hv; obtain ⟨x, _, rfl⟩ := hv; rfl
          have hres := F.res
          have hbel := F.below
          have hr := results_mid (P := Tryz.prog) (fn := Tryz.f206) (p := 2) (ty := 299) Tryz.results206
          clear F
          generalize hL : (wsTo blk 0 64).map (Value.int .u32) = L at *
          have HL : Hid (L = (wsTo blk 0 64).map (Value.int .u32)) := hL.symm
          clear hL
          go_wp2_with (first
            | (refine wpList_load_mid rfl 299 _ rfl (w.heap.size + 1 + 1) 0 rfl L _ hrg Tryz.underlying299 rfl (by rw [size61, hlen]) ?_)
            | (refine wpList_store_mid rfl 299 _ _ rfl (w.heap.size + 1) 0 L.toArray rfl rfl (by simpa [hlen] using hres) (by rw [size61]; simp [hlen]) (all_oneCell_toArray hone) ?_))
          refine bodyPost_ret (v := .agg L.toArray) (hr _ _ (w.heap.size + 1) 0 L _ rfl (World.rangeAt_setCells_same _ _ _ _ (by rw [hlen]; exact hres)) Tryz.underlying299 rfl (by rw [size61, hlen])) rfl ⟨by rw [HL.out], ?_⟩
          exact below_setCells hbel (by omega) _ _
end Go.Proofs.YtjmhmajfkdglnaaGreatDoor
