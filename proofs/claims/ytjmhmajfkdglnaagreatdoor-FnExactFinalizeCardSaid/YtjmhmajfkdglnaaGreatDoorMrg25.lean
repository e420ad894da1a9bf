import Derived.Test.YtjmhmajfkdglnaaGreatDoorMrg24
import Derived.Test.YtjmhmajfkdglnaaGreatDoorMrg10
import Derived.Test.YtjmhmajfkdglnaaGreatDoorMrg11
import Derived.Test.YtjmhmajfkdglnaaGreatDoorMrg17
import Derived.Test.YtjmhmajfkdglnaaGreatDoorMrg4
import Derived.Test.YtjmhmajfkdglnaaGreatDoorMrg20
import Derived.Test.YtjmhmajfkdglnaaGreatDoorMrg18
set_option linter.unusedVariables false
set_option maxRecDepth 100000
set_option maxHeartbeats 16000000
namespace Go.Proofs.YtjmhmajfkdglnaaGreatDoor
open Go.RowKit M
theorem rt_ex (x : Fp) : ∃ rb : Fp × Bool,
    (∀ w, Calls Tryz.prog 145 #[.int .u64 (fv x)] w fun e w' => e = .returned (.tuple #[.int .u64 (fv rb.1), .bool rb.2]) ∧ w = w') ∧
    (∀ w, Calls Tryz.prog 188 #[.agg #[.int .u64 (fv x)]] w fun e w' => e = .returned (.tuple #[.agg #[.int .u64 (fv rb.1)], .bool rb.2]) ∧ Below w.heap.size w w') ∧
    (rb.2 = false → ∀ y : Fp, y * y ≠ x) ∧ (rb.2 = true → rb.1 * rb.1 = x) := by
  obtain ⟨r, b, h1, h2, h3, h4, h5⟩ := ev_both x.val (val_lt x)
  refine ⟨(⟨r, h3⟩, b), h1, h2, fun hb y hy => (h4 hb).2 y.val ?_, fun hb => ?_⟩
  · rw [← hy, Fin.val_mul]
  · apply Fin.ext
    rw [Fin.val_mul]
    exact (h5 hb).2
noncomputable def rtV (x : Fp) : Fp := (Classical.choose (rt_ex x)).1
noncomputable def rtB (x : Fp) : Bool := (Classical.choose (rt_ex x)).2
noncomputable def mXX (u : Fp) : Fp := if rtB (crv (mX u)) then mX u else mS u * mX u
noncomputable def mYY (u : Fp) : Fp := rtV (crv (mXX u))
noncomputable def mYo (u : Fp) : Fp := if (fv u % 2 == 1) then 0 - mYY u else mYY u
def toF (v : Nat) : Fp := Fin.ofNat _ v
noncomputable def mapP (u : Nat) : Pt := some (mXX (toF u), mYo (toF u))
noncomputable def hPt (msg tag : ByteArray) : Pt := ad (mapP (hNum msg tag 2305843009213693951 2 0)) (mapP (hNum msg tag 2305843009213693951 2 1))
noncomputable def elT (t : Tri) : Bool := onT t && !t.2.2
def keyB (k : Nat) : Bool := decide (1 ≤ k ∧ k < 2305843010818082053)
def txtB (mode : Int) (n m : Nat) : Bool := decide ((0 ≤ mode ∧ mode ≤ 2) ∧ n ≤ 65535 ∧ m ≤ 60000 ∧ (mode = 2 ∨ m = 0))
def infW : ByteArray := ⟨#[73, 110, 102, 111]⟩
def grpW : ByteArray := ⟨#[72, 97, 115, 104, 84, 111, 71, 114, 111, 117, 112, 45]⟩
def finW : ByteArray := ⟨#[70, 105, 110, 97, 108, 105, 122, 101]⟩
def twk (info : ByteArray) : Nat := scaN (infW ++ sizB info) 2
theorem twk_lt (info : ByteArray) : twk info < 2305843010818082053 := scaN_lt _ _
theorem infoT_size (info : ByteArray) : (infW ++ sizB info).size = info.size + 6 := by
  rw [ByteArray.size_append, sizB_size, show infW.size = 4 from rfl]; omega
noncomputable def hsh (mode : Int) (input : ByteArray) : Pt := hPt input (tagB grpW mode.toNat)
def outT (mode : Int) (input info : ByteArray) (u : Pt) : ByteArray := (if mode = 2 then sizB input ++ sizB info else sizB input) ++ sizB (ptB u) ++ finW
def outB (mode : Int) (input info : ByteArray) (u : Pt) : ByteArray := strOfNums (shaF (byt (outT mode input info u)))
def kt (key : Nat) (info : ByteArray) : Nat := (key + twk info) % 2305843010818082053
theorem kt_lt (key : Nat) (info : ByteArray) : kt key info < 2305843010818082053 := Nat.mod_lt _ (by decide)
def facC (mode : Int) (key : Nat) (info : ByteArray) : Int := if mode = 2 ∧ kt key info = 0 then 3 else 0
def facT (mode : Int) (key : Nat) (info : ByteArray) : Nat := if mode = 2 then kt key info else key
def facB (mode : Int) (key : Nat) (info : ByteArray) : Nat := if mode = 2 then (if kt key info = 0 then 0 else M.ivn 2305843010818082053 (kt key info)) else key
theorem pb_none (p : Pt) : pb p = true ↔ p = none := by
  rcases p with _ | ⟨x, y⟩ <;> simp [pb]
theorem txtB_iff {mode : Int} {n m : Nat} : txtB mode n m = true ↔ (0 ≤ mode ∧ mode ≤ 2) ∧ n ≤ 65535 ∧ m ≤ 60000 ∧ (mode = 2 ∨ m = 0) := by unfold txtB; rw [decide_eq_true_eq]
theorem txtB_not {mode : Int} {n m : Nat} (h : ¬ ((0 ≤ mode ∧ mode ≤ 2) ∧ n ≤ 65535 ∧ m ≤ 60000 ∧ (mode = 2 ∨ m = 0))) : txtB mode n m = false := by unfold txtB; rw [decide_eq_false h]
theorem keyB_iff {k : Nat} : keyB k = true ↔ 1 ≤ k ∧ k < 2305843010818082053 := by unfold keyB; rw [decide_eq_true_eq]
theorem md_of {mode : Int} (h1 : 0 ≤ mode) (h2 : mode ≤ 2) : mode.toNat < 3 ∧ ((mode.toNat : Nat) : Int) = mode := by omega
theorem ivn_lt' (m a : Nat) (h : 0 < m) : M.ivn m a < m := by unfold M.ivn; exact Nat.mod_lt _ h
theorem outT_size (mode : Int) (input info : ByteArray) (u : Pt) (h1 : input.size ≤ 65535) (h2 : info.size ≤ 60000) : (outT mode input info u).size ≤ 130000 := by
  unfold outT
  split <;> simp only [ByteArray.size_append, sizB_size, ptB_size, show finW.size = 8 from rfl] <;> omega
theorem ansS_ok (s : ByteArray) (w : World) :
    Calls Tryz.prog 38 #[.string s, .nilIface] w fun e w' => e = .returned (.tuple #[.string s, .int .i64 0]) ∧ Below w.heap.size w w' := by
  go_enter Tryz.func38, Tryz.ntmps38
  go_wp2
  go_ret2
  exact ⟨rfl, Below.refl _ _⟩
theorem ansS_err (s : ByteArray) (v : Value) (c : Int) (a0 a1 a2 a3 : Addr) (w : World) (hs : Sn w a0 a1 a2 a3) (hv : Er a0 a1 a2 a3 v c) :
    Calls Tryz.prog 38 #[.string s, v] w fun e w' => e = .returned (.tuple #[.string ⟨#[]⟩, .int .i64 c]) ∧ Below w.heap.size w w' := by
  obtain ⟨⟨T, x, rfl⟩, C⟩ := hv
  go_enter Tryz.func38, Tryz.ntmps38
  go_wp2_with fail
  refine (C _ hs).mono ?_
  rintro e w1 ⟨rfl, b1⟩
  go_wp2
  go_ret2
  exact ⟨rfl, b1⟩
theorem facI_of (k z : Int) (b : Bool) (a0 a1 a2 a3 : Addr) (w : World) (hs : Sn w a0 a1 a2 a3) (hk : b = true → z = k)
    (E : ∀ w, Calls Tryz.prog 65 #[.int .u64 k, .agg #[]] w fun e w' => e = .returned (.tuple #[.agg #[.int .u64 z], .bool b]) ∧ Below w.heap.size w w') :
    Calls Tryz.prog 79 #[.int .u64 k] w fun e w' => e = .returned (.tuple #[.agg #[.int .u64 (if b = true ∧ ¬ k = 0 then k else 0)], if b = true ∧ ¬ k = 0 then .nilIface else sen a0]) ∧ Below w.heap.size w w' := by
  have hr : RN (w.alloc (.cells #[.int .u64 0] 117)) w.heap.size 0 := heap_alloc_new w _
  have hb := (Below.refl _ w).alloc (Nat.le_refl _) (Obj.cells #[.int .u64 0] 117)
  have hs1 := hs.keep hb
  by_cases h : b = true ∧ ¬ k = 0
  · rw [if_pos h, if_pos h]
    obtain ⟨rfl, h0⟩ := h
    obtain rfl := hk rfl
    have h0' : (z == 0) = false := by simpa using h0
    clear hk h0 hs1
    go_enter Tryz.func79, Tryz.ntmps79
    go_wp2_with fail
    refine (E _).mono ?_
    rintro e w1 ⟨rfl, b1⟩
    have hal := (Below.refl _ w1).alloc (Nat.le_refl _) (Obj.cells #[.int .u64 z] 117)
    have hr2 : RN (w1.alloc (.cells #[.int .u64 z] 117)) w1.heap.size z := heap_alloc_new w1 _
    replace hr := (hr.keep b1).keep hal
    replace hb := hb.trans (b1.mono hb.size)
    replace hb := hb.trans (hal.mono hb.size)
    clear E b1 hal
    have c0 := hr.cell
    have c1 := hr2.cell
    have cf := hr.frz
    go_wp2
    exact bodyPost_ret (v := .tuple #[.agg #[.int .u64 z], .nilIface]) (RN_res (fn := Tryz.f79) (p := 2) (u := 3) Tryz.results79 _ rfl (hr.set z)) rfl ⟨rfl, hb.setCell (p := ⟨w.heap.size, 0, none⟩) (Nat.le_refl _) _⟩
  · rw [if_neg h, if_neg h]
    have hg0 : 0 < w.heap.size := World.block_lt_of_cell? w _ hs.c0
    cases b with
    | false =>
      clear h hk
      go_enter Tryz.func79, Tryz.ntmps79
      go_wp2_with fail
      refine (E _).mono ?_
      rintro e w1 ⟨rfl, b1⟩
      obtain ⟨W2, hW2⟩ : ∃ W2, W2 = w1.alloc (Obj.cells #[.int .u64 z] 117) := ⟨_, rfl⟩
      have hal : Below w1.heap.size w1 W2 := by rw [hW2]; exact (Below.refl _ w1).alloc (Nat.le_refl _) _
      replace hr := (hr.keep b1).keep hal
      replace hs1 := (hs1.keep b1).keep hal
      replace hb := hb.trans (b1.mono hb.size)
      replace hb := hb.trans (hal.mono hb.size)
      clear E b1 hal
      go_wp2
      rw [← hW2]
      clear hW2
      have g0 : W2.drew.cell? ⟨0, 0, none⟩ = _ := hs1.c0
      have n0 : 0 ∉ [w.heap.size] := fun h => absurd (List.mem_singleton.1 h) (by omega)
      have l1 : w.heap.size < W2.drew.heap.size := hr.lt
      refine G.pool_list (W := W2) [w.heap.size] [.val (.agg #[.int .u64 0]),
          .val (sen a0),
          .set (w.heap.size) (.cells #[.int .u64 0] 117) (.cells #[.int .u64 0] 117),
          .val (sen a0)] [[], [], [2, 18], [19]] (fun f => [(some 18, .agg #[.int .u64 0]), (some 19, sen a0), (none, undef), (some 3, sen a0)]) (by kernel_rfl) (by kernel_rfl) (by kernel_rfl) (by kernel_rfl) (fun _ => by kernel_rfl) (G.last_of [.cells #[.int .u64 0] 117] (fun F R hm => by simp at hm) (fun ob ob' k hm => by simp at hm) (fun b ob ob' hm => by simp at hm; simp [hm])) (fun b ob ob' hm => by simp at hm; obtain ⟨rfl, rfl, -⟩ := hm; exact hr) ?_ ?_
      · intro ix hix
        match ix, hix with
        | 0, _ => exact G.ob_val [] rfl rfl (fun _ => by kernel_rfl) (fun A w _ hB => bu0_nN)
        | 1, _ => exact G.ob_val [] rfl rfl (fun _ => by kernel_rfl) (fun A w _ hB => ld_err rfl (hB.cell g0 n0))
        | 2, _ => exact G.ob_set (fun f => [(2, .pointer (some ⟨w.heap.size, 0, none⟩)), (18, .agg #[.int .u64 0])]) rfl rfl rfl (by simp) l1 (fun j ob1 ob2 h => by (rcases j with _ | _ | _ | _ | j) <;> simp [G.kindOf] at h ⊢ <;> omega) (fun _ => by kernel_rfl) (fun f A w ⟨e0, e1, _⟩ hh hr => pu_nN e0 e1 hr)
        | 3, _ => exact G.ob_val [(19, sen a0)] rfl rfl (fun _ => by kernel_rfl) (fun A w ⟨e0, _⟩ hB => doV_assign e0)
        | ix + 4, h => exact absurd h (by simp)
      intro f W3 hS _ _ _ hset
      have q1 : RN W3 w.heap.size 0 := hset 2 _ _ _ rfl (by decide)
      have hb3 : Below w.heap.size w W3 := hS.under hb.drew (by simp <;> omega) hb.size
      clear hset hS g0
      simp only [puts, List.foldl, Act.put, List.setIfInBounds_toArray, List.set_cons_zero, List.set_cons_succ]
      go_wp2
      exact bodyPost_ret (v := .tuple #[.agg #[.int .u64 0], sen a0]) (RN_res (fn := Tryz.f79) (p := 2) (u := 3) Tryz.results79 _ rfl q1) rfl ⟨rfl, hb3⟩
    | true =>
      obtain rfl := hk rfl
      have h0 : z = 0 := by simpa using h
      have h0' : (z == 0) = true := by simpa using h0
      clear h hk h0
      go_enter Tryz.func79, Tryz.ntmps79
      go_wp2_with fail
      refine (E _).mono ?_
      rintro e w1 ⟨rfl, b1⟩
      obtain ⟨W2, hW2⟩ : ∃ W2, W2 = w1.alloc (Obj.cells #[.int .u64 z] 117) := ⟨_, rfl⟩
      have hal : Below w1.heap.size w1 W2 := by rw [hW2]; exact (Below.refl _ w1).alloc (Nat.le_refl _) _
      replace hr := (hr.keep b1).keep hal
      replace hs1 := (hs1.keep b1).keep hal
      replace hb := hb.trans (b1.mono hb.size)
      replace hb := hb.trans (hal.mono hb.size)
      clear E b1 hal
      go_wp2
      rw [← hW2]
      clear hW2
      have g0 : W2.drew.cell? ⟨0, 0, none⟩ = _ := hs1.c0
      have n0 : 0 ∉ [w.heap.size] := fun h => absurd (List.mem_singleton.1 h) (by omega)
      have l1 : w.heap.size < W2.drew.heap.size := hr.lt
      refine G.pool_list (W := W2) [w.heap.size] [.val (.agg #[.int .u64 0]),
          .val (sen a0),
          .set (w.heap.size) (.cells #[.int .u64 0] 117) (.cells #[.int .u64 0] 117),
          .val (sen a0)] [[], [], [2, 18], [19]] (fun f => [(some 18, .agg #[.int .u64 0]), (some 19, sen a0), (none, undef), (some 3, sen a0)]) (by kernel_rfl) (by kernel_rfl) (by kernel_rfl) (by kernel_rfl) (fun _ => by kernel_rfl) (G.last_of [.cells #[.int .u64 0] 117] (fun F R hm => by simp at hm) (fun ob ob' k hm => by simp at hm) (fun b ob ob' hm => by simp at hm; simp [hm])) (fun b ob ob' hm => by simp at hm; obtain ⟨rfl, rfl, -⟩ := hm; exact hr) ?_ ?_
      · intro ix hix
        match ix, hix with
        | 0, _ => exact G.ob_val [] rfl rfl (fun _ => by kernel_rfl) (fun A w _ hB => bu0_nN)
        | 1, _ => exact G.ob_val [] rfl rfl (fun _ => by kernel_rfl) (fun A w _ hB => ld_err rfl (hB.cell g0 n0))
        | 2, _ => exact G.ob_set (fun f => [(2, .pointer (some ⟨w.heap.size, 0, none⟩)), (18, .agg #[.int .u64 0])]) rfl rfl rfl (by simp) l1 (fun j ob1 ob2 h => by (rcases j with _ | _ | _ | _ | j) <;> simp [G.kindOf] at h ⊢ <;> omega) (fun _ => by kernel_rfl) (fun f A w ⟨e0, e1, _⟩ hh hr => pu_nN e0 e1 hr)
        | 3, _ => exact G.ob_val [(19, sen a0)] rfl rfl (fun _ => by kernel_rfl) (fun A w ⟨e0, _⟩ hB => doV_assign e0)
        | ix + 4, h => exact absurd h (by simp)
      intro f W3 hS _ _ _ hset
      have q1 : RN W3 w.heap.size 0 := hset 2 _ _ _ rfl (by decide)
      have hb3 : Below w.heap.size w W3 := hS.under hb.drew (by simp <;> omega) hb.size
      clear hset hS g0
      simp only [puts, List.foldl, Act.put, List.setIfInBounds_toArray, List.set_cons_zero, List.set_cons_succ]
      go_wp2
      exact bodyPost_ret (v := .tuple #[.agg #[.int .u64 0], sen a0]) (RN_res (fn := Tryz.f79) (p := 2) (u := 3) Tryz.results79 _ rfl q1) rfl ⟨rfl, hb3⟩
theorem facI_any (k : Nat) (a0 a1 a2 a3 : Addr) (w : World) (hs : Sn w a0 a1 a2 a3) :
    Calls Tryz.prog 79 #[.int .u64 k] w fun e w' => e = .returned (.tuple #[.agg #[.int .u64 (if keyB k = true then (k : Int) else 0)], if keyB k = true then .nilIface else sen a0]) ∧ Below w.heap.size w w' := by
  have h := facI_of (k : Int) _ _ a0 a1 a2 a3 w hs (fun h => if_pos (of_decide_eq_true h)) (fun w => exN_any k w)
  have e : (decide (k < 2305843010818082053) = true ∧ ¬ (k : Int) = 0) ↔ keyB k = true := by rw [decide_eq_true_eq, keyB_iff]; omega
  simp only [e] at h
  exact h
end Go.Proofs.YtjmhmajfkdglnaaGreatDoor
