import Derived.Test.YtjmhmajfkdglnaaDoorMrg19
import Derived.Test.YtjmhmajfkdglnaaDoorMrg29
import Derived.Test.YtjmhmajfkdglnaaDoorMrg7
import Derived.Test.YtjmhmajfkdglnaaDoorMrg28
import Derived.Deep.QuietTactic
import Derived.BigQuiet
import Derived.Test.YtjmhmajfkdglnaaDoorMrg22
/-
  The program's DeriveKey.
-/
namespace Go.Proofs.YtjmhmajfkdglnaaDoor
open Go.RowKit
set_option linter.unusedVariables false

set_option maxRecDepth 100000 in
theorem ansU_ok (s : Int) (w : World) :
    Calls Tryd.prog 10 #[.int .u64 s, .nilIface] w fun e w' => e = .returned (.tuple #[.int .u64 s, .int .i64 0]) ∧ Below w.heap.size w w' := by
  go_enter Tryd.func10, Tryd.ntmps10
  go_wp2
  go_ret2
  exact ⟨rfl, Below.refl _ _⟩
set_option maxRecDepth 100000 in
theorem ansU_err (s : Int) (v : Value) (c : Int) (a0 a1 a2 a3 : Addr) (w : World) (hs : Sn w a0 a1 a2 a3) (hv : Er a0 a1 a2 a3 v c) :
    Calls Tryd.prog 10 #[.int .u64 s, v] w fun e w' => e = .returned (.tuple #[.int .u64 0, .int .i64 c]) ∧ Below w.heap.size w w' := by
  obtain ⟨⟨T, x, rfl⟩, C⟩ := hv
  go_enter Tryd.func10, Tryd.ntmps10
  go_wp2_with fail
  refine (C _ hs).mono ?_
  rintro e w1 ⟨rfl, b1⟩
  go_wp2
  go_ret2
  exact ⟨rfl, b1⟩
theorem bel_dr {n : Nat} {w W : World} (h : Below n w W) (m : Nat) : Below n w (W.drewN m) := ⟨h.os, h.tape, h.output, h.size, h.block⟩
section
variable (mode : Int) (seed info cx : ByteArray) (a0 a1 a2 a3 : Addr) (w : World) (hs : Sn w a0 a1 a2 a3)
include hs
set_option maxRecDepth 100000 in
theorem dkI_mode (C : ∀ w, Calls Tryd.prog 14 #[.int .i64 mode] w fun e w' => e = .returned (.tuple #[.string cx, .bool false]) ∧ w = w') :
    Calls Tryd.prog 11 #[.int .i64 mode, .string seed, .string info] w fun e w' => e = .returned (.tuple #[.int .u64 0, flt ⟨#[109, 111, 100, 101]⟩ (sen a0)]) ∧ Below w.heap.size w w' := by
  have g0 := hs.c0
  unfold flt sen at *
  go_enter Tryd.func11, Tryd.ntmps11
  go_wp2_with fail
  refine (C _).mono ?_
  rintro e w1 ⟨rfl, rfl⟩
  clear C
  go_wp2
  go_quiet (fail)
  go_wp2
  go_ret2
  exact ⟨rfl, bel_dr (Below.refl _ _) _⟩
variable (C : ∀ w, Calls Tryd.prog 14 #[.int .i64 mode] w fun e w' => e = .returned (.tuple #[.string cx, .bool true]) ∧ w = w')
include C
set_option maxRecDepth 100000 in
theorem dkI_seed (hz : ((seed.size : Int) != 32) = true) :
    Calls Tryd.prog 11 #[.int .i64 mode, .string seed, .string info] w fun e w' => e = .returned (.tuple #[.int .u64 0, flt ⟨#[115, 101, 101, 100]⟩ (sen a0)]) ∧ Below w.heap.size w w' := by
  have g0 := hs.c0
  unfold flt sen at *
  go_enter Tryd.func11, Tryd.ntmps11
  go_wp2_with fail
  refine (C _).mono ?_
  rintro e w1 ⟨rfl, rfl⟩
  clear C
  go_wp2
  go_quiet (fail)
  go_wp2
  go_ret2
  exact ⟨rfl, bel_dr (Below.refl _ _) _⟩
set_option maxRecDepth 100000 in
theorem dkI_info (hz : ((seed.size : Int) != 32) = false) (hi : (60000 : Int) < (info.size : Int)) :
    Calls Tryd.prog 11 #[.int .i64 mode, .string seed, .string info] w fun e w' => e = .returned (.tuple #[.int .u64 0, flt ⟨#[105, 110, 102, 111]⟩ (sen a0)]) ∧ Below w.heap.size w w' := by
  have g0 := hs.c0
  unfold flt sen at *
  go_enter Tryd.func11, Tryd.ntmps11
  go_wp2_with fail
  refine (C _).mono ?_
  rintro e w1 ⟨rfl, rfl⟩
  clear C
  go_wp2
  go_quiet (fail)
  go_wp2
  go_ret2
  exact ⟨rfl, bel_dr (Below.refl _ _) _⟩
set_option maxRecDepth 100000 in
set_option maxHeartbeats 4000000 in
theorem dkI_run (f : Nat → Nat) (T1 tg : ByteArray) (B TX : Nat → ByteArray) (hz : ((seed.size : Int) != 32) = false) (hi : ¬ (60000 : Int) < (info.size : Int))
    (Q1 : ∀ i (w : World), w.heap[i]? = some (.cells #[.iface 48 (.string info)] 69) → Calls Tryd.prog 15 #[.string seed, .slice (some ⟨i, 0, none⟩) 1 1] w fun e w' => e = .returned (.string T1) ∧ Below w.heap.size w w')
    (BE : ∀ (j : Nat) (w : World), j < 256 → Calls Tryd.prog 17 #[.int .u64 (j : Int), .int .i64 1] w fun e w' => e = .returned (.string (B j)) ∧ Below w.heap.size w w')
    (Q2 : ∀ (j i : Nat) (w : World), j < 256 → w.heap[i]? = some (.cells #[.iface 55 (.string (B j))] 69) → Calls Tryd.prog 15 #[.string T1, .slice (some ⟨i, 0, none⟩) 1 1] w fun e w' => e = .returned (.string (TX j)) ∧ Below w.heap.size w w')
    (TG : ∀ w, Calls Tryd.prog 18 #[.string cx, .string dkW] w fun e w' => e = .returned (.string tg) ∧ Below w.heap.size w w')
    (H : ∀ (j : Nat) (w' : World), j < 256 → Below w.heap.size w w' → Calls Tryd.prog 16 #[.string (TX j), .string tg] w' fun e w'' => e = .returned (.tuple #[.agg #[.int .u64 (f j : Nat)], .bool true]) ∧ Below w'.heap.size w' w'') :
    Calls Tryd.prog 11 #[.int .i64 mode, .string seed, .string info] w fun e w' => e = .returned (.tuple #[.int .u64 ((dkR f 0 256).1 : Nat), if (dkR f 0 256).2 = 0 then .nilIface else flt ⟨#[107, 101, 121]⟩ (sen a2)]) ∧ Below w.heap.size w w' := by
  obtain ⟨R, hR⟩ : ∃ R, Hid (R = dkR f 0 256) := ⟨_, rfl⟩
  rw [← hR.out]
  obtain ⟨V, hV⟩ : ∃ V, Hid (V = (if R.2 = 0 then Value.nilIface else flt ⟨#[107, 101, 121]⟩ (sen a2))) := ⟨_, rfl⟩
  rw [← hV.out]
  unfold dkW at TG
  have BE' : Hid (∀ (j : Nat) (w : World), j < 256 → Calls Tryd.prog 17 #[.int .u64 (j : Int), .int .i64 1] w fun e w' => e = .returned (.string (B j)) ∧ Below w.heap.size w w') := BE
  have Q2' : Hid (∀ (j i : Nat) (w : World), j < 256 → w.heap[i]? = some (.cells #[.iface 55 (.string (B j))] 69) → Calls Tryd.prog 15 #[.string T1, .slice (some ⟨i, 0, none⟩) 1 1] w fun e w' => e = .returned (.string (TX j)) ∧ Below w.heap.size w w') := Q2
  have H' : Hid (∀ (j : Nat) (w' : World), j < 256 → Below w.heap.size w w' → Calls Tryd.prog 16 #[.string (TX j), .string tg] w' fun e w'' => e = .returned (.tuple #[.agg #[.int .u64 (f j : Nat)], .bool true]) ∧ Below w'.heap.size w' w'') := H
  clear BE Q2 H
  go_enter Tryd.func11, Tryd.ntmps11
  go_wp2_with fail
  refine (C _).mono ?_
  rintro e w1 ⟨rfl, rfl⟩
  clear C
  have hal := (Below.refl _ w).alloc (Nat.le_refl _) (Obj.cells #[.iface 48 (.string info)] 69)
  go_wp2_with fail
  refine (Q1 _ _ (heap_alloc_new w _)).mono ?_
  rintro e w2 ⟨rfl, b2⟩
  have hb := hal.trans (b2.mono hal.size)
  clear Q1 b2 hal
  go_wp2
  go_loopw [41] (fun iv wr => ∃ j : Nat, j ≤ 256 ∧ iv = .int .u64 (j : Int) ∧ Hid (R = dkR f j (256 - j)) ∧ Below w.heap.size w wr) (fun i _ => 256 - (intOf i).toNat)
  case atStart => exact ⟨0, by omega, rfl, hR, hb⟩
  case round =>
    clear hb hR
    obtain ⟨j, hj, rfl, hRj, hbl⟩ := hrel
    by_cases hlt : j < 256
    · have hli : (j : Int) < 256 := by omega
      have BJ := fun w => BE'.out j w hlt
      have QJ := fun i w h => Q2'.out j i w hlt h
      have HJ := fun w' h => H'.out j w' hlt h
      generalize B j = Bj at *
      generalize TX j = TXj at *
      go_wp2_with fail
      refine (BJ _).mono ?_
      rintro e w3 ⟨rfl, b1⟩
      have hal := (Below.refl _ w3).alloc (Nat.le_refl _) (Obj.cells #[.iface 55 (.string Bj)] 69)
      replace hbl := hbl.trans (b1.mono hbl.size)
      replace hbl := hbl.trans (hal.mono hbl.size)
      clear BJ b1 hal
      go_wp2_with fail
      refine (QJ _ _ (heap_alloc_new w3 _)).mono ?_
      rintro e w4 ⟨rfl, b1⟩
      replace hbl := hbl.trans (b1.mono hbl.size)
      clear QJ b1
      go_wp2_with fail
      refine (TG _).mono ?_
      rintro e w5 ⟨rfl, b1⟩
      replace hbl := hbl.trans (b1.mono hbl.size)
      clear b1
      go_wp2_with fail
      refine (HJ _ hbl).mono ?_
      rintro e w6 ⟨rfl, b1⟩
      have hal := (Below.refl _ w6).alloc (Nat.le_refl _) (Obj.cells #[.int .u64 ((f j : Nat) : Int)] 52)
      have r12 : RN (w6.alloc (.cells #[.int .u64 ((f j : Nat) : Int)] 52)) w6.heap.size ((f j : Nat) : Int) := heap_alloc_new w6 _
      replace hbl := hbl.trans (b1.mono hbl.size)
      replace hbl := hbl.trans (hal.mono hbl.size)
      clear HJ b1 hal
      have c0 := r12.cell
      by_cases hz : f j = 0
      · have hz' : (((f j : Nat) : Int) != 0) = false := by simp [hz]
        have hRn : Hid (R = dkR f (j + 1) (256 - (j + 1))) := by unfold Hid; rw [hRj.out, dkR_step hlt hz]
        clear hRj hz
        go_wp2
        go_roundw
        case rel =>
          first
            | exact ⟨j + 1, by omega, by go_num, hRn, hbl⟩
            | ((repeat apply Exists.intro); exact ⟨⟨j + 1, by omega, by go_num, hRn, hbl⟩, rfl⟩)
        case measure => simp [intOf]; omega
      · have hz' : (((f j : Nat) : Int) != 0) = true := by simp; omega
        have hRn : R = (f j, 0) := by rw [hRj.out, dkR_hit hlt hz]
        clear hRj hz
        subst hRn
        have hV' : V = .nilIface := by rw [hV.out]; rfl
        subst hV'
        go_wp2
        go_ret2
        exact ⟨rfl, hbl⟩
    · obtain rfl : j = 256 := by omega
      have hRn : R = (0, 3) := by rw [hRj.out]; rfl
      clear hRj
      subst hRn
      have hV' : V = flt ⟨#[107, 101, 121]⟩ (sen a2) := by rw [hV.out, if_neg (by decide)]
      subst hV'
      have g2 := (hs.keep hbl).c2
      clear hV
      unfold flt sen at *
      go_wp2
      go_quiet (fail)
      go_wp2
      go_ret2
      exact ⟨rfl, bel_dr hbl _⟩
end
end Go.Proofs.YtjmhmajfkdglnaaDoor

/-
  DeriveKey of both sides, put together.
-/
namespace Go.Proofs.YtjmhmajfkdglnaaDoor
open Go.RowKit
set_option linter.unusedVariables false

theorem dkS_any (mode : Int) (seed info : ByteArray) (w : World) :
    Calls Tryd.prog 4 #[.int .i64 mode, .string seed, .string info] w fun e w' => e = .returned (.tuple #[.int .u64 ((dkV mode seed info).1 : Nat), .int .i64 (dkV mode seed info).2]) ∧ Below w.heap.size w w' := by
  unfold dkV
  cases h : dkB mode seed info with
  | false =>
    rw [if_neg (by decide)]
    exact dkS_bad mode seed info w h
  | true =>
    rw [if_pos rfl]
    unfold dkB at h
    obtain ⟨⟨m1, m2⟩, hs, hi⟩ := of_decide_eq_true h
    exact dkS_yes mode seed info w m1 m2 hs hi
set_option maxRecDepth 100000 in
theorem dkI_of (mode k k' c : Int) (seed info : ByteArray) (v : Value) (w : World)
    (HD : Calls Tryd.prog 11 #[.int .i64 mode, .string seed, .string info] w fun e w' => e = .returned (.tuple #[.int .u64 k, v]) ∧ Below w.heap.size w w')
    (AN : ∀ w', Below w.heap.size w w' → Calls Tryd.prog 10 #[.int .u64 k, v] w' fun e w'' => e = .returned (.tuple #[.int .u64 k', .int .i64 c]) ∧ Below w'.heap.size w' w'') :
    Calls Tryd.prog 5 #[.int .i64 mode, .string seed, .string info] w fun e w' => e = .returned (.tuple #[.int .u64 k', .int .i64 c]) ∧ Below w.heap.size w w' := by
  go_enter Tryd.func5, Tryd.ntmps5
  go_wp2_with fail
  refine HD.mono ?_
  rintro e w1 ⟨rfl, b1⟩
  go_wp2_with fail
  refine (AN _ b1).mono ?_
  rintro e w2 ⟨rfl, b2⟩
  replace b1 := b1.trans (b2.mono b1.size)
  clear HD AN b2
  go_wp2
  go_ret2
  exact ⟨rfl, b1⟩
theorem beTo1 (j : Nat) (h : j < 256) : beTo (j : Int) 1 = [(j : Int)] := by
  simp only [beTo]
  simp
  omega
theorem dkR_code (f : Nat → Nat) : ∀ (n i : Nat), (dkR f i n).2 = 0 ∨ dkR f i n = (0, 3)
  | 0, _ => .inr rfl
  | n + 1, i => by
    show (if f i = 0 then dkR f (i + 1) n else (f i, 0)).2 = 0 ∨ (if f i = 0 then dkR f (i + 1) n else (f i, 0)) = (0, 3)
    by_cases h : f i = 0
    · rw [if_pos h]; exact dkR_code f n (i + 1)
    · rw [if_neg h]; exact .inl rfl
theorem wthZ (t s : ByteArray) (i : Nat) (w : World) (h : t.size ≤ 200000) (hs : s.size ≤ 65535) (hr : w.heap[i]? = some (.cells #[.iface 48 (.string s)] 69)) :
    Calls Tryd.prog 15 #[.string t, .slice (some ⟨i, 0, none⟩) 1 1] w fun e w' => e = .returned (.string (t ++ sizB s)) ∧ Below w.heap.size w w' := by
  have := with_blk t [(.iface 48 (.string s), sizB s)] i 1 _ _ w hr rfl rfl (by omega) (by
    intro vs hvs
    simp only [List.mem_cons, List.not_mem_nil, or_false] at hvs
    subst hvs
    exact writZ s hs) (by
      show (t ++ sizB s).size ≤ _
      rw [ByteArray.size_append, sizB_size]; omega)
  exact this
theorem wthP (t s : ByteArray) (i : Nat) (w : World) (h : t.size ≤ 200000) (hs : s.size ≤ 65535) (hr : w.heap[i]? = some (.cells #[.iface 55 (.string s)] 69)) :
    Calls Tryd.prog 15 #[.string t, .slice (some ⟨i, 0, none⟩) 1 1] w fun e w' => e = .returned (.string (t ++ s)) ∧ Below w.heap.size w w' := by
  have := with_blk t [(.iface 55 (.string s), s)] i 1 _ _ w hr rfl rfl (by omega) (by
    intro vs hvs
    simp only [List.mem_cons, List.not_mem_nil, or_false] at hvs
    subst hvs
    exact writP s) (by
      show (t ++ s).size ≤ _
      rw [ByteArray.size_append]; omega)
  exact this
/-- the program's DeriveKey -/
theorem dkI_any (mode : Int) (seed info : ByteArray) (a0 a1 a2 a3 : Addr) (w : World) (hT : TabK w) (hs : Sn w a0 a1 a2 a3) :
    Calls Tryd.prog 5 #[.int .i64 mode, .string seed, .string info] w fun e w' => e = .returned (.tuple #[.int .u64 ((dkV mode seed info).1 : Nat), .int .i64 (dkV mode seed info).2]) ∧ Below w.heap.size w w' := by
  have hgw : 9 < w.heap.size := World.block_lt_of_cell? w _ (hT 0 (by omega))
  have bad : ∀ v, dkB mode seed info = false → Er a0 a1 a2 a3 v 1 → Calls Tryd.prog 11 #[.int .i64 mode, .string seed, .string info] w (fun e w' => e = .returned (.tuple #[.int .u64 0, v]) ∧ Below w.heap.size w w') →
      Calls Tryd.prog 5 #[.int .i64 mode, .string seed, .string info] w fun e w' => e = .returned (.tuple #[.int .u64 ((dkV mode seed info).1 : Nat), .int .i64 (dkV mode seed info).2]) ∧ Below w.heap.size w w' := fun v h hv hD => by
    have e : dkV mode seed info = (0, 1) := by unfold dkV; rw [h]; rfl
    rw [e]
    exact dkI_of mode 0 0 1 seed info v w hD (fun w' hb => ansU_err 0 v 1 a0 a1 a2 a3 w' (hs.keep hb) hv)
  by_cases hm : 0 ≤ mode ∧ mode ≤ 2
  · obtain ⟨hk, hk'⟩ := dk_mod hm.1 hm.2
    have C := fun w => ctxI_yes mode.toNat w hk
    rw [hk'] at C
    by_cases h1 : seed.size = 32
    · have h1' : ((seed.size : Int) != 32) = false := by simp [h1]
      by_cases h2 : info.size ≤ 60000
      · have hB : dkB mode seed info = true := decide_eq_true ⟨hm, h1, h2⟩
        have e : dkV mode seed info = dkR (dkN mode.toNat seed info) 0 256 := by unfold dkV; rw [hB]; rfl
        rw [e]
        have hz := sizB_size info
        have hT1 : (seed ++ sizB info).size ≤ 200000 := by rw [ByteArray.size_append]; omega
        have TG := fun w => tagI_any (ctxB mode.toNat) dkW w (by rw [ctxB_size _ hk]; omega) (by decide)
        rw [← tagB_ctx] at TG
        have hzt := dkT_size _ hk
        have hD := dkI_run mode seed info (ctxB mode.toNat) a0 a1 a2 a3 w hs C (dkN mode.toNat seed info) (seed ++ sizB info) (tagB dkW mode.toNat) (fun j => strOfNums [(j : Int)]) (fun j => dkM seed info j) h1' (by omega)
          (fun i w hr => wthZ seed info i w (by omega) (by omega) hr)
          (fun j w hj => by
            have := beI_any (j : Int) 1 w (by omega) (by omega) (by omega) (by omega)
            rwa [beTo1 j hj] at this)
          (fun j i w hj hr => wthP (seed ++ sizB info) (strOfNums [(j : Int)]) i w hT1 (by rw [strOfNums_size]; simp) hr)
          TG
          (fun j w' hj hb => h2sN_yes (dkM seed info j) (tagB dkW mode.toNat) w' (fun i hi => (hb.cell (p := ⟨9, i, none⟩) hgw).trans (hT i hi)) ⟨by omega, by omega, by rw [dkM_size]; omega⟩)
        rcases dkR_code (dkN mode.toNat seed info) 256 0 with hc | hc
        · rw [if_pos hc] at hD
          rw [hc]
          exact dkI_of mode _ _ 0 seed info .nilIface w hD (fun w' hb => ansU_ok _ w')
        · rw [hc] at hD ⊢
          rw [if_neg (by decide)] at hD
          exact dkI_of mode _ _ 3 seed info _ w hD (fun w' hb => ansU_err _ _ 3 a0 a1 a2 a3 w' (hs.keep hb) (er_inv _))
      · exact bad _ (decide_eq_false (fun h => h2 h.2.2)) (er_args _) (dkI_info mode seed info _ a0 a1 a2 a3 w hs C h1' (by omega))
    · exact bad _ (decide_eq_false (fun h => h1 h.2.1)) (er_args _) (dkI_seed mode seed info _ a0 a1 a2 a3 w hs C (by simp; omega))
  · exact bad _ (decide_eq_false (fun h => hm h.1)) (er_args _) (dkI_mode mode seed info _ a0 a1 a2 a3 w hs (fun w => ctxI_no mode w hm))
end Go.Proofs.YtjmhmajfkdglnaaDoor
