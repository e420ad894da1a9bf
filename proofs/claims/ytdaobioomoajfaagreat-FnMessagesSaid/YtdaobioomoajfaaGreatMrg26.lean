import Derived.Test.YtdaobioomoajfaaGreatMrg25
import Derived.Test.YtdaobioomoajfaaGreatMrg12
import Derived.Test.YtdaobioomoajfaaGreatMrg24
import Derived.Test.YtdaobioomoajfaaGreatMrg23
import Derived.Test.YtdaobioomoajfaaGreatMrg21
import Derived.Test.YtdaobioomoajfaaGreatMrg22
import Derived.Test.YtdaobioomoajfaaGreatMrg1
import Derived.WalkKit
import Derived.ProofKit
import Derived.OpenShut
import Derived.ShutString
import Derived.ChangeOld
import Derived.OpenVars
import Derived.Deep.DeepHandedRow
import Derived.ChangeSlices
import Derived.Carry
set_option linter.unusedVariables false
set_option maxRecDepth 100000
set_option maxHeartbeats 16000000
namespace Go.Proofs.YtdaobioomoajfaaGreat
open Go.RowKit
def Q2F (W : World) (b : Nat) (x y : Int) : Prop := W.heap[b]? = some (.cells #[.int .u64 x, .int .u64 y] 34)
theorem prwF_res {W : World} {b : Nat} {x y : Int} {fn : Func} {p u : Tmp} (h : fn.results = #[.cell p 34, .tmp u]) (tmps : Array Value) (hp : tmps.getD p undef = .pointer (some ⟨b, 0, none⟩)) (hc : Q2F W b x y) :
    (results fn tmps).run Tryz.prog W = .ok (.tuple #[.agg #[.int .u64 x, .int .u64 y], tmps.getD u undef]) W := by
  have hp' : tmps[p]?.getD undef = .pointer (some ⟨b, 0, none⟩) := by simpa using hp
  have hr : W.rangeAt b 0 [.int .u64 x, .int .u64 y] := fun j v hj => by
    unfold Q2F at hc
    match j, hj with
    | 0, hj => cases hj; simp [World.cell?, hc]
    | 1, hj => cases hj; simp [World.cell?, hc]
  simp [results, h, hp', asAddr, run_loadVar_mid W b 0 34 [.int .u64 x, .int .u64 y] _ hr Tryz.underlying34 rfl (by kernel_rfl)]
theorem getF_of (s s1 s2 : ByteArray) (x y : Int) (b1 b2 : Bool) (w : World) (h : (s.size : Int) = 16) (e1 : s.extract 0 8 = s1) (e2 : s.extract 8 16 = s2) (e3 : s.extract 8 s.size = s2)
    (L1 : ∀ w, Calls Tryz.prog 14 #[.string s1] w fun e w' => e = .returned (.tuple #[.int .u64 x, .bool b1]) ∧ Below w.heap.size w w')
    (L2 : ∀ w, Calls Tryz.prog 14 #[.string s2] w fun e w' => e = .returned (.tuple #[.int .u64 y, .bool b2]) ∧ Below w.heap.size w w') :
    Calls Tryz.prog 11 #[.string s] w fun e w' => e = .returned (.tuple #[.agg #[.int .u64 (if b1 && b2 then x else 0), .int .u64 (if b1 && b2 then y else 0)], .bool (b1 && b2)]) ∧ Below w.heap.size w w' := by
  have hb := (Below.refl _ w).alloc (Nat.le_refl _) (Obj.cells #[.int .u64 0, .int .u64 0] 34)
  have hr : Q2F (w.alloc (Obj.cells #[.int .u64 0, .int .u64 0] 34)) w.heap.size 0 0 := heap_alloc_new w _
  obtain ⟨X, hX⟩ : ∃ X, Hid (X = (if b1 && b2 then x else 0)) := ⟨_, rfl⟩
  obtain ⟨Y, hY⟩ : ∃ Y, Hid (Y = (if b1 && b2 then y else 0)) := ⟨_, rfl⟩
  obtain ⟨B, hB⟩ : ∃ B, Hid (B = (b1 && b2)) := ⟨_, rfl⟩
  rw [← hX.out, ← hY.out, ← hB.out]
  have n1 : ((s.size : Int) != 16) = false := by simp [h]
  go_enter Tryz.func11, Tryz.ntmps11
  go_wp2_with fail
  refine (L1 _).mono ?_
  rintro e w1 ⟨rfl, k1⟩
  replace hr : Q2F w1 w.heap.size 0 0 := (k1.block _ (Array.getElem?_eq_some_iff.1 hr).1).trans hr
  replace hb := hb.trans (k1.mono hb.size)
  clear L1 k1
  go_wp2_with fail
  refine (L2 _).mono ?_
  rintro e w2 ⟨rfl, k2⟩
  replace hr : Q2F w2 w.heap.size 0 0 := (k2.block _ (Array.getElem?_eq_some_iff.1 hr).1).trans hr
  replace hb := hb.trans (k2.mono hb.size)
  clear L2 k2
  have d0 : w2.cell? ⟨w.heap.size, 0, none⟩ = some (.int .u64 0) := by unfold Q2F at hr; simp [World.cell?, hr]
  have d1 : w2.cell? ⟨w.heap.size, 1, none⟩ = some (.int .u64 0) := by unfold Q2F at hr; simp [World.cell?, hr]
  have df : ∀ i, w2.frozen? ⟨w.heap.size, i, none⟩ = false := fun i => by unfold Q2F at hr; simp [World.frozen?, hr]
  have st : ∀ a b : Int, Q2F ((w2.setCell ⟨w.heap.size, 0, none⟩ (.int .u64 a)).setCell ⟨w.heap.size, 1, none⟩ (.int .u64 b)) w.heap.size a b := fun a b => by
    unfold Q2F at *
    simp [World.setCell, Array.getElem?_modify, hr]
  have sb : ∀ u v : Value, Below w.heap.size w ((w2.setCell ⟨w.heap.size, 0, none⟩ u).setCell ⟨w.heap.size, 1, none⟩ v) := fun u v => (hb.setCell (p := ⟨w.heap.size, 0, none⟩) (Nat.le_refl _) _).setCell (p := ⟨w.heap.size, 1, none⟩) (Nat.le_refl _) _
  have st' : Hid (∀ a b : Int, Q2F ((w2.setCell ⟨w.heap.size, 0, none⟩ (.int .u64 a)).setCell ⟨w.heap.size, 1, none⟩ (.int .u64 b)) w.heap.size a b) := st
  have sb' : Hid (∀ u v : Value, Below w.heap.size w ((w2.setCell ⟨w.heap.size, 0, none⟩ u).setCell ⟨w.heap.size, 1, none⟩ v)) := sb
  clear st sb
  cases b1 with
  | false =>
    obtain rfl : X = 0 := by rw [hX.out]; rfl
    obtain rfl : Y = 0 := by rw [hY.out]; rfl
    obtain rfl : B = false := by rw [hB.out]; rfl
    clear hX hY hB
    go_wp2
    exact bodyPost_ret (v := .tuple #[.agg #[.int .u64 0, .int .u64 0], .bool false]) (prwF_res (fn := Tryz.f11) (p := 2) (u := 3) Tryz.results11 _ rfl (st'.out 0 0)) rfl ⟨rfl, sb'.out _ _⟩
  | true =>
    cases b2 with
    | false =>
      obtain rfl : X = 0 := by rw [hX.out]; rfl
      obtain rfl : Y = 0 := by rw [hY.out]; rfl
      obtain rfl : B = false := by rw [hB.out]; rfl
      clear hX hY hB
      go_wp2
      exact bodyPost_ret (v := .tuple #[.agg #[.int .u64 0, .int .u64 0], .bool false]) (prwF_res (fn := Tryz.f11) (p := 2) (u := 3) Tryz.results11 _ rfl (st'.out 0 0)) rfl ⟨rfl, sb'.out _ _⟩
    | true =>
      obtain rfl : X = x := by rw [hX.out]; rfl
      obtain rfl : Y = y := by rw [hY.out]; rfl
      obtain rfl : B = true := by rw [hB.out]; rfl
      clear hX hY hB
      go_wp2
      exact bodyPost_ret (v := .tuple #[.agg #[.int .u64 X, .int .u64 Y], .bool true]) (prwF_res (fn := Tryz.f11) (p := 2) (u := 3) Tryz.results11 _ rfl (st'.out X Y)) rfl ⟨rfl, sb'.out _ _⟩
end Go.Proofs.YtdaobioomoajfaaGreat
namespace Go.Proofs.YtdaobioomoajfaaGreat
open Go.RowKit
end Go.Proofs.YtdaobioomoajfaaGreat
namespace Go.Proofs.YtdaobioomoajfaaGreat
open Go.RowKit M
theorem wo_code : ∀ (l : List Lt) (m : Msg), Lt.c ∉ l → (l.foldl wo m).code = m.code
  | [], m, _ => rfl
  | q :: l, m, h => by
    rw [List.foldl_cons, wo_code l _ (fun h' => h (List.mem_cons_of_mem _ h'))]
    cases q with
    | c => exact absurd (List.mem_cons_self ..) h
    | _ => rfl
theorem wo_user : ∀ (l : List Lt) (m : Msg), Lt.u ∉ l → (l.foldl wo m).user = m.user
  | [], m, _ => rfl
  | q :: l, m, h => by
    rw [List.foldl_cons, wo_user l _ (fun h' => h (List.mem_cons_of_mem _ h'))]
    cases q with
    | u => exact absurd (List.mem_cons_self ..) h
    | _ => rfl
theorem ok_fits {m : Msg} (h : okM m = true) (hz : (putM m).size ≤ 1048576) : Fits m := by
  obtain ⟨h1, h2, h3⟩ := okM_iff.1 h
  have hk := kb_lt h1
  have hc : 0 ≤ m.code ∧ m.code ≤ 7 := by
    by_cases hm : Lt.c ∈ flds m.kind
    · have h4 := List.all_eq_true.1 h2 _ hm
      have h5 : decide (1 ≤ m.code ∧ m.code ≤ 7) = true := h4
      have h6 := of_decide_eq_true h5
      omega
    · have h4 := wo_code (flds m.kind) m hm
      rw [h3] at h4
      have h5 : (0 : Int) = m.code := h4
      omega
  have hu : m.user.size ≤ 32 := by
    by_cases hm : Lt.u ∈ flds m.kind
    · have h4 := List.all_eq_true.1 h2 _ hm
      have h5 : nameB m.user = true := h4
      unfold nameB at h5
      have h6 := of_decide_eq_true h5
      omega
    · have h4 := wo_user (flds m.kind) m hm
      rw [h3] at h4
      have h5 : (⟨#[]⟩ : ByteArray) = m.user := h4
      rw [← h5]
      exact Nat.zero_le _
  have hcat : (cat m (flds m.kind)).size ≤ 1048576 := by
    unfold putM at hz
    rw [if_pos h, ByteArray.size_append] at hz
    omega
  exact ⟨by omega, by omega, by omega, by omega, by omega, by omega⟩
theorem lessN (n : Nat) (k : Bool) (h : decide (n < 2305843010818082053) = k) : decide ((n : Int) < 2305843010818082053) = k := by
  rw [← h]
  exact decide_eq_decide.2 ⟨fun h => Int.ofNat_lt.1 h, fun h => Int.ofNat_lt.2 h⟩
theorem sc_any (n : Nat) (u : ByteArray) (k : Bool) (hn : n < 18446744073709551616) (hu : strOfNums (be8 (n : Int)) = u) (hk : decide (n < 2305843010818082053) = k) :
    ∃ z : Int, (∀ w, Calls Tryz.prog 14 #[.string u] w fun e w' => e = .returned (.tuple #[.int .u64 z, .bool k]) ∧ Below w.heap.size w w') ∧ (k = true → z = (n : Int)) ∧ (k = false → z = 0) := by
  subst hu
  have h8 : (strOfNums (be8 (n : Int))).size = 8 := by rw [strOfNums_size]; rfl
  have L := fun w => wdI_any (strOfNums (be8 (n : Int))) w h8
  rw [byt_str _ (be8_lt _), numL_be8 n hn] at L
  cases k with
  | true =>
    have h := of_decide_eq_true hk
    exact ⟨(n : Int), fun w => scaI_two _ _ _ _ w (by omega) L (fun w => exN_less _ w (Int.ofNat_lt.2 h)), fun _ => rfl, (fun e => by cases e)⟩
  | false =>
    have h := of_decide_eq_false hk
    exact ⟨0, fun w => scaI_two _ _ _ _ w (by omega) L (fun w => exN_more _ w (Int.ofNat_le.2 (Nat.le_of_not_lt h))), (fun e => by cases e), fun _ => rfl⟩
theorem gp_any (x y : Nat) (u : ByteArray) (k1 k2 : Bool) (hx : x < 18446744073709551616) (hy : y < 18446744073709551616) (hu : strOfNums (be8 (x : Int)) ++ strOfNums (be8 (y : Int)) = u) (h1 : decide (x < 2305843010818082053) = k1) (h2 : decide (y < 2305843010818082053) = k2) :
    ∃ p0 p1 : Int, (∀ w, Calls Tryz.prog 11 #[.string u] w fun e w' => e = .returned (.tuple #[.agg #[.int .u64 p0, .int .u64 p1], .bool (k1 && k2)]) ∧ Below w.heap.size w w') ∧ ((k1 && k2) = true → p0 = (x : Int) ∧ p1 = (y : Int)) := by
  subst hu
  obtain ⟨z1, S1, e1, -⟩ := sc_any x _ k1 hx rfl h1
  obtain ⟨z2, S2, e2, -⟩ := sc_any y _ k2 hy rfl h2
  have q1 : (strOfNums (be8 (x : Int))).size = 8 := by rw [strOfNums_size]; rfl
  have q2 : (strOfNums (be8 (y : Int))).size = 8 := by rw [strOfNums_size]; rfl
  have q3 : (strOfNums (be8 (x : Int)) ++ strOfNums (be8 (y : Int))).size = 16 := by rw [ByteArray.size_append, q1, q2]
  have r1 : (strOfNums (be8 (x : Int)) ++ strOfNums (be8 (y : Int))).extract 0 8 = strOfNums (be8 (x : Int)) := ByteArray.extract_append_eq_left q1.symm
  have r2 : (strOfNums (be8 (x : Int)) ++ strOfNums (be8 (y : Int))).extract 8 16 = strOfNums (be8 (y : Int)) := ByteArray.extract_append_eq_right q1.symm (by rw [q1, q2])
  refine ⟨_, _, fun w => getF_of _ _ _ z1 z2 k1 k2 w (by omega) r1 r2 (by rw [q3]; exact r2) S1 S2, fun h => ?_⟩
  rw [h]
  rw [Bool.and_eq_true] at h
  exact ⟨e1 h.1, e2 h.2⟩
theorem msgsW (q : Option Addr) (len cap : Nat) (w : World) (hv : Cod w (.slice q len cap)) (hl : len ≤ 1048576) :
    Calls Tryz.prog 3 #[.slice q len cap] w fun e w' => e = .returned (.bool true) ∧ Below w.heap.size w w' := by
  have hli : ¬ ((1048576 : Int) < (len : Int)) := by omega
  go_enter Tryz.func3, Tryz.ntmps3
  go_wp2_with fail
  refine (dpm _ _ hv).mono ?_
  rintro e w1 ⟨⟨m, hm, rfl⟩, hB⟩
  simp only [msgL]
  have h3 := Bk.new w1 27 #[.int .i64 m.kind, .string m.user, .int .u64 (m.el.1 : Int), .int .u64 (m.el.2.1 : Int), .bool m.el.2.2, .int .u64 (m.ot.1 : Int), .int .u64 (m.ot.2.1 : Int), .bool m.ot.2.2, .string m.nonce, .string m.box, .string m.mac, .int .i64 m.code]
  replace hB := hB.alloc hB.size (Obj.cells #[.int .i64 m.kind, .string m.user, .int .u64 (m.el.1 : Int), .int .u64 (m.el.2.1 : Int), .bool m.el.2.2, .int .u64 (m.ot.1 : Int), .int .u64 (m.ot.2.1 : Int), .bool m.ot.2.2, .string m.nonce, .string m.box, .string m.mac, .int .i64 m.code] 27)
  obtain ⟨W2, eW2⟩ : ∃ W, w1.alloc (Obj.cells #[.int .i64 m.kind, .string m.user, .int .u64 (m.el.1 : Int), .int .u64 (m.el.2.1 : Int), .bool m.el.2.2, .int .u64 (m.ot.1 : Int), .int .u64 (m.ot.2.1 : Int), .bool m.ot.2.2, .string m.nonce, .string m.box, .string m.mac, .int .i64 m.code] 27) = W := ⟨_, rfl⟩
  rw [eW2] at h3 hB
  obtain ⟨b3, qb3⟩ : ∃ b, w1.heap.size = b := ⟨_, rfl⟩
  rw [qb3] at h3
  have c0 : W2.cell? ⟨b3, 0, none⟩ = some (.int .i64 m.kind) := h3.cell (k := 0) rfl
  have c1 : W2.cell? ⟨b3, 1, none⟩ = some (.string m.user) := h3.cell (k := 1) rfl
  have c2 : W2.cell? ⟨b3, 2, none⟩ = some (.int .u64 (m.el.1 : Int)) := h3.cell (k := 2) rfl
  have c3 : W2.cell? ⟨b3, 3, none⟩ = some (.int .u64 (m.el.2.1 : Int)) := h3.cell (k := 3) rfl
  have c4 : W2.cell? ⟨b3, 4, none⟩ = some (.bool m.el.2.2) := h3.cell (k := 4) rfl
  have c5 : W2.cell? ⟨b3, 5, none⟩ = some (.int .u64 (m.ot.1 : Int)) := h3.cell (k := 5) rfl
  have c6 : W2.cell? ⟨b3, 6, none⟩ = some (.int .u64 (m.ot.2.1 : Int)) := h3.cell (k := 6) rfl
  have c7 : W2.cell? ⟨b3, 7, none⟩ = some (.bool m.ot.2.2) := h3.cell (k := 7) rfl
  have c8 : W2.cell? ⟨b3, 8, none⟩ = some (.string m.nonce) := h3.cell (k := 8) rfl
  have c9 : W2.cell? ⟨b3, 9, none⟩ = some (.string m.box) := h3.cell (k := 9) rfl
  have c10 : W2.cell? ⟨b3, 10, none⟩ = some (.string m.mac) := h3.cell (k := 10) rfl
  have c11 : W2.cell? ⟨b3, 11, none⟩ = some (.int .i64 m.code) := h3.cell (k := 11) rfl
  obtain ⟨s, hs⟩ : ∃ s, putM m = s := ⟨_, rfl⟩
  have hz : s.size ≤ 241 := by rw [← hs]; exact hm.put
  have P1 : ∀ w, Calls Tryz.prog 5 #[.agg #[.int .i64 m.kind, .string m.user, .int .u64 (m.el.1 : Int), .int .u64 (m.el.2.1 : Int), .bool m.el.2.2, .int .u64 (m.ot.1 : Int), .int .u64 (m.ot.2.1 : Int), .bool m.ot.2.2, .string m.nonce, .string m.box, .string m.mac, .int .i64 m.code]] w fun e w' => e = .returned (.string s) ∧ Below w.heap.size w w' := fun w => by have h := putI m w hm.fits; rw [hs] at h; exact h
  have P2 : ∀ w, Calls Tryz.prog 6 #[.agg #[.int .i64 m.kind, .string m.user, .int .u64 (m.el.1 : Int), .int .u64 (m.el.2.1 : Int), .bool m.el.2.2, .int .u64 (m.ot.1 : Int), .int .u64 (m.ot.2.1 : Int), .bool m.ot.2.2, .string m.nonce, .string m.box, .string m.mac, .int .i64 m.code]] w fun e w' => e = .returned (.string s) ∧ Below w.heap.size w w' := fun w => by have h := pmS m w hm.fits; rw [hs] at h; exact h
  replace hs : Hid (putM m = s) := hs
  go_wp2_with fail
  refine (P1 _).mono ?_
  rintro e w3 ⟨rfl, d1⟩
  replace h3 := h3.keep d1
  replace hB := hB.trans (d1.mono hB.size)
  clear d1 eW2 qb3 P1 c0 c1 c2 c3 c4 c5 c6 c7 c8 c9 c10 c11
  have c0 : w3.cell? ⟨b3, 0, none⟩ = some (.int .i64 m.kind) := h3.cell (k := 0) rfl
  have c1 : w3.cell? ⟨b3, 1, none⟩ = some (.string m.user) := h3.cell (k := 1) rfl
  have c2 : w3.cell? ⟨b3, 2, none⟩ = some (.int .u64 (m.el.1 : Int)) := h3.cell (k := 2) rfl
  have c3 : w3.cell? ⟨b3, 3, none⟩ = some (.int .u64 (m.el.2.1 : Int)) := h3.cell (k := 3) rfl
  have c4 : w3.cell? ⟨b3, 4, none⟩ = some (.bool m.el.2.2) := h3.cell (k := 4) rfl
  have c5 : w3.cell? ⟨b3, 5, none⟩ = some (.int .u64 (m.ot.1 : Int)) := h3.cell (k := 5) rfl
  have c6 : w3.cell? ⟨b3, 6, none⟩ = some (.int .u64 (m.ot.2.1 : Int)) := h3.cell (k := 6) rfl
  have c7 : w3.cell? ⟨b3, 7, none⟩ = some (.bool m.ot.2.2) := h3.cell (k := 7) rfl
  have c8 : w3.cell? ⟨b3, 8, none⟩ = some (.string m.nonce) := h3.cell (k := 8) rfl
  have c9 : w3.cell? ⟨b3, 9, none⟩ = some (.string m.box) := h3.cell (k := 9) rfl
  have c10 : w3.cell? ⟨b3, 10, none⟩ = some (.string m.mac) := h3.cell (k := 10) rfl
  have c11 : w3.cell? ⟨b3, 11, none⟩ = some (.int .i64 m.code) := h3.cell (k := 11) rfl
  go_wp2_with fail
  refine (P2 _).mono ?_
  rintro e w4 ⟨rfl, d1⟩
  replace h3 := h3.keep d1
  replace hB := hB.trans (d1.mono hB.size)
  clear d1 P2 c0 c1 c2 c3 c4 c5 c6 c7 c8 c9 c10 c11
  by_cases hs0 : 0 < s.size
  focus
    have hsi : (0 : Int) < (s.size : Int) := by omega
    have hok : okM m = true := by
      cases hk : okM m with
      | true => rfl
      | false =>
        have h1 := hs.out
        unfold putM at h1
        rw [hk, if_neg (by decide)] at h1
        rw [← h1] at hs0
        exact absurd hs0 (by decide)
    have G : ∀ w, Calls Tryz.prog 7 #[.string s] w fun e w' => e = .returned (.tuple #[.agg #[.int .i64 m.kind, .string m.user, .int .u64 (m.el.1 : Int), .int .u64 (m.el.2.1 : Int), .bool m.el.2.2, .int .u64 (m.ot.1 : Int), .int .u64 (m.ot.2.1 : Int), .bool m.ot.2.2, .string m.nonce, .string m.box, .string m.mac, .int .i64 m.code], .bool true]) ∧ Below w.heap.size w w' := fun w => by
      have h := getI s w (Nat.le_trans hz (by decide))
      have h2 := getM_put hok
      rw [hs.out] at h2
      rw [h2] at h
      exact h
    have hqq : ∀ w, (Go.binOp .neq 27 (.agg #[.int .i64 m.kind, .string m.user, .int .u64 (m.el.1 : Int), .int .u64 (m.el.2.1 : Int), .bool m.el.2.2, .int .u64 (m.ot.1 : Int), .int .u64 (m.ot.2.1 : Int), .bool m.ot.2.2, .string m.nonce, .string m.box, .string m.mac, .int .i64 m.code]) (.agg #[.int .i64 m.kind, .string m.user, .int .u64 (m.el.1 : Int), .int .u64 (m.el.2.1 : Int), .bool m.el.2.2, .int .u64 (m.ot.1 : Int), .int .u64 (m.ot.2.1 : Int), .bool m.ot.2.2, .string m.nonce, .string m.box, .string m.mac, .int .i64 m.code])).run Tryz.prog w = .ok (.bool false) w := fun w => (neqM m m w).trans (by rw [decide_eq_true rfl]; rfl)
    go_wp2_with fail
    refine (G _).mono ?_
    rintro e w5 ⟨rfl, d1⟩
    replace h3 := h3.keep d1
    replace hB := hB.trans (d1.mono hB.size)
    clear d1 G hok
    have h5 := Bk.new w5 27 #[.int .i64 m.kind, .string m.user, .int .u64 (m.el.1 : Int), .int .u64 (m.el.2.1 : Int), .bool m.el.2.2, .int .u64 (m.ot.1 : Int), .int .u64 (m.ot.2.1 : Int), .bool m.ot.2.2, .string m.nonce, .string m.box, .string m.mac, .int .i64 m.code]
    replace h3 := h3.alloc (Obj.cells #[.int .i64 m.kind, .string m.user, .int .u64 (m.el.1 : Int), .int .u64 (m.el.2.1 : Int), .bool m.el.2.2, .int .u64 (m.ot.1 : Int), .int .u64 (m.ot.2.1 : Int), .bool m.ot.2.2, .string m.nonce, .string m.box, .string m.mac, .int .i64 m.code] 27)
    replace hB := hB.alloc hB.size (Obj.cells #[.int .i64 m.kind, .string m.user, .int .u64 (m.el.1 : Int), .int .u64 (m.el.2.1 : Int), .bool m.el.2.2, .int .u64 (m.ot.1 : Int), .int .u64 (m.ot.2.1 : Int), .bool m.ot.2.2, .string m.nonce, .string m.box, .string m.mac, .int .i64 m.code] 27)
    obtain ⟨W6, eW6⟩ : ∃ W, w5.alloc (Obj.cells #[.int .i64 m.kind, .string m.user, .int .u64 (m.el.1 : Int), .int .u64 (m.el.2.1 : Int), .bool m.el.2.2, .int .u64 (m.ot.1 : Int), .int .u64 (m.ot.2.1 : Int), .bool m.ot.2.2, .string m.nonce, .string m.box, .string m.mac, .int .i64 m.code] 27) = W := ⟨_, rfl⟩
    rw [eW6] at h5 h3 hB
    obtain ⟨b5, qb5⟩ : ∃ b, w5.heap.size = b := ⟨_, rfl⟩
    rw [qb5] at h5
    have c0 : W6.cell? ⟨b3, 0, none⟩ = some (.int .i64 m.kind) := h3.cell (k := 0) rfl
    have c1 : W6.cell? ⟨b3, 1, none⟩ = some (.string m.user) := h3.cell (k := 1) rfl
    have c2 : W6.cell? ⟨b3, 2, none⟩ = some (.int .u64 (m.el.1 : Int)) := h3.cell (k := 2) rfl
    have c3 : W6.cell? ⟨b3, 3, none⟩ = some (.int .u64 (m.el.2.1 : Int)) := h3.cell (k := 3) rfl
    have c4 : W6.cell? ⟨b3, 4, none⟩ = some (.bool m.el.2.2) := h3.cell (k := 4) rfl
    have c5 : W6.cell? ⟨b3, 5, none⟩ = some (.int .u64 (m.ot.1 : Int)) := h3.cell (k := 5) rfl
    have c6 : W6.cell? ⟨b3, 6, none⟩ = some (.int .u64 (m.ot.2.1 : Int)) := h3.cell (k := 6) rfl
    have c7 : W6.cell? ⟨b3, 7, none⟩ = some (.bool m.ot.2.2) := h3.cell (k := 7) rfl
    have c8 : W6.cell? ⟨b3, 8, none⟩ = some (.string m.nonce) := h3.cell (k := 8) rfl
    have c9 : W6.cell? ⟨b3, 9, none⟩ = some (.string m.box) := h3.cell (k := 9) rfl
    have c10 : W6.cell? ⟨b3, 10, none⟩ = some (.string m.mac) := h3.cell (k := 10) rfl
    have c11 : W6.cell? ⟨b3, 11, none⟩ = some (.int .i64 m.code) := h3.cell (k := 11) rfl
    have g0 : W6.cell? ⟨b5, 0, none⟩ = some (.int .i64 m.kind) := h5.cell (k := 0) rfl
    have g1 : W6.cell? ⟨b5, 1, none⟩ = some (.string m.user) := h5.cell (k := 1) rfl
    have g2 : W6.cell? ⟨b5, 2, none⟩ = some (.int .u64 (m.el.1 : Int)) := h5.cell (k := 2) rfl
    have g3 : W6.cell? ⟨b5, 3, none⟩ = some (.int .u64 (m.el.2.1 : Int)) := h5.cell (k := 3) rfl
    have g4 : W6.cell? ⟨b5, 4, none⟩ = some (.bool m.el.2.2) := h5.cell (k := 4) rfl
    have g5 : W6.cell? ⟨b5, 5, none⟩ = some (.int .u64 (m.ot.1 : Int)) := h5.cell (k := 5) rfl
    have g6 : W6.cell? ⟨b5, 6, none⟩ = some (.int .u64 (m.ot.2.1 : Int)) := h5.cell (k := 6) rfl
    have g7 : W6.cell? ⟨b5, 7, none⟩ = some (.bool m.ot.2.2) := h5.cell (k := 7) rfl
    have g8 : W6.cell? ⟨b5, 8, none⟩ = some (.string m.nonce) := h5.cell (k := 8) rfl
    have g9 : W6.cell? ⟨b5, 9, none⟩ = some (.string m.box) := h5.cell (k := 9) rfl
    have g10 : W6.cell? ⟨b5, 10, none⟩ = some (.string m.mac) := h5.cell (k := 10) rfl
    have g11 : W6.cell? ⟨b5, 11, none⟩ = some (.int .i64 m.code) := h5.cell (k := 11) rfl
    go_wp2_with fail
    clear eW6 qb5 h5 h3 hqq hsi c0 c1 c2 c3 c4 c5 c6 c7 c8 c9 c10 c11 g0 g1 g2 g3 g4 g5 g6 g7 g8 g9 g10 g11
  rotate_left
  focus
    have hsi : ¬ ((0 : Int) < (s.size : Int)) := by omega
    go_wp2_with fail
    clear h3 hsi
  all_goals
    clear hs hz hs0 hm
    refine (dgm _ _ (hv.below hB)).mono ?_
    rintro e w7 ⟨⟨t, ht, rfl⟩, d1⟩
    replace hB := hB.trans (d1.mono hB.size)
    clear d1
    obtain ⟨g, hg⟩ : ∃ g, (getM t).getD { kind := 0 } = g := ⟨_, rfl⟩
    obtain ⟨gb, hgb⟩ : ∃ gb, (getM t).isSome = gb := ⟨_, rfl⟩
    have G1 : ∀ w, Calls Tryz.prog 9 #[.string t] w fun e w' => e = .returned (.tuple #[.agg #[.int .i64 g.kind, .string g.user, .int .u64 (g.el.1 : Int), .int .u64 (g.el.2.1 : Int), .bool g.el.2.2, .int .u64 (g.ot.1 : Int), .int .u64 (g.ot.2.1 : Int), .bool g.ot.2.2, .string g.nonce, .string g.box, .string g.mac, .int .i64 g.code], .bool gb]) ∧ Below w.heap.size w w' := fun w => by have h := gmS t w (by omega); rw [hg, hgb] at h; exact h
    have G2 : ∀ w, Calls Tryz.prog 7 #[.string t] w fun e w' => e = .returned (.tuple #[.agg #[.int .i64 g.kind, .string g.user, .int .u64 (g.el.1 : Int), .int .u64 (g.el.2.1 : Int), .bool g.el.2.2, .int .u64 (g.ot.1 : Int), .int .u64 (g.ot.2.1 : Int), .bool g.ot.2.2, .string g.nonce, .string g.box, .string g.mac, .int .i64 g.code], .bool gb]) ∧ Below w.heap.size w w' := fun w => by have h := getI t w (Nat.le_trans ht (by decide)); rw [hg, hgb] at h; exact h
    have hqq : ∀ w, (Go.binOp .neq 27 (.agg #[.int .i64 g.kind, .string g.user, .int .u64 (g.el.1 : Int), .int .u64 (g.el.2.1 : Int), .bool g.el.2.2, .int .u64 (g.ot.1 : Int), .int .u64 (g.ot.2.1 : Int), .bool g.ot.2.2, .string g.nonce, .string g.box, .string g.mac, .int .i64 g.code]) (.agg #[.int .i64 g.kind, .string g.user, .int .u64 (g.el.1 : Int), .int .u64 (g.el.2.1 : Int), .bool g.el.2.2, .int .u64 (g.ot.1 : Int), .int .u64 (g.ot.2.1 : Int), .bool g.ot.2.2, .string g.nonce, .string g.box, .string g.mac, .int .i64 g.code])).run Tryz.prog w = .ok (.bool false) w := fun w => (neqM g g w).trans (by rw [decide_eq_true rfl]; rfl)
    have P3 : Hid (gb = true → ∀ w, Calls Tryz.prog 5 #[.agg #[.int .i64 g.kind, .string g.user, .int .u64 (g.el.1 : Int), .int .u64 (g.el.2.1 : Int), .bool g.el.2.2, .int .u64 (g.ot.1 : Int), .int .u64 (g.ot.2.1 : Int), .bool g.ot.2.2, .string g.nonce, .string g.box, .string g.mac, .int .i64 g.code]] w fun e w' => e = .returned (.string t) ∧ Below w.heap.size w w') := fun hgt w => by
      rw [← hgb] at hgt
      obtain ⟨g', hg'⟩ := Option.isSome_iff_exists.1 hgt
      rw [hg'] at hg
      obtain rfl : g' = g := hg
      obtain ⟨k1, k2⟩ := putM_get hg'
      have h := putI g' w (ok_fits k1 (by rw [k2]; omega))
      rw [k2] at h
      exact h
    clear hg hgb
    go_wp2_with fail
    refine (G1 _).mono ?_
    rintro e w8 ⟨rfl, d1⟩
    replace hB := hB.trans (d1.mono hB.size)
    clear d1 G1
    have h8 := Bk.new w8 27 #[.int .i64 g.kind, .string g.user, .int .u64 (g.el.1 : Int), .int .u64 (g.el.2.1 : Int), .bool g.el.2.2, .int .u64 (g.ot.1 : Int), .int .u64 (g.ot.2.1 : Int), .bool g.ot.2.2, .string g.nonce, .string g.box, .string g.mac, .int .i64 g.code]
    replace hB := hB.alloc hB.size (Obj.cells #[.int .i64 g.kind, .string g.user, .int .u64 (g.el.1 : Int), .int .u64 (g.el.2.1 : Int), .bool g.el.2.2, .int .u64 (g.ot.1 : Int), .int .u64 (g.ot.2.1 : Int), .bool g.ot.2.2, .string g.nonce, .string g.box, .string g.mac, .int .i64 g.code] 27)
    obtain ⟨W9, eW9⟩ : ∃ W, w8.alloc (Obj.cells #[.int .i64 g.kind, .string g.user, .int .u64 (g.el.1 : Int), .int .u64 (g.el.2.1 : Int), .bool g.el.2.2, .int .u64 (g.ot.1 : Int), .int .u64 (g.ot.2.1 : Int), .bool g.ot.2.2, .string g.nonce, .string g.box, .string g.mac, .int .i64 g.code] 27) = W := ⟨_, rfl⟩
    rw [eW9] at h8 hB
    obtain ⟨b8, qb8⟩ : ∃ b, w8.heap.size = b := ⟨_, rfl⟩
    rw [qb8] at h8
    go_wp2_with fail
    refine (G2 _).mono ?_
    rintro e w10 ⟨rfl, d1⟩
    replace h8 := h8.keep d1
    replace hB := hB.trans (d1.mono hB.size)
    clear d1 G2 eW9 qb8
    have h10 := Bk.new w10 27 #[.int .i64 g.kind, .string g.user, .int .u64 (g.el.1 : Int), .int .u64 (g.el.2.1 : Int), .bool g.el.2.2, .int .u64 (g.ot.1 : Int), .int .u64 (g.ot.2.1 : Int), .bool g.ot.2.2, .string g.nonce, .string g.box, .string g.mac, .int .i64 g.code]
    replace h8 := h8.alloc (Obj.cells #[.int .i64 g.kind, .string g.user, .int .u64 (g.el.1 : Int), .int .u64 (g.el.2.1 : Int), .bool g.el.2.2, .int .u64 (g.ot.1 : Int), .int .u64 (g.ot.2.1 : Int), .bool g.ot.2.2, .string g.nonce, .string g.box, .string g.mac, .int .i64 g.code] 27)
    replace hB := hB.alloc hB.size (Obj.cells #[.int .i64 g.kind, .string g.user, .int .u64 (g.el.1 : Int), .int .u64 (g.el.2.1 : Int), .bool g.el.2.2, .int .u64 (g.ot.1 : Int), .int .u64 (g.ot.2.1 : Int), .bool g.ot.2.2, .string g.nonce, .string g.box, .string g.mac, .int .i64 g.code] 27)
    obtain ⟨W11, eW11⟩ : ∃ W, w10.alloc (Obj.cells #[.int .i64 g.kind, .string g.user, .int .u64 (g.el.1 : Int), .int .u64 (g.el.2.1 : Int), .bool g.el.2.2, .int .u64 (g.ot.1 : Int), .int .u64 (g.ot.2.1 : Int), .bool g.ot.2.2, .string g.nonce, .string g.box, .string g.mac, .int .i64 g.code] 27) = W := ⟨_, rfl⟩
    rw [eW11] at h10 h8 hB
    obtain ⟨b10, qb10⟩ : ∃ b, w10.heap.size = b := ⟨_, rfl⟩
    rw [qb10] at h10
    have c0 : W11.cell? ⟨b8, 0, none⟩ = some (.int .i64 g.kind) := h8.cell (k := 0) rfl
    have c1 : W11.cell? ⟨b8, 1, none⟩ = some (.string g.user) := h8.cell (k := 1) rfl
    have c2 : W11.cell? ⟨b8, 2, none⟩ = some (.int .u64 (g.el.1 : Int)) := h8.cell (k := 2) rfl
    have c3 : W11.cell? ⟨b8, 3, none⟩ = some (.int .u64 (g.el.2.1 : Int)) := h8.cell (k := 3) rfl
    have c4 : W11.cell? ⟨b8, 4, none⟩ = some (.bool g.el.2.2) := h8.cell (k := 4) rfl
    have c5 : W11.cell? ⟨b8, 5, none⟩ = some (.int .u64 (g.ot.1 : Int)) := h8.cell (k := 5) rfl
    have c6 : W11.cell? ⟨b8, 6, none⟩ = some (.int .u64 (g.ot.2.1 : Int)) := h8.cell (k := 6) rfl
    have c7 : W11.cell? ⟨b8, 7, none⟩ = some (.bool g.ot.2.2) := h8.cell (k := 7) rfl
    have c8 : W11.cell? ⟨b8, 8, none⟩ = some (.string g.nonce) := h8.cell (k := 8) rfl
    have c9 : W11.cell? ⟨b8, 9, none⟩ = some (.string g.box) := h8.cell (k := 9) rfl
    have c10 : W11.cell? ⟨b8, 10, none⟩ = some (.string g.mac) := h8.cell (k := 10) rfl
    have c11 : W11.cell? ⟨b8, 11, none⟩ = some (.int .i64 g.code) := h8.cell (k := 11) rfl
    have g0 : W11.cell? ⟨b10, 0, none⟩ = some (.int .i64 g.kind) := h10.cell (k := 0) rfl
    have g1 : W11.cell? ⟨b10, 1, none⟩ = some (.string g.user) := h10.cell (k := 1) rfl
    have g2 : W11.cell? ⟨b10, 2, none⟩ = some (.int .u64 (g.el.1 : Int)) := h10.cell (k := 2) rfl
    have g3 : W11.cell? ⟨b10, 3, none⟩ = some (.int .u64 (g.el.2.1 : Int)) := h10.cell (k := 3) rfl
    have g4 : W11.cell? ⟨b10, 4, none⟩ = some (.bool g.el.2.2) := h10.cell (k := 4) rfl
    have g5 : W11.cell? ⟨b10, 5, none⟩ = some (.int .u64 (g.ot.1 : Int)) := h10.cell (k := 5) rfl
    have g6 : W11.cell? ⟨b10, 6, none⟩ = some (.int .u64 (g.ot.2.1 : Int)) := h10.cell (k := 6) rfl
    have g7 : W11.cell? ⟨b10, 7, none⟩ = some (.bool g.ot.2.2) := h10.cell (k := 7) rfl
    have g8 : W11.cell? ⟨b10, 8, none⟩ = some (.string g.nonce) := h10.cell (k := 8) rfl
    have g9 : W11.cell? ⟨b10, 9, none⟩ = some (.string g.box) := h10.cell (k := 9) rfl
    have g10 : W11.cell? ⟨b10, 10, none⟩ = some (.string g.mac) := h10.cell (k := 10) rfl
    have g11 : W11.cell? ⟨b10, 11, none⟩ = some (.int .i64 g.code) := h10.cell (k := 11) rfl
    cases gb with
    | true =>
      have P4 := P3.out rfl
      clear P3
      go_wp2_with fail
      refine (P4 _).mono ?_
      rintro e w12 ⟨rfl, d1⟩
      replace hB := hB.trans (d1.mono hB.size)
      clear d1 P4 hqq eW11 qb10 h8 h10 c0 c1 c2 c3 c4 c5 c6 c7 c8 c9 c10 c11 g0 g1 g2 g3 g4 g5 g6 g7 g8 g9 g10 g11
      go_wp2_with fail
      refine (dpp _ _ (hv.below hB)).mono ?_
      rintro e w13 ⟨⟨x, y, hx, hy, rfl⟩, d1⟩
      replace hB := hB.trans (d1.mono hB.size)
      clear d1
      have h12 := Bk.new w13 34 #[.int .u64 (x : Int), .int .u64 (y : Int)]
      replace hB := hB.alloc hB.size (Obj.cells #[.int .u64 (x : Int), .int .u64 (y : Int)] 34)
      obtain ⟨W14, eW14⟩ : ∃ W, w13.alloc (Obj.cells #[.int .u64 (x : Int), .int .u64 (y : Int)] 34) = W := ⟨_, rfl⟩
      rw [eW14] at h12 hB
      obtain ⟨b12, qb12⟩ : ∃ b, w13.heap.size = b := ⟨_, rfl⟩
      rw [qb12] at h12
      have c0 : W14.cell? ⟨b12, 0, none⟩ = some (.int .u64 (x : Int)) := h12.cell (k := 0) rfl
      have c1 : W14.cell? ⟨b12, 1, none⟩ = some (.int .u64 (y : Int)) := h12.cell (k := 1) rfl
      obtain ⟨u, hu⟩ : ∃ u, strOfNums (be8 (x : Int)) ++ strOfNums (be8 (y : Int)) = u := ⟨_, rfl⟩
      have F1 : ∀ w, Calls Tryz.prog 12 #[.agg #[.int .u64 (x : Int), .int .u64 (y : Int)]] w fun e w' => e = .returned (.string u) ∧ Below w.heap.size w w' := fun w => by have h := putF_any x y w hx hy; rw [hu] at h; exact h
      obtain ⟨k1, hk1⟩ : ∃ k1 : Bool, decide (x < 2305843010818082053) = k1 := ⟨_, rfl⟩
      obtain ⟨k2, hk2⟩ : ∃ k2 : Bool, decide (y < 2305843010818082053) = k2 := ⟨_, rfl⟩
      obtain ⟨p0, p1, F2, F3⟩ := gp_any x y u k1 k2 hx hy hu hk1 hk2
      have g1 : decide ((x : Int) < 2305843010818082053) = k1 := lessN x k1 hk1
      have g2 : decide ((y : Int) < 2305843010818082053) = k2 := lessN y k2 hk2
      clear hk1 hk2 hu hx hy
      generalize (x : Int) = X at *
      generalize (y : Int) = Y at *
      go_wp2_with fail
      refine (F1 _).mono ?_
      rintro e w15 ⟨rfl, d1⟩
      replace h12 := h12.keep d1
      replace hB := hB.trans (d1.mono hB.size)
      clear d1 F1 eW14 qb12 c0 c1
      go_wp2_with fail
      refine (F2 _).mono ?_
      rintro e w16 ⟨rfl, d1⟩
      replace h12 := h12.keep d1
      replace hB := hB.trans (d1.mono hB.size)
      clear d1 F2
      have h13 := Bk.new w16 34 #[.int .u64 p0, .int .u64 p1]
      replace h12 := h12.alloc (Obj.cells #[.int .u64 p0, .int .u64 p1] 34)
      replace hB := hB.alloc hB.size (Obj.cells #[.int .u64 p0, .int .u64 p1] 34)
      obtain ⟨W17, eW17⟩ : ∃ W, w16.alloc (Obj.cells #[.int .u64 p0, .int .u64 p1] 34) = W := ⟨_, rfl⟩
      rw [eW17] at h13 h12 hB
      obtain ⟨b13, qb13⟩ : ∃ b, w16.heap.size = b := ⟨_, rfl⟩
      rw [qb13] at h13
      have c0 : W17.cell? ⟨b12, 0, none⟩ = some (.int .u64 X) := h12.cell (k := 0) rfl
      have c1 : W17.cell? ⟨b12, 1, none⟩ = some (.int .u64 Y) := h12.cell (k := 1) rfl
      have g0 : W17.cell? ⟨b13, 0, none⟩ = some (.int .u64 p0) := h13.cell (k := 0) rfl
      have g1 : W17.cell? ⟨b13, 1, none⟩ = some (.int .u64 p1) := h13.cell (k := 1) rfl
      cases k1 <;> cases k2
      all_goals
        try (obtain ⟨e0, e1⟩ := F3 rfl; subst e0 e1)
        try clear F3
        go_wp2_with fail
        clear eW17 qb13 h12 h13 c0 c1 g0 g1
        refine (dpw _ _ (hv.below hB)).mono ?_
        rintro e w18 ⟨⟨n, hn, rfl⟩, d1⟩
        replace hB := hB.trans (d1.mono hB.size)
        clear d1
        obtain ⟨u2, hu2⟩ : ∃ u, strOfNums (be8 (n : Int)) = u := ⟨_, rfl⟩
        have F4 : ∀ w, Calls Tryz.prog 15 #[.int .u64 (n : Int)] w fun e w' => e = .returned (.string u2) ∧ Below w.heap.size w w' := fun w => by have h := putI_any n w hn; rw [hu2] at h; exact h
        obtain ⟨k3, hk3⟩ : ∃ k3 : Bool, decide (n < 2305843010818082053) = k3 := ⟨_, rfl⟩
        obtain ⟨z, F5, F6, F7⟩ := sc_any n u2 k3 hn hu2 hk3
        have g3 : decide ((n : Int) < 2305843010818082053) = k3 := lessN n k3 hk3
        clear hk3 hu2 hn
        generalize (n : Int) = Nn at *
        go_wp2_with fail
        refine (F4 _).mono ?_
        rintro e w19 ⟨rfl, d1⟩
        replace hB := hB.trans (d1.mono hB.size)
        clear d1 F4
        go_wp2_with fail
        refine (F5 _).mono ?_
        rintro e w20 ⟨rfl, d1⟩
        replace hB := hB.trans (d1.mono hB.size)
        clear d1 F5
        cases k3
        all_goals
          try (obtain rfl := F6 rfl)
          try (obtain rfl := F7 rfl)
          clear F6 F7
          go_wp2
          all_goals
            go_ret
            exact ⟨rfl, hB⟩
    | false =>
      clear P3
      go_wp2_with fail
      clear hqq eW11 qb10 h8 h10 c0 c1 c2 c3 c4 c5 c6 c7 c8 c9 c10 c11 g0 g1 g2 g3 g4 g5 g6 g7 g8 g9 g10 g11
      go_wp2_with fail
      refine (dpp _ _ (hv.below hB)).mono ?_
      rintro e w13 ⟨⟨x, y, hx, hy, rfl⟩, d1⟩
      replace hB := hB.trans (d1.mono hB.size)
      clear d1
      have h12 := Bk.new w13 34 #[.int .u64 (x : Int), .int .u64 (y : Int)]
      replace hB := hB.alloc hB.size (Obj.cells #[.int .u64 (x : Int), .int .u64 (y : Int)] 34)
      obtain ⟨W14, eW14⟩ : ∃ W, w13.alloc (Obj.cells #[.int .u64 (x : Int), .int .u64 (y : Int)] 34) = W := ⟨_, rfl⟩
      rw [eW14] at h12 hB
      obtain ⟨b12, qb12⟩ : ∃ b, w13.heap.size = b := ⟨_, rfl⟩
      rw [qb12] at h12
      have c0 : W14.cell? ⟨b12, 0, none⟩ = some (.int .u64 (x : Int)) := h12.cell (k := 0) rfl
      have c1 : W14.cell? ⟨b12, 1, none⟩ = some (.int .u64 (y : Int)) := h12.cell (k := 1) rfl
      obtain ⟨u, hu⟩ : ∃ u, strOfNums (be8 (x : Int)) ++ strOfNums (be8 (y : Int)) = u := ⟨_, rfl⟩
      have F1 : ∀ w, Calls Tryz.prog 12 #[.agg #[.int .u64 (x : Int), .int .u64 (y : Int)]] w fun e w' => e = .returned (.string u) ∧ Below w.heap.size w w' := fun w => by have h := putF_any x y w hx hy; rw [hu] at h; exact h
      obtain ⟨k1, hk1⟩ : ∃ k1 : Bool, decide (x < 2305843010818082053) = k1 := ⟨_, rfl⟩
      obtain ⟨k2, hk2⟩ : ∃ k2 : Bool, decide (y < 2305843010818082053) = k2 := ⟨_, rfl⟩
      obtain ⟨p0, p1, F2, F3⟩ := gp_any x y u k1 k2 hx hy hu hk1 hk2
      have g1 : decide ((x : Int) < 2305843010818082053) = k1 := lessN x k1 hk1
      have g2 : decide ((y : Int) < 2305843010818082053) = k2 := lessN y k2 hk2
      clear hk1 hk2 hu hx hy
      generalize (x : Int) = X at *
      generalize (y : Int) = Y at *
      go_wp2_with fail
      refine (F1 _).mono ?_
      rintro e w15 ⟨rfl, d1⟩
      replace h12 := h12.keep d1
      replace hB := hB.trans (d1.mono hB.size)
      clear d1 F1 eW14 qb12 c0 c1
      go_wp2_with fail
      refine (F2 _).mono ?_
      rintro e w16 ⟨rfl, d1⟩
      replace h12 := h12.keep d1
      replace hB := hB.trans (d1.mono hB.size)
      clear d1 F2
      have h13 := Bk.new w16 34 #[.int .u64 p0, .int .u64 p1]
      replace h12 := h12.alloc (Obj.cells #[.int .u64 p0, .int .u64 p1] 34)
      replace hB := hB.alloc hB.size (Obj.cells #[.int .u64 p0, .int .u64 p1] 34)
      obtain ⟨W17, eW17⟩ : ∃ W, w16.alloc (Obj.cells #[.int .u64 p0, .int .u64 p1] 34) = W := ⟨_, rfl⟩
      rw [eW17] at h13 h12 hB
      obtain ⟨b13, qb13⟩ : ∃ b, w16.heap.size = b := ⟨_, rfl⟩
      rw [qb13] at h13
      have c0 : W17.cell? ⟨b12, 0, none⟩ = some (.int .u64 X) := h12.cell (k := 0) rfl
      have c1 : W17.cell? ⟨b12, 1, none⟩ = some (.int .u64 Y) := h12.cell (k := 1) rfl
      have g0 : W17.cell? ⟨b13, 0, none⟩ = some (.int .u64 p0) := h13.cell (k := 0) rfl
      have g1 : W17.cell? ⟨b13, 1, none⟩ = some (.int .u64 p1) := h13.cell (k := 1) rfl
      cases k1 <;> cases k2
      all_goals
        try (obtain ⟨e0, e1⟩ := F3 rfl; subst e0 e1)
        try clear F3
        go_wp2_with fail
        clear eW17 qb13 h12 h13 c0 c1 g0 g1
        refine (dpw _ _ (hv.below hB)).mono ?_
        rintro e w18 ⟨⟨n, hn, rfl⟩, d1⟩
        replace hB := hB.trans (d1.mono hB.size)
        clear d1
        obtain ⟨u2, hu2⟩ : ∃ u, strOfNums (be8 (n : Int)) = u := ⟨_, rfl⟩
        have F4 : ∀ w, Calls Tryz.prog 15 #[.int .u64 (n : Int)] w fun e w' => e = .returned (.string u2) ∧ Below w.heap.size w w' := fun w => by have h := putI_any n w hn; rw [hu2] at h; exact h
        obtain ⟨k3, hk3⟩ : ∃ k3 : Bool, decide (n < 2305843010818082053) = k3 := ⟨_, rfl⟩
        obtain ⟨z, F5, F6, F7⟩ := sc_any n u2 k3 hn hu2 hk3
        have g3 : decide ((n : Int) < 2305843010818082053) = k3 := lessN n k3 hk3
        clear hk3 hu2 hn
        generalize (n : Int) = Nn at *
        go_wp2_with fail
        refine (F4 _).mono ?_
        rintro e w19 ⟨rfl, d1⟩
        replace hB := hB.trans (d1.mono hB.size)
        clear d1 F4
        go_wp2_with fail
        refine (F5 _).mono ?_
        rintro e w20 ⟨rfl, d1⟩
        replace hB := hB.trans (d1.mono hB.size)
        clear d1 F5
        cases k3
        all_goals
          try (obtain rfl := F6 rfl)
          try (obtain rfl := F7 rfl)
          clear F6 F7
          go_wp2
          all_goals
            go_ret
            exact ⟨rfl, hB⟩
end Go.Proofs.YtdaobioomoajfaaGreat
namespace Go.Proofs.YtdaobioomoajfaaGreat
open Go.ChangeShapes Go.WideShapes Go.ChangeAt Go.RowKit
theorem cellsU8 : Tryz.prog.cellsOf 5 = 1 := by kernel_rfl
theorem cod_of {H : Type} {enc : TypeId × Value → H} {W : World} {a0 : Option Addr} {len cap : Nat} {d0 : DataW H} {p : List MemPlace}
    (h0 : DataW.Trod enc Tryz.prog W 0 (fun _ => true) true 22 (.slice a0 len cap) d0 p) (hl : len ≤ 1048576) : Cod W (.slice a0 len cap) := by
  obtain ⟨fuel, hf⟩ := h0
  rcases open_ints Tryz.underlying22 Tryz.underlying5 cellsU8 hf with ⟨hcs, hx⟩ | ⟨a, len', cap', zs, hcs, _, hl', hm, hz, hx, hcell, hwz⟩
  · simp [Value.cells] at hcs
    obtain ⟨rfl, rfl, rfl⟩ := hcs
    exact .inl ⟨_, _, rfl⟩
  · simp [Value.cells] at hcs
    obtain ⟨rfl, rfl, rfl⟩ := hcs
    simp only [if_true] at hz
    by_cases h1 : len = 0
    · subst h1; exact .inl ⟨_, _, rfl⟩
    · have hsp : a.spot = none := by
        have := hcell 0 (by omega)
        simp only [Addr.add, if_true] at this
        unfold World.cell? at this
        split at this
        · split at this
          · cases this
          · rename_i h; simpa using h
        · cases this
      obtain ⟨b, o, sp⟩ := a
      obtain rfl : sp = none := hsp
      refine .inr ⟨b, o, len, cap, by omega, hl, rfl, fun i hi => ?_⟩
      have hc := hcell i (by omega)
      have ha : (⟨b, o, none⟩ : Addr).add i = ⟨b, o + i, none⟩ := by unfold Addr.add; split <;> simp_all
      rw [ha] at hc
      have hw := hwz (zs.getD i 0) (by rw [List.getD_eq_getElem?_getD, List.getElem?_eq_getElem (by omega)]; exact List.getElem_mem _)
      have h2 : 0 ≤ zs.getD i 0 ∧ zs.getD i 0 ≤ 255 := by simpa [Lit.wf, IntKind.min, IntKind.max, IntKind.signed, IntKind.bits] using hw
      exact ⟨(zs.getD i 0).toNat, by omega, by rw [hc]; congr 2; omega⟩
end Go.Proofs.YtdaobioomoajfaaGreat
