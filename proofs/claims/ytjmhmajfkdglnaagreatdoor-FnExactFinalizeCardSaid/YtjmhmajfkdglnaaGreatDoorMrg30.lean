import Derived.Test.YtjmhmajfkdglnaaGreatDoorProg
import Derived.Test.YtjmhmajfkdglnaaGreatDoorMrg0
import Derived.Test.YtjmhmajfkdglnaaGreatDoorMrg20
import Derived.Test.YtjmhmajfkdglnaaGreatDoorMrg25
import Derived.Test.YtjmhmajfkdglnaaGreatDoorMrg15
import Derived.Test.YtjmhmajfkdglnaaGreatDoorMrg7
set_option linter.unusedVariables false
set_option maxRecDepth 100000
set_option maxHeartbeats 16000000
namespace Go.Proofs.YtjmhmajfkdglnaaGreatDoor
open Go.RowKit
theorem modS_yes (mode : Int) (w : World) (h1 : 0 ≤ mode) (h2 : mode ≤ 2) :
    Calls Tryz.prog 69 #[.int .i64 mode] w fun e w' => e = .returned (.bool true) ∧ w = w' := by
  go_enter Tryz.func69, Tryz.ntmps69
  go_wp2
  go_ret
  exact ⟨rfl, rfl⟩
theorem modS_no (mode : Int) (w : World) (h : ¬ (0 ≤ mode ∧ mode ≤ 2)) :
    Calls Tryz.prog 69 #[.int .i64 mode] w fun e w' => e = .returned (.bool false) ∧ w = w' := by
  by_cases h1 : 0 ≤ mode
  · have h2 : ¬ mode ≤ 2 := fun h' => h ⟨h1, h'⟩
    clear h
    go_enter Tryz.func69, Tryz.ntmps69
    go_wp2
    go_ret
    exact ⟨rfl, rfl⟩
  · clear h
    go_enter Tryz.func69, Tryz.ntmps69
    go_wp2
    go_ret
    exact ⟨rfl, rfl⟩
end Go.Proofs.YtjmhmajfkdglnaaGreatDoor
namespace Go.Proofs.YtjmhmajfkdglnaaGreatDoor
open Go.RowKit M
theorem tiS_tri (k : Nat) (t : Tri) (w : World) (hk : k < 18446744073709551616) : Calls Tryz.prog 37 #[.int .u64 (k : Int), .agg #[.int .u64 (t.1 : Int), .int .u64 (t.2.1 : Int), .bool t.2.2]] w fun e w' => e = .returned (.agg #[.int .u64 (px (nt k (asT t))), .int .u64 (py (nt k (asT t))), .bool (pb (nt k (asT t)))]) ∧ Below w.heap.size w w' := by
  have := timS_any k t.1 t.2.1 t.2.2 w hk
  rwa [ptW_eq] at this
theorem pt_nat {p : Pt} (hp : on p) : ∃ t : Tri, asT t = p ∧ px p = (t.1 : Int) ∧ py p = (t.2.1 : Int) ∧ pb p = t.2.2 ∧ onT t = true := by
  rcases p with _ | ⟨X, Y⟩
  · refine ⟨(0, 0, true), ?_, rfl, rfl, rfl, ?_⟩
    · unfold asT asPt toPt; rw [if_pos rfl]; rfl
    · unfold onT toPt; rw [if_pos rfl]; rfl
  · have h := toPt_self hp
    refine ⟨(X.val, Y.val, false), asPt_some h, rfl, rfl, rfl, ?_⟩
    unfold onT; rw [h]; rfl
theorem puS_pt {p : Pt} (hp : on p) (w : World) : Calls Tryz.prog 75 #[.agg #[.int .u64 (px p), .int .u64 (py p), .bool (pb p)]] w fun e w' => e = .returned (.string (ptB p)) ∧ Below w.heap.size w w' := by
  obtain ⟨t, h1, h2, h3, h4, -⟩ := pt_nat hp
  rw [h2, h3, h4, ← h1]
  exact putS_any t.1 t.2.1 t.2.2 w
theorem tiS_pt {p : Pt} (hp : on p) (k : Nat) (hk : k < 18446744073709551616) (w : World) : Calls Tryz.prog 37 #[.int .u64 (k : Int), .agg #[.int .u64 (px p), .int .u64 (py p), .bool (pb p)]] w fun e w' => e = .returned (.agg #[.int .u64 (px (nt k p)), .int .u64 (py (nt k p)), .bool (pb (nt k p))]) ∧ Below w.heap.size w w' := by
  obtain ⟨t, h1, h2, h3, h4, -⟩ := pt_nat hp
  rw [h2, h3, h4]
  have := tiS_tri k t w hk
  rwa [h1] at this
theorem onS_tri (t : Tri) (w : World) : Calls Tryz.prog 76 #[.agg #[.int .u64 (t.1 : Int), .int .u64 (t.2.1 : Int), .bool t.2.2]] w fun e w' => e = .returned (.bool (onT t)) ∧ Below w.heap.size w w' := onS_any t.1 t.2.1 t.2.2 w
theorem keyS_any (k : Int) (n : Nat) (hn : k = n) (w : World) :
    Calls Tryz.prog 33 #[.int .u64 k] w fun e w' => e = .returned (.bool (keyB n)) ∧ w = w' := by
  by_cases h1 : 1 ≤ k
  · by_cases h2 : k < 2305843010818082053
    · rw [show keyB n = true from keyB_iff.2 (by omega)]
      clear hn
      go_enter Tryz.func33, Tryz.ntmps33
      go_wp2
      go_ret
      exact ⟨rfl, rfl⟩
    · rw [show keyB n = false from decide_eq_false (by omega)]
      clear hn
      go_enter Tryz.func33, Tryz.ntmps33
      go_wp2
      go_ret
      exact ⟨rfl, rfl⟩
  · rw [show keyB n = false from decide_eq_false (by omega)]
    clear hn
    go_enter Tryz.func33, Tryz.ntmps33
    go_wp2
    go_ret
    exact ⟨rfl, rfl⟩
theorem elS_any (t : Tri) (w : World) :
    Calls Tryz.prog 40 #[.agg #[.int .u64 (t.1 : Int), .int .u64 (t.2.1 : Int), .bool t.2.2]] w fun e w' => e = .returned (.bool (elT t)) ∧ Below w.heap.size w w' := by
  have O := onS_tri t
  unfold elT
  obtain ⟨x, y, c⟩ := t
  simp only at O ⊢
  have hr := K3.new w 28 (x : Int) (y : Int) c
  have hb := (Below.refl _ w).alloc (Nat.le_refl _) (Obj.cells #[.int .u64 (x : Int), .int .u64 (y : Int), .bool c] 28)
  generalize onT (x, y, c) = o at *
  have c0 := hr.c0
  have c1 := hr.c1
  have c2 := hr.c2
  go_enter Tryz.func40, Tryz.ntmps40
  go_wp2_with fail
  refine (O _).mono ?_
  rintro e w1 ⟨rfl, b1⟩
  replace hr := hr.keep b1
  replace hb := hb.trans (b1.mono hb.size)
  clear O b1 c0 c1 c2
  have c2 := hr.c2
  cases o
  · go_wp2
    go_ret
    exact ⟨rfl, hb⟩
  · go_wp2
    go_ret
    exact ⟨rfl, hb⟩
theorem txtS_any (mode : Int) (a b : ByteArray) (w : World) :
    Calls Tryz.prog 32 #[.int .i64 mode, .string a, .string b] w fun e w' => e = .returned (.bool (txtB mode a.size b.size)) ∧ w = w' := by
  by_cases h1 : 0 ≤ mode ∧ mode ≤ 2
  · have M := fun w => modS_yes mode w h1.1 h1.2
    by_cases h2 : (a.size : Int) ≤ 65535
    · by_cases h3 : (b.size : Int) ≤ 60000
      · by_cases h4 : mode = 2
        · rw [show txtB mode a.size b.size = true from txtB_iff.2 ⟨h1, by omega, by omega, .inl h4⟩]
          have h4' : (mode == 2) = true := by simpa using h4
          clear h1 h4
          go_enter Tryz.func32, Tryz.ntmps32
          go_wp2_with fail
          refine (M _).mono ?_
          rintro e w1 ⟨rfl, rfl⟩
          go_wp2
          go_ret
          exact ⟨rfl, rfl⟩
        · have h4' : (mode == 2) = false := by simpa using h4
          by_cases h5 : (b.size : Int) = 0
          · rw [show txtB mode a.size b.size = true from txtB_iff.2 ⟨h1, by omega, by omega, .inr (by omega)⟩]
            have h5' : ((b.size : Int) == 0) = true := by simpa using h5
            clear h1 h4 h5
            go_enter Tryz.func32, Tryz.ntmps32
            go_wp2_with fail
            refine (M _).mono ?_
            rintro e w1 ⟨rfl, rfl⟩
            go_wp2
            go_ret
            exact ⟨rfl, rfl⟩
          · rw [show txtB mode a.size b.size = false from txtB_not (by omega)]
            have h5' : ((b.size : Int) == 0) = false := by simpa using h5
            clear h1 h4 h5
            go_enter Tryz.func32, Tryz.ntmps32
            go_wp2_with fail
            refine (M _).mono ?_
            rintro e w1 ⟨rfl, rfl⟩
            go_wp2
            go_ret
            exact ⟨rfl, rfl⟩
      · rw [show txtB mode a.size b.size = false from txtB_not (by omega)]
        clear h1
        go_enter Tryz.func32, Tryz.ntmps32
        go_wp2_with fail
        refine (M _).mono ?_
        rintro e w1 ⟨rfl, rfl⟩
        go_wp2
        go_ret
        exact ⟨rfl, rfl⟩
    · rw [show txtB mode a.size b.size = false from txtB_not (by omega)]
      clear h1
      go_enter Tryz.func32, Tryz.ntmps32
      go_wp2_with fail
      refine (M _).mono ?_
      rintro e w1 ⟨rfl, rfl⟩
      go_wp2
      go_ret
      exact ⟨rfl, rfl⟩
  · have M := fun w => modS_no mode w h1
    rw [show txtB mode a.size b.size = false from txtB_not (fun h => h1 h.1)]
    clear h1
    go_enter Tryz.func32, Tryz.ntmps32
    go_wp2_with fail
    refine (M _).mono ?_
    rintro e w1 ⟨rfl, rfl⟩
    go_wp2
    go_ret
    exact ⟨rfl, rfl⟩
theorem outS_any (mode : Int) (input info : ByteArray) (u : Pt) (hu : on u) (w : World) (h1 : input.size ≤ 65535) (h2 : info.size ≤ 60000) :
    Calls Tryz.prog 36 #[.int .i64 mode, .string input, .string info, .agg #[.int .u64 (px u), .int .u64 (py u), .bool (pb u)]] w fun e w' => e = .returned (.string (outB mode input info u)) ∧ Below w.heap.size w w' := by
  have S1 := fun w => sizS_any input w h1
  have S2 := fun w => sizS_any info w (by omega)
  have P := fun w => puS_pt hu w
  clear hu
  have S3 := fun w => sizS_any (ptB u) w (by rw [ptB_size]; omega)
  have H := fun w => shaS_any (outT mode input info u) w (by have := outT_size mode input info u h1 h2; omega)
  have z1 := sizB_size input
  have z2 := sizB_size info
  have z3 := sizB_size (ptB u)
  rw [ptB_size] at z3
  change ∀ w, Calls _ _ _ _ (fun e w' => e = .returned (.string (outB mode input info u)) ∧ _) at H
  unfold outT finW at H
  generalize outB mode input info u = R at *
  generalize sizB input = A at *
  generalize sizB info = B at *
  generalize sizB (ptB u) = C at *
  generalize ptB u = D at *
  have hr := K3.new w 28 (px u) (py u) (pb u)
  have hb := (Below.refl _ w).alloc (Nat.le_refl _) (Obj.cells #[.int .u64 (px u), .int .u64 (py u), .bool (pb u)] 28)
  generalize px u = x at *
  generalize py u = y at *
  generalize pb u = c at *
  by_cases hm : mode = 2
  · rw [if_pos hm] at H
    have q1 : ¬ (9223372036854775807 < A.size + B.size) := by omega
    have q2 : ¬ (9223372036854775807 < (A ++ B).size + C.size) := by rw [ByteArray.size_append]; omega
    have q3 : ¬ (9223372036854775807 < (A ++ B ++ C).size + (ByteArray.mk #[70, 105, 110, 97, 108, 105, 122, 101]).size) := by rw [ByteArray.size_append, ByteArray.size_append, show (ByteArray.mk #[70, 105, 110, 97, 108, 105, 122, 101]).size = 8 from rfl]; omega
    clear z1 z2 z3 h1 h2
    subst hm
    go_enter Tryz.func36, Tryz.ntmps36
    go_wp2_with fail
    refine (S1 _).mono ?_
    rintro e w1 ⟨rfl, b1⟩
    replace hr := hr.keep b1
    replace hb := hb.trans (b1.mono hb.size)
    clear S1 b1
    go_wp2_with fail
    refine (S2 _).mono ?_
    rintro e w2 ⟨rfl, b1⟩
    replace hr := hr.keep b1
    replace hb := hb.trans (b1.mono hb.size)
    clear S2 b1
    have c0 := hr.c0
    have c1 := hr.c1
    have c2 := hr.c2
    go_wp2_with fail
    refine (P _).mono ?_
    rintro e w3 ⟨rfl, b1⟩
    replace hb := hb.trans (b1.mono hb.size)
    clear P b1 c0 c1 c2 hr
    go_wp2_with fail
    refine (S3 _).mono ?_
    rintro e w4 ⟨rfl, b1⟩
    replace hb := hb.trans (b1.mono hb.size)
    clear S3 b1
    go_wp2_with fail
    refine (H _).mono ?_
    rintro e w5 ⟨rfl, b1⟩
    replace hb := hb.trans (b1.mono hb.size)
    clear H b1
    go_wp2
    go_ret
    exact ⟨rfl, hb⟩
  · rw [if_neg hm] at H
    have q2 : ¬ (9223372036854775807 < A.size + C.size) := by omega
    have q3 : ¬ (9223372036854775807 < (A ++ C).size + (ByteArray.mk #[70, 105, 110, 97, 108, 105, 122, 101]).size) := by rw [ByteArray.size_append, show (ByteArray.mk #[70, 105, 110, 97, 108, 105, 122, 101]).size = 8 from rfl]; omega
    have hm' : (mode == 2) = false := by simpa using hm
    clear z1 z2 z3 h1 h2 hm S2
    go_enter Tryz.func36, Tryz.ntmps36
    go_wp2_with fail
    refine (S1 _).mono ?_
    rintro e w1 ⟨rfl, b1⟩
    replace hr := hr.keep b1
    replace hb := hb.trans (b1.mono hb.size)
    clear S1 b1
    have c0 := hr.c0
    have c1 := hr.c1
    have c2 := hr.c2
    go_wp2_with fail
    refine (P _).mono ?_
    rintro e w3 ⟨rfl, b1⟩
    replace hb := hb.trans (b1.mono hb.size)
    clear P b1 c0 c1 c2 hr
    go_wp2_with fail
    refine (S3 _).mono ?_
    rintro e w4 ⟨rfl, b1⟩
    replace hb := hb.trans (b1.mono hb.size)
    clear S3 b1
    go_wp2_with fail
    refine (H _).mono ?_
    rintro e w5 ⟨rfl, b1⟩
    replace hb := hb.trans (b1.mono hb.size)
    clear H b1
    go_wp2
    go_ret
    exact ⟨rfl, hb⟩
theorem baseS (w : World) : Calls Tryz.prog 44 #[] w fun e w' => e = .returned (ptW gG) ∧ Below w.heap.size w w' := by
  go_enter Tryz.func44, Tryz.ntmps44
  go_wp2
  refine bodyPost_ret (v := .agg #[.int .u64 1, .int .u64 509478702933351334, .bool false]) (by simp [results, Tryz.results44, go_sem]) rfl ⟨rfl, (Below.refl _ w).alloc (Nat.le_refl _) _⟩
end Go.Proofs.YtjmhmajfkdglnaaGreatDoor
