import Derived.Test.YtjmhmajfkdglnaaGreatDoorMrg37
import Derived.Test.YtjmhmajfkdglnaaGreatDoorMrg41
import Derived.Test.YtjmhmajfkdglnaaGreatDoorMrg16
import Derived.Test.YtjmhmajfkdglnaaGreatDoorMrg10
import Derived.Test.YtjmhmajfkdglnaaGreatDoorMrg27
/-
  The model's small functions of blind hashing.
-/
namespace Go.Proofs.YtjmhmajfkdglnaaGreatDoor
open Go.RowKit M
set_option linter.unusedVariables false

set_option maxRecDepth 100000 in
theorem keyS_any (k : Int) (n : Nat) (hn : k = n) (w : World) :
    Calls Tryz.prog 33 #[.int .u64 k] w fun e w' => e = .returned (.bool (keyB n)) ∧ w = w' := by
  by_cases h1 : 1 ≤ k
  · by_cases h2 : k < 2305843010818082053
    · rw [show keyB n = true from keyB_iff.2 (by omega)]
      clear hn
      go_enter Tryz.func33, Tryz.ntmps33
      go_wp2
      go_ret
      exact ⟨rfl, rfl⟩
    · rw [show keyB n = false from decide_eq_false (by omega)]
      clear hn
      go_enter Tryz.func33, Tryz.ntmps33
      go_wp2
      go_ret
      exact ⟨rfl, rfl⟩
  · rw [show keyB n = false from decide_eq_false (by omega)]
    clear hn
    go_enter Tryz.func33, Tryz.ntmps33
    go_wp2
    go_ret
    exact ⟨rfl, rfl⟩
set_option maxRecDepth 100000 in
theorem elS_any (t : Tri) (w : World) :
    Calls Tryz.prog 40 #[.agg #[.int .u64 (t.1 : Int), .int .u64 (t.2.1 : Int), .bool t.2.2]] w fun e w' => e = .returned (.bool (elT t)) ∧ Below w.heap.size w w' := by
  have O := onS_tri t
  unfold elT
  obtain ⟨x, y, c⟩ := t
  simp only at O ⊢
  have hr := K3.new w 28 (x : Int) (y : Int) c
  have hb := (Below.refl _ w).alloc (Nat.le_refl _) (Obj.cells #[.int .u64 (x : Int), .int .u64 (y : Int), .bool c] 28)
  generalize onT (x, y, c) = o at *
  have c0 := hr.c0
  have c1 := hr.c1
  have c2 := hr.c2
  go_enter Tryz.func40, Tryz.ntmps40
  go_wp2_with fail
  refine (O _).mono ?_
  rintro e w1 ⟨rfl, b1⟩
  replace hr := hr.keep b1
  replace hb := hb.trans (b1.mono hb.size)
  clear O b1 c0 c1 c2
  have c2 := hr.c2
  cases o
  · go_wp2
    go_ret
    exact ⟨rfl, hb⟩
  · go_wp2
    go_ret
    exact ⟨rfl, hb⟩
set_option maxRecDepth 100000 in
theorem txtS_any (mode : Int) (a b : ByteArray) (w : World) :
    Calls Tryz.prog 32 #[.int .i64 mode, .string a, .string b] w fun e w' => e = .returned (.bool (txtB mode a.size b.size)) ∧ w = w' := by
  by_cases h1 : 0 ≤ mode ∧ mode ≤ 2
  · have M := fun w => modS_yes mode w h1.1 h1.2
    by_cases h2 : (a.size : Int) ≤ 65535
    · by_cases h3 : (b.size : Int) ≤ 60000
      · by_cases h4 : mode = 2
        · rw [show txtB mode a.size b.size = true from txtB_iff.2 ⟨h1, by omega, by omega, .inl h4⟩]
          have h4' : (mode == 2) = true := by simpa using h4
          clear h1 h4
          go_enter Tryz.func32, Tryz.ntmps32
          go_wp2_with fail
          refine (M _).mono ?_
          rintro e w1 ⟨rfl, rfl⟩
          go_wp2
          go_ret
          exact ⟨rfl, rfl⟩
        · have h4' : (mode == 2) = false := by simpa using h4
          by_cases h5 : (b.size : Int) = 0
          · rw [show txtB mode a.size b.size = true from txtB_iff.2 ⟨h1, by omega, by omega, .inr (by omega)⟩]
            have h5' : ((b.size : Int) == 0) = true := by simpa using h5
            clear h1 h4 h5
            go_enter Tryz.func32, Tryz.ntmps32
            go_wp2_with fail
            refine (M _).mono ?_
            rintro e w1 ⟨rfl, rfl⟩
            go_wp2
            go_ret
            exact ⟨rfl, rfl⟩
          · rw [show txtB mode a.size b.size = false from txtB_not (by omega)]
            have h5' : ((b.size : Int) == 0) = false := by simpa using h5
            clear h1 h4 h5
            go_enter Tryz.func32, Tryz.ntmps32
            go_wp2_with fail
            refine (M _).mono ?_
            rintro e w1 ⟨rfl, rfl⟩
            go_wp2
            go_ret
            exact ⟨rfl, rfl⟩
      · rw [show txtB mode a.size b.size = false from txtB_not (by omega)]
        clear h1
        go_enter Tryz.func32, Tryz.ntmps32
        go_wp2_with fail
        refine (M _).mono ?_
        rintro e w1 ⟨rfl, rfl⟩
        go_wp2
        go_ret
        exact ⟨rfl, rfl⟩
    · rw [show txtB mode a.size b.size = false from txtB_not (by omega)]
      clear h1
      go_enter Tryz.func32, Tryz.ntmps32
      go_wp2_with fail
      refine (M _).mono ?_
      rintro e w1 ⟨rfl, rfl⟩
      go_wp2
      go_ret
      exact ⟨rfl, rfl⟩
  · have M := fun w => modS_no mode w h1
    rw [show txtB mode a.size b.size = false from txtB_not (fun h => h1 h.1)]
    clear h1
    go_enter Tryz.func32, Tryz.ntmps32
    go_wp2_with fail
    refine (M _).mono ?_
    rintro e w1 ⟨rfl, rfl⟩
    go_wp2
    go_ret
    exact ⟨rfl, rfl⟩
set_option maxRecDepth 100000 in
theorem twkS_any (info : ByteArray) (w : World) (h : info.size ≤ 60000) :
    Calls Tryz.prog 43 #[.string info] w fun e w' => e = .returned (.int .u64 (twk info : Nat)) ∧ Below w.heap.size w w' := by
  have S := fun w => sizS_any info w (by omega)
  have hz := infoT_size info
  have C := fun w => scaS_any (infW ++ sizB info) 2 w (by omega) (by omega)
  have hz2 : infW.size + (sizB info).size ≤ 9223372036854775807 := by rw [← ByteArray.size_append]; omega
  change ∀ w, Calls _ _ _ _ (fun e w' => e = .returned (.int .u64 (twk info : Nat)) ∧ _) at C
  generalize ((twk info : Nat) : Int) = t at *
  generalize sizB info = s at *
  clear hz
  unfold infW at *
  have hq : ¬ (9223372036854775807 < (ByteArray.mk #[73, 110, 102, 111]).size + s.size) := by omega
  clear hz2
  go_enter Tryz.func43, Tryz.ntmps43
  go_wp2_with fail
  refine (S _).mono ?_
  rintro e w1 ⟨rfl, b1⟩
  go_wp2_with fail
  refine (C _).mono ?_
  rintro e w2 ⟨rfl, b2⟩
  go_wp2
  go_ret
  exact ⟨rfl, b1.trans (b2.mono b1.size)⟩
set_option maxRecDepth 100000 in
set_option maxHeartbeats 1000000 in
theorem hshS_any (mode : Int) (input : ByteArray) (w : World) (h1 : 0 ≤ mode) (h2 : mode ≤ 2) (hs : input.size ≤ 65535) :
    Calls Tryz.prog 34 #[.int .i64 mode, .string input] w fun e w' => e = .returned (.agg #[.int .u64 (px (hsh mode input)), .int .u64 (py (hsh mode input)), .bool (pb (hsh mode input))]) ∧ Below w.heap.size w w' := by
  obtain ⟨hm, hm'⟩ := md_of h1 h2
  have T := fun w => tagS_any grpW mode.toNat w hm (by decide)
  rw [hm'] at T
  have hz := tagG_size _ hm
  have H := fun w => h2gS_yes input (tagB grpW mode.toNat) w ⟨by omega, by omega, hs⟩
  change ∀ w, Calls _ _ _ _ (fun e w' => e = .returned (.tuple #[ptW (hsh mode input), .bool true]) ∧ _) at H
  rw [ptW_eq] at H
  generalize hsh mode input = p at *
  generalize tagB grpW mode.toNat = t at *
  generalize px p = x at *
  generalize py p = y at *
  generalize pb p = c at *
  clear hm hm' h1 h2 hs hz p
  unfold grpW at T
  have hr := K3.new w 28 0 0 false
  have hb := (Below.refl _ w).alloc (Nat.le_refl _) (Obj.cells #[.int .u64 0, .int .u64 0, .bool false] 28)
  go_enter Tryz.func34, Tryz.ntmps34
  go_wp2_with fail
  refine (T _).mono ?_
  rintro e w1 ⟨rfl, b1⟩
  replace hr := hr.keep b1
  replace hb := hb.trans (b1.mono hb.size)
  clear T b1
  go_wp2_with fail
  refine (H _).mono ?_
  rintro e w2 ⟨rfl, b2⟩
  have hal := (Below.refl _ w2).alloc (Nat.le_refl _) (Obj.cells #[.int .u64 x, .int .u64 y, .bool c] 28)
  have hr2 := K3.new w2 28 x y c
  replace hr := (hr.keep b2).keep hal
  replace hb := hb.trans (b2.mono hb.size)
  replace hb := hb.trans (hal.mono hb.size)
  clear H b2 hal
  have c0 := hr.c0
  have c1 := hr.c1
  have c2 := hr.c2
  have d0 := hr2.c0
  have d1 := hr2.c1
  have d2 := hr2.c2
  have cf := hr.frz
  go_wp2
  exact bodyPost_ret (v := .agg #[.int .u64 x, .int .u64 y, .bool c]) (pt_res (fn := Tryz.f34) (p := 4) Tryz.results34 _ rfl (hr.set x y c)) rfl ⟨rfl, set3_below hb (Nat.le_refl _)⟩
set_option maxRecDepth 100000 in
set_option maxHeartbeats 1000000 in
theorem facS_any (mode : Int) (key : Nat) (info : ByteArray) (w : World) (hk : key < 2305843010818082053) (hi : info.size ≤ 60000) :
    Calls Tryz.prog 35 #[.int .i64 mode, .int .u64 key, .string info] w fun e w' => e = .returned (.tuple #[.int .u64 (if facC mode key info = 0 then (facB mode key info : Nat) else 0), .int .u64 (if facC mode key info = 0 then (facT mode key info : Nat) else 0), .int .i64 (facC mode key info)]) ∧ Below w.heap.size w w' := by
  by_cases hm : mode = 2
  · have T := fun w => twkS_any info w hi
    have A := fun w => l2add_any key (twk info) 2305843010818082053 w hk (twk_lt info) (by decide)
    simp only [Int.cast_ofNat_Int] at A
    by_cases h0 : kt key info = 0
    · have e1 : facC mode key info = 3 := if_pos ⟨hm, h0⟩
      rw [e1, if_neg (by decide), if_neg (by decide)]
      rw [show ((key + twk info) % 2305843010818082053 : Nat) = 0 from h0] at A
      have hm' : ¬ (mode != 2) = true := by simpa using hm
      subst hm
      generalize ((twk info : Nat) : Int) = t at *
      clear h0 e1 hm'
      go_enter Tryz.func35, Tryz.ntmps35
      go_wp2_with fail
      refine (T _).mono ?_
      rintro e w1 ⟨rfl, b1⟩
      go_wp2_with fail
      refine (A _).mono ?_
      rintro e w2 ⟨rfl, rfl⟩
      clear T A
      go_wp2
      exact bodyPost_ret (v := .tuple #[.int .u64 0, .int .u64 0, .int .i64 3]) (by simp [results, Tryz.results35, go_sem]) rfl ⟨rfl, b1⟩
    · have e1 : facC mode key info = 0 := if_neg (fun h => h0 h.2)
      have e2 : facB mode key info = M.ivn 2305843010818082053 (kt key info) := by unfold facB; rw [if_pos hm, if_neg h0]
      have e3 : facT mode key info = kt key info := if_pos hm
      have I := fun w => invS_any (kt key info) 2305843010818082053 w (by have := kt_lt key info; omega) (by decide) (by decide)
      simp only [Int.cast_ofNat_Int] at I
      rw [e1, if_pos rfl, if_pos rfl, e2, e3]
      change ∀ w, Calls _ _ _ _ (fun e w' => e = .returned (.int .u64 ((kt key info : Nat) : Int)) ∧ _) at A
      have h0' : (((kt key info : Nat) : Int) == 0) = false := by simp; omega
      generalize ((M.ivn 2305843010818082053 (kt key info) : Nat) : Int) = i at *
      generalize ((kt key info : Nat) : Int) = k at *
      generalize ((twk info : Nat) : Int) = t at *
      subst hm
      clear h0 e1 e2 e3
      go_enter Tryz.func35, Tryz.ntmps35
      go_wp2_with fail
      refine (T _).mono ?_
      rintro e w1 ⟨rfl, b1⟩
      go_wp2_with fail
      refine (A _).mono ?_
      rintro e w2 ⟨rfl, rfl⟩
      clear T A
      go_wp2_with fail
      refine (I _).mono ?_
      rintro e w2 ⟨rfl, rfl⟩
      clear I
      go_wp2
      exact bodyPost_ret (v := .tuple #[.int .u64 i, .int .u64 k, .int .i64 0]) (by simp [results, Tryz.results35, go_sem]) rfl ⟨rfl, b1⟩
  · have e1 : facC mode key info = 0 := if_neg (fun h => hm h.1)
    have e2 : facB mode key info = key := if_neg hm
    have e3 : facT mode key info = key := if_neg hm
    rw [e1, if_pos rfl, if_pos rfl, e2, e3]
    have hm' : (mode != 2) = true := by simpa using hm
    generalize ((key : Nat) : Int) = k at *
    clear e1 e2 e3 hm
    go_enter Tryz.func35, Tryz.ntmps35
    go_wp2
    exact bodyPost_ret (v := .tuple #[.int .u64 k, .int .u64 k, .int .i64 0]) (by simp [results, Tryz.results35, go_sem]) rfl ⟨rfl, Below.refl _ _⟩
set_option maxRecDepth 100000 in
set_option maxHeartbeats 1000000 in
theorem outS_any (mode : Int) (input info : ByteArray) (u : Pt) (hu : on u) (w : World) (h1 : input.size ≤ 65535) (h2 : info.size ≤ 60000) :
    Calls Tryz.prog 36 #[.int .i64 mode, .string input, .string info, .agg #[.int .u64 (px u), .int .u64 (py u), .bool (pb u)]] w fun e w' => e = .returned (.string (outB mode input info u)) ∧ Below w.heap.size w w' := by
  have S1 := fun w => sizS_any input w h1
  have S2 := fun w => sizS_any info w (by omega)
  have P := fun w => puS_pt hu w
  clear hu
  have S3 := fun w => sizS_any (ptB u) w (by rw [ptB_size]; omega)
  have H := fun w => shaS_any (outT mode input info u) w (by have := outT_size mode input info u h1 h2; omega)
  have z1 := sizB_size input
  have z2 := sizB_size info
  have z3 := sizB_size (ptB u)
  rw [ptB_size] at z3
  change ∀ w, Calls _ _ _ _ (fun e w' => e = .returned (.string (outB mode input info u)) ∧ _) at H
  unfold outT finW at H
  generalize outB mode input info u = R at *
  generalize sizB input = A at *
  generalize sizB info = B at *
  generalize sizB (ptB u) = C at *
  generalize ptB u = D at *
  have hr := K3.new w 28 (px u) (py u) (pb u)
  have hb := (Below.refl _ w).alloc (Nat.le_refl _) (Obj.cells #[.int .u64 (px u), .int .u64 (py u), .bool (pb u)] 28)
  generalize px u = x at *
  generalize py u = y at *
  generalize pb u = c at *
  by_cases hm : mode = 2
  · rw [if_pos hm] at H
    have q1 : ¬ (9223372036854775807 < A.size + B.size) := by omega
    have q2 : ¬ (9223372036854775807 < (A ++ B).size + C.size) := by rw [ByteArray.size_append]; omega
    have q3 : ¬ (9223372036854775807 < (A ++ B ++ C).size + (ByteArray.mk #[70, 105, 110, 97, 108, 105, 122, 101]).size) := by rw [ByteArray.size_append, ByteArray.size_append, show (ByteArray.mk #[70, 105, 110, 97, 108, 105, 122, 101]).size = 8 from rfl]; omega
    clear z1 z2 z3 h1 h2
    subst hm
    go_enter Tryz.func36, Tryz.ntmps36
    go_wp2_with fail
    refine (S1 _).mono ?_
    rintro e w1 ⟨rfl, b1⟩
    replace hr := hr.keep b1
    replace hb := hb.trans (b1.mono hb.size)
    clear S1 b1
    go_wp2_with fail
    refine (S2 _).mono ?_
    rintro e w2 ⟨rfl, b1⟩
    replace hr := hr.keep b1
    replace hb := hb.trans (b1.mono hb.size)
    clear S2 b1
    have c0 := hr.c0
    have c1 := hr.c1
    have c2 := hr.c2
    go_wp2_with fail
    refine (P _).mono ?_
    rintro e w3 ⟨rfl, b1⟩
    replace hb := hb.trans (b1.mono hb.size)
    clear P b1 c0 c1 c2 hr
    go_wp2_with fail
    refine (S3 _).mono ?_
    rintro e w4 ⟨rfl, b1⟩
    replace hb := hb.trans (b1.mono hb.size)
    clear S3 b1
    go_wp2_with fail
    refine (H _).mono ?_
    rintro e w5 ⟨rfl, b1⟩
    replace hb := hb.trans (b1.mono hb.size)
    clear H b1
    go_wp2
    go_ret
    exact ⟨rfl, hb⟩
  · rw [if_neg hm] at H
    have q2 : ¬ (9223372036854775807 < A.size + C.size) := by omega
    have q3 : ¬ (9223372036854775807 < (A ++ C).size + (ByteArray.mk #[70, 105, 110, 97, 108, 105, 122, 101]).size) := by rw [ByteArray.size_append, show (ByteArray.mk #[70, 105, 110, 97, 108, 105, 122, 101]).size = 8 from rfl]; omega
    have hm' : (mode == 2) = false := by simpa using hm
    clear z1 z2 z3 h1 h2 hm S2
    go_enter Tryz.func36, Tryz.ntmps36
    go_wp2_with fail
    refine (S1 _).mono ?_
    rintro e w1 ⟨rfl, b1⟩
    replace hr := hr.keep b1
    replace hb := hb.trans (b1.mono hb.size)
    clear S1 b1
    have c0 := hr.c0
    have c1 := hr.c1
    have c2 := hr.c2
    go_wp2_with fail
    refine (P _).mono ?_
    rintro e w3 ⟨rfl, b1⟩
    replace hb := hb.trans (b1.mono hb.size)
    clear P b1 c0 c1 c2 hr
    go_wp2_with fail
    refine (S3 _).mono ?_
    rintro e w4 ⟨rfl, b1⟩
    replace hb := hb.trans (b1.mono hb.size)
    clear S3 b1
    go_wp2_with fail
    refine (H _).mono ?_
    rintro e w5 ⟨rfl, b1⟩
    replace hb := hb.trans (b1.mono hb.size)
    clear H b1
    go_wp2
    go_ret
    exact ⟨rfl, hb⟩
end Go.Proofs.YtjmhmajfkdglnaaGreatDoor

/-
  The model's Direct.
-/
namespace Go.Proofs.YtjmhmajfkdglnaaGreatDoor
open Go.RowKit M
set_option linter.unusedVariables false

set_option maxRecDepth 100000 in
set_option maxHeartbeats 1000000 in
theorem dirS_any (mode : Int) (key : Nat) (input info : ByteArray) (w : World) :
    Calls Tryz.prog 8 #[.int .i64 mode, .int .u64 key, .string input, .string info] w fun e w' => e = .returned (.tuple #[.string (dirO mode key input info), .int .i64 (dirC mode key input info)]) ∧ Below w.heap.size w w' := by
  have T := txtS_any mode input info
  have K := fun w => keyS_any (key : Int) key rfl w
  by_cases hA : txtB mode input.size info.size = true
  · rw [hA] at T
    by_cases hB : keyB key = true
    · rw [hB] at K
      obtain ⟨⟨m1, m2⟩, z1, z2, -⟩ := txtB_iff.1 hA
      obtain ⟨-, k2⟩ := keyB_iff.1 hB
      have e0 : dirC mode key input info = if hsh mode input = none then 2 else facC mode key info := if_pos ⟨hA, hB⟩
      have H := fun w => hshS_any mode input w m1 m2 z1
      by_cases hh : hsh mode input = none
      · rw [if_pos hh] at e0
        unfold dirO
        rw [e0, if_neg (by decide)]
        have hp := (pb_none _).2 hh
        rw [hp] at H
        generalize px (hsh mode input) = x at *
        generalize py (hsh mode input) = y at *
        clear hA hB e0 hh hp k2 m1 m2 z1 z2
        go_enter Tryz.func8, Tryz.ntmps8
        go_wp2_with fail
        refine (T _).mono ?_
        rintro e w1 ⟨rfl, rfl⟩
        go_wp2_with fail
        refine (K _).mono ?_
        rintro e w1 ⟨rfl, rfl⟩
        go_wp2_with fail
        refine (H _).mono ?_
        rintro e w1 ⟨rfl, b1⟩
        clear T K H
        go_wp2
        go_ret2
        exact ⟨rfl, b1.alloc b1.size _⟩
      · rw [if_neg hh] at e0
        have hp : pb (hsh mode input) = false := by
          cases hq : pb (hsh mode input) with
          | false => rfl
          | true => exact absurd ((pb_none _).1 hq) hh
        have F := fun w => facS_any mode key info w k2 z2
        by_cases hc : facC mode key info = 0
        · have hx : dirO mode key input info = outB mode input info (nt (facB mode key info) (hsh mode input)) := by unfold dirO; rw [e0, if_pos hc]
          rw [hx, e0, hc]
          simp only [hc, if_true] at F
          have M := fun w => tiS_pt (hsh_on mode input) (facB mode key info) (Nat.lt_trans (facB_lt mode key info k2) (by decide)) w
          have O := fun w => outS_any mode input info (nt (facB mode key info) (hsh mode input)) (nt_on (hsh_on mode input) _) w z1 z2
          generalize outB mode input info (nt (facB mode key info) (hsh mode input)) = R at *
          generalize nt (facB mode key info) (hsh mode input) = u at *
          rw [hp] at H M
          generalize px (hsh mode input) = x at *
          generalize py (hsh mode input) = y at *
          generalize px u = ux at *
          generalize py u = uy at *
          generalize pb u = uc at *
          generalize ((facB mode key info : Nat) : Int) = f at *
          generalize ((facT mode key info : Nat) : Int) = t at *
          clear hA hB e0 hh hp k2 m1 m2 z1 z2 hc hx u
          go_enter Tryz.func8, Tryz.ntmps8
          go_wp2_with fail
          refine (T _).mono ?_
          rintro e w1 ⟨rfl, rfl⟩
          go_wp2_with fail
          refine (K _).mono ?_
          rintro e w1 ⟨rfl, rfl⟩
          go_wp2_with fail
          refine (H _).mono ?_
          rintro e w1 ⟨rfl, b1⟩
          have hr := K3.new w1 28 x y false
          have hal := (Below.refl _ w1).alloc (Nat.le_refl _) (Obj.cells #[.int .u64 x, .int .u64 y, .bool false] 28)
          have hb := b1.trans (hal.mono b1.size)
          clear T K H b1 hal
          have c2 := hr.c2
          go_wp2_with fail
          refine (F _).mono ?_
          rintro e w2 ⟨rfl, b1⟩
          replace hr := hr.keep b1
          replace hb := hb.trans (b1.mono hb.size)
          clear F b1 c2
          have c0 := hr.c0
          have c1 := hr.c1
          have c2 := hr.c2
          go_wp2_with fail
          refine (M _).mono ?_
          rintro e w3 ⟨rfl, b1⟩
          replace hb := hb.trans (b1.mono hb.size)
          clear M b1 c0 c1 c2 hr
          go_wp2_with fail
          refine (O _).mono ?_
          rintro e w4 ⟨rfl, b1⟩
          replace hb := hb.trans (b1.mono hb.size)
          clear O b1
          go_wp2
          go_ret2
          exact ⟨rfl, hb⟩
        · have hc3 : facC mode key info = 3 := by unfold facC at *; split <;> simp_all
          have hx : dirO mode key input info = ⟨#[]⟩ := by unfold dirO; rw [e0, if_neg hc]
          rw [hx, e0, hc3]
          simp only [hc3, show ¬ (3 : Int) = 0 by decide, if_false] at F
          rw [hp] at H
          generalize px (hsh mode input) = x at *
          generalize py (hsh mode input) = y at *
          clear hA hB e0 hh hp k2 m1 m2 z1 z2 hc hx hc3
          go_enter Tryz.func8, Tryz.ntmps8
          go_wp2_with fail
          refine (T _).mono ?_
          rintro e w1 ⟨rfl, rfl⟩
          go_wp2_with fail
          refine (K _).mono ?_
          rintro e w1 ⟨rfl, rfl⟩
          go_wp2_with fail
          refine (H _).mono ?_
          rintro e w1 ⟨rfl, b1⟩
          have hr := K3.new w1 28 x y false
          have hal := (Below.refl _ w1).alloc (Nat.le_refl _) (Obj.cells #[.int .u64 x, .int .u64 y, .bool false] 28)
          have hb := b1.trans (hal.mono b1.size)
          clear T K H b1 hal
          have c2 := hr.c2
          go_wp2_with fail
          refine (F _).mono ?_
          rintro e w2 ⟨rfl, b1⟩
          replace hb := hb.trans (b1.mono hb.size)
          clear F b1 c2 hr
          go_wp2
          go_ret2
          exact ⟨rfl, hb⟩
    · rw [Bool.not_eq_true] at hB
      rw [hB] at K
      have e0 : dirC mode key input info = 1 := if_neg (by simp [hB])
      unfold dirO
      rw [e0, if_neg (by decide)]
      clear hA hB e0
      go_enter Tryz.func8, Tryz.ntmps8
      go_wp2_with fail
      refine (T _).mono ?_
      rintro e w1 ⟨rfl, rfl⟩
      go_wp2_with fail
      refine (K _).mono ?_
      rintro e w1 ⟨rfl, rfl⟩
      clear T K
      go_wp2
      go_ret2
      exact ⟨rfl, Below.refl _ _⟩
  · rw [Bool.not_eq_true] at hA
    rw [hA] at T
    have e0 : dirC mode key input info = 1 := if_neg (by simp [hA])
    unfold dirO
    rw [e0, if_neg (by decide)]
    clear hA e0 K
    go_enter Tryz.func8, Tryz.ntmps8
    go_wp2_with fail
    refine (T _).mono ?_
    rintro e w1 ⟨rfl, rfl⟩
    clear T
    go_wp2
    go_ret2
    exact ⟨rfl, Below.refl _ _⟩
end Go.Proofs.YtjmhmajfkdglnaaGreatDoor

/-
  What a mode's rules do; the program's Direct, put together.
-/
namespace Go.Proofs.YtjmhmajfkdglnaaGreatDoor
open Go.RowKit M
set_option linter.unusedVariables false

def Ent (f : FuncId) : Prop := ∀ (args : Array Value) (w : World), (callFunc f args).run Tryz.prog w = .ok (.enter f args) w
/-- an info that a mode allows -/
def okI (k : Nat) (info : ByteArray) : Prop := if k = 2 then info.size ≤ 60000 else info.size = 0
/-- the rules of mode k -/
structure Rl (k : Nat) (F0 F1 F2 F3 F4 F5 F6 : FuncId) : Prop where
  e1 : Ent F1
  e2 : Ent F2
  secret : ∀ (key : Nat) (info : ByteArray) (a0 a1 a2 a3 : Addr) (w : World), TabK w → Sn w a0 a1 a2 a3 → key < 2305843010818082053 → info.size ≤ 60000 →
    Calls Tryz.prog F1 #[.agg #[.string (ctxB k), .string info], .agg #[.int .u64 key]] w fun e w' => e = .returned (.tuple #[.agg #[.int .u64 (facT k key info : Nat)], if facC k key info = 0 then .nilIface else sen a2]) ∧ Below w.heap.size w w'
  factor : ∀ (key : Nat) (info : ByteArray) (w : World), key < 2305843010818082053 → facC k key info = 0 →
    Calls Tryz.prog F2 #[.agg #[.int .u64 (facT k key info : Nat)]] w fun e w' => e = .returned (.agg #[.int .u64 (facB k key info : Nat)]) ∧ Below w.heap.size w w'
  output : ∀ (input info : ByteArray) (u : Pt) (w : World), TabK w → input.size ≤ 65535 → info.size ≤ 60000 →
    Calls Tryz.prog 81 #[.agg #[.string (ctxB k), .string info, .func (.func F0) #[] #[], .func (.func F1) #[] #[], .func (.func F2) #[] #[], .func (.func F3) #[] #[], .func (.func F4) #[] #[], .func (.func F5) #[] #[], .func (.func F6) #[] #[]], .string input, .agg #[.int .u64 (px u), .int .u64 (py u), .bool (pb u)]] w fun e w' => e = .returned (.string (outB k input info u)) ∧ Below w.heap.size w w'
  find : ∀ (info : ByteArray) (a0 a1 a2 a3 : Addr) (w : World), Sn w a0 a1 a2 a3 → okI k info →
    Calls Tryz.prog 78 #[.int .i64 k, .string info] w fun e w' => e = .returned (.tuple #[.agg #[.string (ctxB k), .string info, .func (.func F0) #[] #[], .func (.func F1) #[] #[], .func (.func F2) #[] #[], .func (.func F3) #[] #[], .func (.func F4) #[] #[], .func (.func F5) #[] #[], .func (.func F6) #[] #[]], .nilIface]) ∧ Below w.heap.size w w'
  bad : ∀ (info : ByteArray) (a0 a1 a2 a3 : Addr) (w : World), Sn w a0 a1 a2 a3 → ¬ okI k info →
    Calls Tryz.prog 78 #[.int .i64 k, .string info] w fun e w' => e = .returned (.tuple #[.agg zPro, flt ⟨#[105, 110, 102, 111]⟩ (sen a0)]) ∧ Below w.heap.size w w'
theorem ixR0 (w : World) : (Instr.index 203 (.agg rulL.toArray) (.int .i64 ((0 : Nat) : Int))).run Tryz.prog w = .ok (.agg #[.func (.func 150) #[] #[], .func (.func 151) #[] #[], .func (.func 152) #[] #[], .func (.func 153) #[] #[], .func (.func 154) #[] #[], .func (.func 155) #[] #[], .func (.func 156) #[] #[]]) w := by kernel_rfl
theorem ixR1 (w : World) : (Instr.index 203 (.agg rulL.toArray) (.int .i64 ((1 : Nat) : Int))).run Tryz.prog w = .ok (.agg #[.func (.func 150) #[] #[], .func (.func 151) #[] #[], .func (.func 152) #[] #[], .func (.func 153) #[] #[], .func (.func 154) #[] #[], .func (.func 157) #[] #[], .func (.func 156) #[] #[]]) w := by kernel_rfl
theorem ixR2 (w : World) : (Instr.index 203 (.agg rulL.toArray) (.int .i64 ((2 : Nat) : Int))).run Tryz.prog w = .ok (.agg #[.func (.func 158) #[] #[], .func (.func 159) #[] #[], .func (.func 160) #[] #[], .func (.func 161) #[] #[], .func (.func 162) #[] #[], .func (.func 163) #[] #[], .func (.func 164) #[] #[]]) w := by kernel_rfl
theorem enNI : Ent 150 := fun _ _ => by kernel_rfl
theorem enSI : Ent 158 := fun _ _ => by kernel_rfl
theorem enKA : Ent 151 := fun _ _ => by kernel_rfl
theorem enKT : Ent 159 := fun _ _ => by kernel_rfl
theorem enSE : Ent 152 := fun _ _ => by kernel_rfl
theorem enSV : Ent 160 := fun _ _ => by kernel_rfl
theorem enNP : Ent 156 := fun _ _ => by kernel_rfl
theorem enIP : Ent 164 := fun _ _ => by kernel_rfl
theorem noInf_yes (info : ByteArray) (h : info.size = 0) (w : World) : Calls Tryz.prog 150 #[.string info] w fun e w' => e = .returned (.bool true) ∧ w = w' := by
  have := noInf info w; rwa [decide_eq_true h] at this
theorem noInf_no (info : ByteArray) (h : ¬ info.size = 0) (w : World) : Calls Tryz.prog 150 #[.string info] w fun e w' => e = .returned (.bool false) ∧ w = w' := by
  have := noInf info w; rwa [decide_eq_false h] at this
theorem shoInf_yes (info : ByteArray) (h : info.size ≤ 60000) (w : World) : Calls Tryz.prog 158 #[.string info] w fun e w' => e = .returned (.bool true) ∧ w = w' := by
  have := shoInf info w; rwa [decide_eq_true h] at this
theorem shoInf_no (info : ByteArray) (h : ¬ info.size ≤ 60000) (w : World) : Calls Tryz.prog 158 #[.string info] w fun e w' => e = .returned (.bool false) ∧ w = w' := by
  have := shoInf info w; rwa [decide_eq_false h] at this
theorem facC_no {k : Nat} (hk : ¬ k = 2) (key : Nat) (info : ByteArray) : facC k key info = 0 := if_neg (fun h => hk (by have := h.1; omega))
theorem facT_no {k : Nat} (hk : ¬ k = 2) (key : Nat) (info : ByteArray) : facT k key info = key := if_neg (by omega)
theorem facB_no {k : Nat} (hk : ¬ k = 2) (key : Nat) (info : ByteArray) : facB k key info = key := if_neg (by omega)
section
variable {k : Nat} (hk : ¬ k = 2)
include hk
theorem secr_no (key : Nat) (info : ByteArray) (a0 a1 a2 a3 : Addr) (w : World) :
    Calls Tryz.prog 151 #[.agg #[.string (ctxB k), .string info], .agg #[.int .u64 key]] w fun e w' => e = .returned (.tuple #[.agg #[.int .u64 (facT k key info : Nat)], if facC k key info = 0 then .nilIface else sen a2]) ∧ Below w.heap.size w w' := by
  rw [facC_no hk, facT_no hk, if_pos rfl]
  exact kalI _ _ _ w
theorem fact_no (key : Nat) (info : ByteArray) (w : World) :
    Calls Tryz.prog 152 #[.agg #[.int .u64 (facT k key info : Nat)]] w fun e w' => e = .returned (.agg #[.int .u64 (facB k key info : Nat)]) ∧ Below w.heap.size w w' := by
  rw [facT_no hk, facB_no hk]
  exact sitI _ w
theorem okI_no {info : ByteArray} : okI k info ↔ info.size = 0 := by unfold okI; rw [if_neg hk]
end
theorem okI_two {info : ByteArray} : okI 2 info ↔ info.size ≤ 60000 := by unfold okI; rw [if_pos rfl]
theorem facT_two (key : Nat) (info : ByteArray) : facT (2 : Nat) key info = kt key info := if_pos rfl
theorem facC_two (key : Nat) (info : ByteArray) : facC (2 : Nat) key info = if kt key info = 0 then 3 else 0 := by
  unfold facC
  by_cases h : kt key info = 0
  · rw [if_pos h, if_pos ⟨rfl, h⟩]
  · rw [if_neg h, if_neg (fun h' => h h'.2)]
theorem secr_two (key : Nat) (info : ByteArray) (a0 a1 a2 a3 : Addr) (w : World) (hT : TabK w) (hs : Sn w a0 a1 a2 a3) (hk : key < 2305843010818082053) (hi : info.size ≤ 60000) :
    Calls Tryz.prog 159 #[.agg #[.string (ctxB 2), .string info], .agg #[.int .u64 key]] w fun e w' => e = .returned (.tuple #[.agg #[.int .u64 (facT (2 : Nat) key info : Nat)], if facC (2 : Nat) key info = 0 then .nilIface else sen a2]) ∧ Below w.heap.size w w' := by
  have hgw : 6 < w.heap.size := World.block_lt_of_cell? w _ (hT 0 (by omega))
  have h := kntI_of (ctxB 2) info (key : Int) ((twk info : Nat) : Int) ((kt key info : Nat) : Int) a0 a1 a2 a3 w hs (fun w' hb => twkI_any info w' (keepT hT hgw hb) hi) (fun w => plN_any key (twk info) w hk (twk_lt info))
  rw [facT_two, facC_two]
  by_cases h0 : kt key info = 0
  · rw [if_pos (by omega)] at h
    rw [if_pos h0, if_neg (by decide)]
    exact h
  · rw [if_neg (by omega)] at h
    rw [if_neg h0, if_pos rfl]
    exact h
theorem fact_two (key : Nat) (info : ByteArray) (w : World) (h : facC (2 : Nat) key info = 0) :
    Calls Tryz.prog 160 #[.agg #[.int .u64 (facT (2 : Nat) key info : Nat)]] w fun e w' => e = .returned (.agg #[.int .u64 (facB (2 : Nat) key info : Nat)]) ∧ Below w.heap.size w w' := by
  have h0 : ¬ kt key info = 0 := fun h0 => by rw [facC_two, if_pos h0] at h; cases h
  have e : facB (2 : Nat) key info = M.ivn 2305843010818082053 (kt key info) := by unfold facB; rw [if_pos (by decide), if_neg h0]
  rw [facT_two, e]
  exact secI_of _ _ w (fun w => ivN_any _ w (kt_lt key info))
theorem rul_0 : Rl 0 150 151 152 153 154 155 156 :=
  ⟨enKA, enSE, fun key info a0 a1 a2 a3 w _ _ _ _ => secr_no (by omega) key info a0 a1 a2 a3 w, fun key info w _ _ => fact_no (by omega) key info w, fun input info u w hT h1 h2 => outI_no _ info input u _ _ _ _ _ _ _ w hT h1 h2 enNP ((0 : Nat) : Int) (by decide) (nopI info),
      fun info a0 a1 a2 a3 w hs h => proI_ok _ _ info _ _ _ _ _ _ _ _ a0 a1 a2 a3 w hs (fun w => ctxI_yes 0 w (by omega)) rulI ixR0 enNI (noInf_yes info ((okI_no (by omega)).1 h)),
      fun info a0 a1 a2 a3 w hs h => proI_bad _ _ info _ _ _ _ _ _ _ _ a0 a1 a2 a3 w hs (fun w => ctxI_yes 0 w (by omega)) rulI ixR0 enNI (noInf_no info (fun h' => h ((okI_no (by omega)).2 h')))⟩
theorem rul_1 : Rl 1 150 151 152 153 154 157 156 :=
  ⟨enKA, enSE, fun key info a0 a1 a2 a3 w _ _ _ _ => secr_no (by omega) key info a0 a1 a2 a3 w, fun key info w _ _ => fact_no (by omega) key info w, fun input info u w hT h1 h2 => outI_no _ info input u _ _ _ _ _ _ _ w hT h1 h2 enNP ((1 : Nat) : Int) (by decide) (nopI info),
      fun info a0 a1 a2 a3 w hs h => proI_ok _ _ info _ _ _ _ _ _ _ _ a0 a1 a2 a3 w hs (fun w => ctxI_yes 1 w (by omega)) rulI ixR1 enNI (noInf_yes info ((okI_no (by omega)).1 h)),
      fun info a0 a1 a2 a3 w hs h => proI_bad _ _ info _ _ _ _ _ _ _ _ a0 a1 a2 a3 w hs (fun w => ctxI_yes 1 w (by omega)) rulI ixR1 enNI (noInf_no info (fun h' => h ((okI_no (by omega)).2 h')))⟩
theorem rul_2 : Rl 2 158 159 160 161 162 163 164 :=
  ⟨enKT, enSV, fun key info a0 a1 a2 a3 w hT hs hk hi => secr_two key info a0 a1 a2 a3 w hT hs hk hi, fun key info w _ h => fact_two key info w h, fun input info u w hT h1 h2 => outI_two _ info input u _ _ _ _ _ _ _ w hT h1 h2 enIP (ipaI info),
      fun info a0 a1 a2 a3 w hs h => proI_ok _ _ info _ _ _ _ _ _ _ _ a0 a1 a2 a3 w hs (fun w => ctxI_yes 2 w (by omega)) rulI ixR2 enSI (shoInf_yes info (okI_two.1 h)),
      fun info a0 a1 a2 a3 w hs h => proI_bad _ _ info _ _ _ _ _ _ _ _ a0 a1 a2 a3 w hs (fun w => ctxI_yes 2 w (by omega)) rulI ixR2 enSI (shoInf_no info (fun h' => h (okI_two.2 h')))⟩
theorem rul_any (k : Nat) (hk : k < 3) : ∃ F0 F1 F2 F3 F4 F5 F6, Rl k F0 F1 F2 F3 F4 F5 F6 := by
  rcases (show k = 0 ∨ k = 1 ∨ k = 2 by omega) with rfl | rfl | rfl
  · exact ⟨_, _, _, _, _, _, _, rul_0⟩
  · exact ⟨_, _, _, _, _, _, _, rul_1⟩
  · exact ⟨_, _, _, _, _, _, _, rul_2⟩
set_option maxRecDepth 100000 in
theorem drtI_of (mode k c : Int) (input info o o' : ByteArray) (v : Value) (w : World)
    (HD : Calls Tryz.prog 39 #[.int .i64 mode, .int .u64 k, .string input, .string info] w fun e w' => e = .returned (.tuple #[.string o, v]) ∧ Below w.heap.size w w')
    (AN : ∀ w', Below w.heap.size w w' → Calls Tryz.prog 38 #[.string o, v] w' fun e w'' => e = .returned (.tuple #[.string o', .int .i64 c]) ∧ Below w'.heap.size w' w'') :
    Calls Tryz.prog 9 #[.int .i64 mode, .int .u64 k, .string input, .string info] w fun e w' => e = .returned (.tuple #[.string o', .int .i64 c]) ∧ Below w.heap.size w w' := by
  go_enter Tryz.func9, Tryz.ntmps9
  go_wp2_with fail
  refine HD.mono ?_
  rintro e w1 ⟨rfl, b1⟩
  go_wp2_with fail
  refine (AN _ b1).mono ?_
  rintro e w2 ⟨rfl, b2⟩
  replace b1 := b1.trans (b2.mono b1.size)
  clear HD AN b2
  go_wp2
  go_ret2
  exact ⟨rfl, b1⟩
theorem cplT {p : Pt} (hp : on p) (k : Nat) (hk : k < 2305843010818082053) (w : World) :
    Calls Tryz.prog 68 #[.agg #[.int .u64 (px p), .int .u64 (py p), .bool (pb p)], .int .u64 k] w fun e w' => e = .returned (.agg #[.int .u64 (px (nt k p)), .int .u64 (py (nt k p)), .bool (pb (nt k p))]) ∧ Below w.heap.size w w' := by
  have := ctmV hp k (by omega) w
  rwa [ptW_eq, ptW_eq] at this
theorem okI_iff {mode : Int} (hm : 0 ≤ mode ∧ mode ≤ 2) {info : ByteArray} : okI mode.toNat info ↔ info.size ≤ 60000 ∧ (mode = 2 ∨ info.size = 0) := by
  unfold okI
  by_cases h2 : mode.toNat = 2
  · rw [if_pos h2]
    constructor
    · intro h; exact ⟨h, .inl (by omega)⟩
    · exact fun h => h.1
  · rw [if_neg h2]
    constructor
    · intro h; exact ⟨by omega, .inr h⟩
    · rintro ⟨-, h | h⟩
      · exact absurd h (by omega)
      · exact h
/-- the program's Direct -/
theorem dirI_any (mode : Int) (key : Nat) (input info : ByteArray) (a0 a1 a2 a3 : Addr) (w : World) (hT : TabK w) (hs : Sn w a0 a1 a2 a3) :
    Calls Tryz.prog 9 #[.int .i64 mode, .int .u64 key, .string input, .string info] w fun e w' => e = .returned (.tuple #[.string (dirO mode key input info), .int .i64 (dirC mode key input info)]) ∧ Below w.heap.size w w' := by
  have hgw : 6 < w.heap.size := World.block_lt_of_cell? w _ (hT 0 (by omega))
  by_cases hm : 0 ≤ mode ∧ mode ≤ 2
  · obtain ⟨hk, hk'⟩ := md_of hm.1 hm.2
    obtain ⟨F0, F1, F2, F3, F4, F5, F6, hR⟩ := rul_any mode.toNat hk
    have hfind := hR.find
    have hbad := hR.bad
    have hsec := hR.secret
    have hfac := hR.factor
    have hout := hR.output
    have e1 := hR.e1
    have e2 := hR.e2
    rw [hk'] at hfind hbad hsec hfac hout
    have okE := okI_iff hm (info := info)
    by_cases ho : okI mode.toNat info
    · have hFP := fun w' (hb : Below w.heap.size w w') => hfind info a0 a1 a2 a3 w' (hs.keep hb) ho
      by_cases hkey : keyB key = true
      · have hFF : ∀ w', Below w.heap.size w w' → Calls Tryz.prog 79 #[.int .u64 key] w' fun e w'' => e = .returned (.tuple #[.agg #[.int .u64 (key : Int)], .nilIface]) ∧ Below w'.heap.size w' w'' := fun w' hb => by
          have := facI_any key a0 a1 a2 a3 w' (hs.keep hb)
          rwa [if_pos hkey, if_pos hkey] at this
        have hkl := (keyB_iff.1 hkey).2
        have T := fun w => tagI_any (ctxB mode.toNat) grpW w (by rw [ctxB_size _ hk]; omega) (by decide)
        rw [← tagB_ctx] at T
        have hzt := tagG_size _ hk
        by_cases hin : input.size ≤ 65535
        · have htx : txtB mode input.size info.size = true := txtB_iff.2 ⟨hm, hin, (okE.1 ho).1, (okE.1 ho).2⟩
          have hC : dirC mode key input info = if hsh mode input = none then 2 else facC mode key info := if_pos ⟨htx, hkey⟩
          have hH : ∀ w', Below w.heap.size w w' → Calls Tryz.prog 121 #[.string input, .string (tagB grpW mode.toNat)] w' fun e w'' => e = .returned (.tuple #[.agg #[.int .u64 (px (hsh mode input)), .int .u64 (py (hsh mode input)), .bool (pb (hsh mode input))], .bool true]) ∧ Below w'.heap.size w' w'' :=
            fun w' hb => h2gN_yes input (tagB grpW mode.toNat) w' (keepT hT hgw hb) ⟨by omega, by omega, hin⟩
          have hG := fun w' (hb : Below w.heap.size w w') => grpI_yes (ctxB mode.toNat) info input (tagB grpW mode.toNat) F0 F1 F2 F3 F4 F5 F6 (hsh mode input) a0 a1 a2 a3 w' (hs.keep hb) T (fun w'' hb' => hH w'' (hb.trans (hb'.mono hb.size)))
          by_cases hz : hsh mode input = none
          · rw [if_pos hz] at hC
            have hO : dirO mode key input info = ⟨#[]⟩ := by unfold dirO; rw [hC, if_neg (by decide)]
            rw [hC, hO]
            rw [if_pos ((pb_none _).2 hz)] at hG
            exact drtI_of mode key 2 input info ⟨#[]⟩ ⟨#[]⟩ _ w (hdI_c mode key input info (ctxB mode.toNat) (hsh mode input) F0 F1 F2 F3 F4 F5 F6 _ _ w hFP hFF hG) (fun w' hb => ansS_err ⟨#[]⟩ _ 2 a0 a1 a2 a3 w' (hs.keep hb) (er_group _))
          · rw [if_neg hz] at hC
            rw [if_neg (fun h => hz ((pb_none _).1 h))] at hG
            have hS := fun w' (hb : Below w.heap.size w w') => hsec key info a0 a1 a2 a3 w' (keepT hT hgw hb) (hs.keep hb) hkl (okE.1 ho).1
            by_cases hc : facC mode key info = 0
            · have hO : dirO mode key input info = outB mode input info (nt (facB mode key info) (hsh mode input)) := by unfold dirO; rw [hC, if_pos hc]
              rw [hC, hc, hO]
              rw [if_pos hc] at hS
              exact drtI_of mode key 0 input info _ _ .nilIface w (hdI_e mode key _ _ input info (ctxB mode.toNat) _ (hsh mode input) (nt (facB mode key info) (hsh mode input)) F0 F1 F2 F3 F4 F5 F6 w hFP hFF hG e1 hS e2 (fun w => hfac key info w hkl hc) (fun w => cplT (hsh_on mode input) _ (facB_lt mode key info hkl) w) (fun w' hb => hout input info _ w' (keepT hT hgw hb) hin (okE.1 ho).1)) (fun w' hb => ansS_ok _ w')
            · have hc3 : facC mode key info = 3 := by unfold facC at *; split <;> simp_all
              have hO : dirO mode key input info = ⟨#[]⟩ := by unfold dirO; rw [hC, if_neg hc]
              rw [hC, hc3, hO]
              rw [if_neg hc] at hS
              exact drtI_of mode key 3 input info ⟨#[]⟩ ⟨#[]⟩ _ w (hdI_d mode key _ input info (ctxB mode.toNat) (hsh mode input) F0 F1 F2 F3 F4 F5 F6 a2 w hFP hFF hG e1 hS) (fun w' hb => ansS_err ⟨#[]⟩ _ 3 a0 a1 a2 a3 w' (hs.keep hb) (er_inv _))
        · have hC : dirC mode key input info = 1 := if_neg (fun h => hin (txtB_iff.1 h.1).2.1)
          have hO : dirO mode key input info = ⟨#[]⟩ := by unfold dirO; rw [hC, if_neg (by decide)]
          rw [hC, hO]
          have hH : ∀ w', Calls Tryz.prog 121 #[.string input, .string (tagB grpW mode.toNat)] w' fun e w'' => e = .returned (.tuple #[.agg #[.int .u64 (px none), .int .u64 (py none), .bool (pb none)], .bool false]) ∧ Below w'.heap.size w' w'' :=
            fun w' => h2gN_no input (tagB grpW mode.toNat) w' (fun h => hin h.2.2)
          have hG := fun w' (hb : Below w.heap.size w w') => grpI_no (ctxB mode.toNat) info input (tagB grpW mode.toNat) F0 F1 F2 F3 F4 F5 F6 none a0 a1 a2 a3 w' (hs.keep hb) T (fun w'' _ => hH w'')
          exact drtI_of mode key 1 input info ⟨#[]⟩ ⟨#[]⟩ _ w (hdI_c mode key input info (ctxB mode.toNat) none F0 F1 F2 F3 F4 F5 F6 _ _ w hFP hFF hG) (fun w' hb => ansS_err ⟨#[]⟩ _ 1 a0 a1 a2 a3 w' (hs.keep hb) (er_args _))
      · have hC : dirC mode key input info = 1 := if_neg (fun h => hkey h.2)
        have hO : dirO mode key input info = ⟨#[]⟩ := by unfold dirO; rw [hC, if_neg (by decide)]
        rw [hC, hO]
        have hFF : ∀ w', Below w.heap.size w w' → Calls Tryz.prog 79 #[.int .u64 key] w' fun e w'' => e = .returned (.tuple #[.agg #[.int .u64 0], sen a0]) ∧ Below w'.heap.size w' w'' := fun w' hb => by
          have := facI_any key a0 a1 a2 a3 w' (hs.keep hb)
          rwa [if_neg hkey, if_neg hkey] at this
        exact drtI_of mode key 1 input info ⟨#[]⟩ ⟨#[]⟩ _ w (hdI_b mode key input info (ctxB mode.toNat) F0 F1 F2 F3 F4 F5 F6 a0 w hFP hFF) (fun w' hb => ansS_err ⟨#[]⟩ _ 1 a0 a1 a2 a3 w' (hs.keep hb) (er_args _))
    · have hC : dirC mode key input info = 1 := if_neg (fun h => ho (okE.2 ⟨(txtB_iff.1 h.1).2.2.1, (txtB_iff.1 h.1).2.2.2⟩))
      have hO : dirO mode key input info = ⟨#[]⟩ := by unfold dirO; rw [hC, if_neg (by decide)]
      rw [hC, hO]
      exact drtI_of mode key 1 input info ⟨#[]⟩ ⟨#[]⟩ _ w (hdI_a mode key input info _ _ w (fun w' hb => hbad info a0 a1 a2 a3 w' (hs.keep hb) ho)) (fun w' hb => ansS_err ⟨#[]⟩ _ 1 a0 a1 a2 a3 w' (hs.keep hb) (er_args _))
  · have hC : dirC mode key input info = 1 := if_neg (fun h => hm (txtB_iff.1 h.1).1)
    have hO : dirO mode key input info = ⟨#[]⟩ := by unfold dirO; rw [hC, if_neg (by decide)]
    rw [hC, hO]
    exact drtI_of mode key 1 input info ⟨#[]⟩ ⟨#[]⟩ _ w (hdI_a mode key input info _ _ w (fun w' hb => proI_no mode _ info a0 a1 a2 a3 w' (hs.keep hb) (fun w => ctxI_no mode w hm))) (fun w' hb => ansS_err ⟨#[]⟩ _ 1 a0 a1 a2 a3 w' (hs.keep hb) (er_args _))
end Go.Proofs.YtjmhmajfkdglnaaGreatDoor
