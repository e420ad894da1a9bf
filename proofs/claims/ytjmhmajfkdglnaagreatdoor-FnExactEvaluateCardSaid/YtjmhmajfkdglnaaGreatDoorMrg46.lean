import Derived.Test.YtjmhmajfkdglnaaGreatDoorMrg27
import Derived.Test.YtjmhmajfkdglnaaGreatDoorMrg32
import Derived.Test.YtjmhmajfkdglnaaGreatDoorMrg30
import Derived.Test.YtjmhmajfkdglnaaGreatDoorMrg39
import Derived.Test.YtjmhmajfkdglnaaGreatDoorMrg45
import Derived.Test.YtjmhmajfkdglnaaGreatDoorMrg24
import Derived.Test.YtjmhmajfkdglnaaGreatDoorMrg31
import Derived.Test.YtjmhmajfkdglnaaGreatDoorMrg44
set_option linter.unusedVariables false
set_option maxRecDepth 100000
set_option maxHeartbeats 16000000
namespace Go.Proofs.YtjmhmajfkdglnaaGreatDoor
open Go.RowKit M
section
variable (mode key r : Int) (info : ByteArray) (g n cap : Nat) (w : World)
theorem evS_t (T : ∀ w, Calls Tryz.prog 32 #[.int .i64 mode, .string ⟨#[]⟩, .string info] w fun e w' => e = .returned (.bool false) ∧ w = w') :
    Calls Tryz.prog 15 #[.int .i64 mode, .int .u64 key, .string info, .slice (some ⟨g, 0, none⟩) n cap, .int .u64 r] w fun e w' => e = .returned (.tuple #[.agg #[.slice none 0 0, .int .u64 0, .int .u64 0], .int .i64 1]) ∧ Below w.heap.size w w' := by
  obtain ⟨X, hX⟩ : ∃ X, X = (w.alloc (Obj.cells #[.slice none 0 0, .int .u64 0, .int .u64 0] 42)).alloc (Obj.cells #[.slice none 0 0, .int .u64 0, .int .u64 0] 42) := ⟨_, rfl⟩
  have rA : Bk X 42 w.heap.size #[.slice none 0 0, .int .u64 0, .int .u64 0] := by rw [hX]; exact (Bk.new _ _ _).alloc _
  have rN : Bk X 42 (w.heap.size + 1) #[.slice none 0 0, .int .u64 0, .int .u64 0] := by rw [hX]; exact (Bk.new _ _ _).at (by simp)
  have hb : Below w.heap.size w X := by rw [hX]; exact ((Below.refl _ w).alloc (Nat.le_refl _) _).alloc (by simp) _
  rw [hX] at rA rN hb
  clear hX
  go_enter Tryz.func15, Tryz.ntmps15
  go_wp2_with fail
  refine (T _).mono ?_
  rintro e w' ⟨rfl, rfl⟩
  clear T
  have c0 := rN.cell (k := 0) rfl
  have c1 := rN.cell (k := 1) rfl
  have c2 := rN.cell (k := 2) rfl
  have hth := rA.there 3 (by simp)
  have mk1 := True.intro
  go_wp2_with (clear mk1; refine wpList_store_mid rfl 42 _ _ rfl w.heap.size 0 #[.slice none 0 0, .int .u64 0, .int .u64 0] rfl rfl hth sizeEvd (by kernel_rfl) ?_)
  exact bodyPost_ret (v := .tuple #[.agg #[.slice none 0 0, .int .u64 0, .int .u64 0], .int .i64 1]) (bk_res2 (fn := Tryz.f15) (p := 10) (u := 11) Tryz.results15 _ rfl (rA.sets _ rfl) Tryz.underlying42 rfl sizeEvd) rfl ⟨rfl, below_setCells hb (by omega) _ _⟩
theorem evS_k (T : ∀ w, Calls Tryz.prog 32 #[.int .i64 mode, .string ⟨#[]⟩, .string info] w fun e w' => e = .returned (.bool true) ∧ w = w') (K : ∀ w, Calls Tryz.prog 33 #[.int .u64 key] w fun e w' => e = .returned (.bool false) ∧ w = w') :
    Calls Tryz.prog 15 #[.int .i64 mode, .int .u64 key, .string info, .slice (some ⟨g, 0, none⟩) n cap, .int .u64 r] w fun e w' => e = .returned (.tuple #[.agg #[.slice none 0 0, .int .u64 0, .int .u64 0], .int .i64 1]) ∧ Below w.heap.size w w' := by
  obtain ⟨X, hX⟩ : ∃ X, X = (w.alloc (Obj.cells #[.slice none 0 0, .int .u64 0, .int .u64 0] 42)).alloc (Obj.cells #[.slice none 0 0, .int .u64 0, .int .u64 0] 42) := ⟨_, rfl⟩
  have rA : Bk X 42 w.heap.size #[.slice none 0 0, .int .u64 0, .int .u64 0] := by rw [hX]; exact (Bk.new _ _ _).alloc _
  have rN : Bk X 42 (w.heap.size + 1) #[.slice none 0 0, .int .u64 0, .int .u64 0] := by rw [hX]; exact (Bk.new _ _ _).at (by simp)
  have hb : Below w.heap.size w X := by rw [hX]; exact ((Below.refl _ w).alloc (Nat.le_refl _) _).alloc (by simp) _
  rw [hX] at rA rN hb
  clear hX
  go_enter Tryz.func15, Tryz.ntmps15
  go_wp2_with fail
  refine (T _).mono ?_
  rintro e w' ⟨rfl, rfl⟩
  clear T
  go_wp2_with fail
  refine (K _).mono ?_
  rintro e w' ⟨rfl, rfl⟩
  clear K
  have c0 := rN.cell (k := 0) rfl
  have c1 := rN.cell (k := 1) rfl
  have c2 := rN.cell (k := 2) rfl
  have hth := rA.there 3 (by simp)
  have mk1 := True.intro
  go_wp2_with (clear mk1; refine wpList_store_mid rfl 42 _ _ rfl w.heap.size 0 #[.slice none 0 0, .int .u64 0, .int .u64 0] rfl rfl hth sizeEvd (by kernel_rfl) ?_)
  exact bodyPost_ret (v := .tuple #[.agg #[.slice none 0 0, .int .u64 0, .int .u64 0], .int .i64 1]) (bk_res2 (fn := Tryz.f15) (p := 10) (u := 11) Tryz.results15 _ rfl (rA.sets _ rfl) Tryz.underlying42 rfl sizeEvd) rfl ⟨rfl, below_setCells hb (by omega) _ _⟩
theorem evS_r (T : ∀ w, Calls Tryz.prog 32 #[.int .i64 mode, .string ⟨#[]⟩, .string info] w fun e w' => e = .returned (.bool true) ∧ w = w') (K : ∀ w, Calls Tryz.prog 33 #[.int .u64 key] w fun e w' => e = .returned (.bool true) ∧ w = w') (hr : (2305843010818082053 : Int) ≤ r) :
    Calls Tryz.prog 15 #[.int .i64 mode, .int .u64 key, .string info, .slice (some ⟨g, 0, none⟩) n cap, .int .u64 r] w fun e w' => e = .returned (.tuple #[.agg #[.slice none 0 0, .int .u64 0, .int .u64 0], .int .i64 1]) ∧ Below w.heap.size w w' := by
  obtain ⟨X, hX⟩ : ∃ X, X = (w.alloc (Obj.cells #[.slice none 0 0, .int .u64 0, .int .u64 0] 42)).alloc (Obj.cells #[.slice none 0 0, .int .u64 0, .int .u64 0] 42) := ⟨_, rfl⟩
  have rA : Bk X 42 w.heap.size #[.slice none 0 0, .int .u64 0, .int .u64 0] := by rw [hX]; exact (Bk.new _ _ _).alloc _
  have rN : Bk X 42 (w.heap.size + 1) #[.slice none 0 0, .int .u64 0, .int .u64 0] := by rw [hX]; exact (Bk.new _ _ _).at (by simp)
  have hb : Below w.heap.size w X := by rw [hX]; exact ((Below.refl _ w).alloc (Nat.le_refl _) _).alloc (by simp) _
  rw [hX] at rA rN hb
  clear hX
  go_enter Tryz.func15, Tryz.ntmps15
  go_wp2_with fail
  refine (T _).mono ?_
  rintro e w' ⟨rfl, rfl⟩
  clear T
  go_wp2_with fail
  refine (K _).mono ?_
  rintro e w' ⟨rfl, rfl⟩
  clear K
  have c0 := rN.cell (k := 0) rfl
  have c1 := rN.cell (k := 1) rfl
  have c2 := rN.cell (k := 2) rfl
  have hth := rA.there 3 (by simp)
  have mk1 := True.intro
  go_wp2_with (clear mk1; refine wpList_store_mid rfl 42 _ _ rfl w.heap.size 0 #[.slice none 0 0, .int .u64 0, .int .u64 0] rfl rfl hth sizeEvd (by kernel_rfl) ?_)
  exact bodyPost_ret (v := .tuple #[.agg #[.slice none 0 0, .int .u64 0, .int .u64 0], .int .i64 1]) (bk_res2 (fn := Tryz.f15) (p := 10) (u := 11) Tryz.results15 _ rfl (rA.sets _ rfl) Tryz.underlying42 rfl sizeEvd) rfl ⟨rfl, below_setCells hb (by omega) _ _⟩
theorem evS_0 (T : ∀ w, Calls Tryz.prog 32 #[.int .i64 mode, .string ⟨#[]⟩, .string info] w fun e w' => e = .returned (.bool true) ∧ w = w') (K : ∀ w, Calls Tryz.prog 33 #[.int .u64 key] w fun e w' => e = .returned (.bool true) ∧ w = w') (hr : ¬ (2305843010818082053 : Int) ≤ r) (hn : (n : Int) < 1) :
    Calls Tryz.prog 15 #[.int .i64 mode, .int .u64 key, .string info, .slice (some ⟨g, 0, none⟩) n cap, .int .u64 r] w fun e w' => e = .returned (.tuple #[.agg #[.slice none 0 0, .int .u64 0, .int .u64 0], .int .i64 1]) ∧ Below w.heap.size w w' := by
  obtain ⟨X, hX⟩ : ∃ X, X = (w.alloc (Obj.cells #[.slice none 0 0, .int .u64 0, .int .u64 0] 42)).alloc (Obj.cells #[.slice none 0 0, .int .u64 0, .int .u64 0] 42) := ⟨_, rfl⟩
  have rA : Bk X 42 w.heap.size #[.slice none 0 0, .int .u64 0, .int .u64 0] := by rw [hX]; exact (Bk.new _ _ _).alloc _
  have rN : Bk X 42 (w.heap.size + 1) #[.slice none 0 0, .int .u64 0, .int .u64 0] := by rw [hX]; exact (Bk.new _ _ _).at (by simp)
  have hb : Below w.heap.size w X := by rw [hX]; exact ((Below.refl _ w).alloc (Nat.le_refl _) _).alloc (by simp) _
  rw [hX] at rA rN hb
  clear hX
  go_enter Tryz.func15, Tryz.ntmps15
  go_wp2_with fail
  refine (T _).mono ?_
  rintro e w' ⟨rfl, rfl⟩
  clear T
  go_wp2_with fail
  refine (K _).mono ?_
  rintro e w' ⟨rfl, rfl⟩
  clear K
  have c0 := rN.cell (k := 0) rfl
  have c1 := rN.cell (k := 1) rfl
  have c2 := rN.cell (k := 2) rfl
  have hth := rA.there 3 (by simp)
  have mk1 := True.intro
  go_wp2_with (clear mk1; refine wpList_store_mid rfl 42 _ _ rfl w.heap.size 0 #[.slice none 0 0, .int .u64 0, .int .u64 0] rfl rfl hth sizeEvd (by kernel_rfl) ?_)
  exact bodyPost_ret (v := .tuple #[.agg #[.slice none 0 0, .int .u64 0, .int .u64 0], .int .i64 1]) (bk_res2 (fn := Tryz.f15) (p := 10) (u := 11) Tryz.results15 _ rfl (rA.sets _ rfl) Tryz.underlying42 rfl sizeEvd) rfl ⟨rfl, below_setCells hb (by omega) _ _⟩
theorem evS_9 (T : ∀ w, Calls Tryz.prog 32 #[.int .i64 mode, .string ⟨#[]⟩, .string info] w fun e w' => e = .returned (.bool true) ∧ w = w') (K : ∀ w, Calls Tryz.prog 33 #[.int .u64 key] w fun e w' => e = .returned (.bool true) ∧ w = w') (hr : ¬ (2305843010818082053 : Int) ≤ r) (hn : ¬ (n : Int) < 1) (hn2 : (200 : Int) < (n : Int)) :
    Calls Tryz.prog 15 #[.int .i64 mode, .int .u64 key, .string info, .slice (some ⟨g, 0, none⟩) n cap, .int .u64 r] w fun e w' => e = .returned (.tuple #[.agg #[.slice none 0 0, .int .u64 0, .int .u64 0], .int .i64 1]) ∧ Below w.heap.size w w' := by
  obtain ⟨X, hX⟩ : ∃ X, X = (w.alloc (Obj.cells #[.slice none 0 0, .int .u64 0, .int .u64 0] 42)).alloc (Obj.cells #[.slice none 0 0, .int .u64 0, .int .u64 0] 42) := ⟨_, rfl⟩
  have rA : Bk X 42 w.heap.size #[.slice none 0 0, .int .u64 0, .int .u64 0] := by rw [hX]; exact (Bk.new _ _ _).alloc _
  have rN : Bk X 42 (w.heap.size + 1) #[.slice none 0 0, .int .u64 0, .int .u64 0] := by rw [hX]; exact (Bk.new _ _ _).at (by simp)
  have hb : Below w.heap.size w X := by rw [hX]; exact ((Below.refl _ w).alloc (Nat.le_refl _) _).alloc (by simp) _
  rw [hX] at rA rN hb
  clear hX
  go_enter Tryz.func15, Tryz.ntmps15
  go_wp2_with fail
  refine (T _).mono ?_
  rintro e w' ⟨rfl, rfl⟩
  clear T
  go_wp2_with fail
  refine (K _).mono ?_
  rintro e w' ⟨rfl, rfl⟩
  clear K
  have c0 := rN.cell (k := 0) rfl
  have c1 := rN.cell (k := 1) rfl
  have c2 := rN.cell (k := 2) rfl
  have hth := rA.there 3 (by simp)
  have mk1 := True.intro
  go_wp2_with (clear mk1; refine wpList_store_mid rfl 42 _ _ rfl w.heap.size 0 #[.slice none 0 0, .int .u64 0, .int .u64 0] rfl rfl hth sizeEvd (by kernel_rfl) ?_)
  exact bodyPost_ret (v := .tuple #[.agg #[.slice none 0 0, .int .u64 0, .int .u64 0], .int .i64 1]) (bk_res2 (fn := Tryz.f15) (p := 10) (u := 11) Tryz.results15 _ rfl (rA.sets _ rfl) Tryz.underlying42 rfl sizeEvd) rfl ⟨rfl, below_setCells hb (by omega) _ _⟩
theorem evS_e (es : List Tri) (T : ∀ w, Calls Tryz.prog 32 #[.int .i64 mode, .string ⟨#[]⟩, .string info] w fun e w' => e = .returned (.bool true) ∧ w = w') (K : ∀ w, Calls Tryz.prog 33 #[.int .u64 key] w fun e w' => e = .returned (.bool true) ∧ w = w') (hr : ¬ (2305843010818082053 : Int) ≤ r) (h1 : 1 ≤ n) (hn : n ≤ 200) (hl : es.length = n) (hp : Pts w g 0 es) (hR : Hid (es.all elT = false)) :
    Calls Tryz.prog 15 #[.int .i64 mode, .int .u64 key, .string info, .slice (some ⟨g, 0, none⟩) n cap, .int .u64 r] w fun e w' => e = .returned (.tuple #[.agg #[.slice none 0 0, .int .u64 0, .int .u64 0], .int .i64 1]) ∧ Below w.heap.size w w' := by
  have hl' : Hid (es.length = n) := hl
  have k1 : ¬ (n : Int) < 1 := by omega
  have k2 : ¬ (200 : Int) < (n : Int) := by omega
  clear hl
  obtain ⟨X, hX⟩ : ∃ X, X = (w.alloc (Obj.cells #[.slice none 0 0, .int .u64 0, .int .u64 0] 42)).alloc (Obj.cells #[.slice none 0 0, .int .u64 0, .int .u64 0] 42) := ⟨_, rfl⟩
  have rA : Bk X 42 w.heap.size #[.slice none 0 0, .int .u64 0, .int .u64 0] := by rw [hX]; exact (Bk.new _ _ _).alloc _
  have rN : Bk X 42 (w.heap.size + 1) #[.slice none 0 0, .int .u64 0, .int .u64 0] := by rw [hX]; exact (Bk.new _ _ _).at (by simp)
  have hb : Below w.heap.size w X := by rw [hX]; exact ((Below.refl _ w).alloc (Nat.le_refl _) _).alloc (by simp) _
  rw [hX] at rA rN hb
  clear hX
  go_enter Tryz.func15, Tryz.ntmps15
  go_wp2_with fail
  refine (T _).mono ?_
  rintro e w' ⟨rfl, rfl⟩
  clear T
  go_wp2_with fail
  refine (K _).mono ?_
  rintro e w' ⟨rfl, rfl⟩
  clear K
  go_wp2
  clear k1 k2
  generalize (w.alloc _).alloc _ = X at *
  go_loopw [13] (fun iv wr => ∃ j : Nat, j ≤ n ∧ iv = .int .i64 (j : Int) ∧ Hid (∀ i, i < j → ∃ t, es[i]? = some t ∧ elT t = true) ∧ Below X.heap.size X wr) (fun i _ => n - (intOf i).toNat)
  case atStart => exact ⟨0, by omega, rfl, fun i hi => by omega, Below.refl _ _⟩
  case round =>
    obtain ⟨j, hj, rfl, hall, hbl⟩ := hrel
    by_cases hlt : j < n
    · have hli : (j : Int) < (n : Int) := by omega
      obtain ⟨t, ht⟩ : ∃ t, es[j]? = some t := ⟨_, List.getElem?_eq_getElem (by have := hl'.out; omega)⟩
      have hB := hb.trans (hbl.mono hb.size)
      have pp := hp.below hB hp.lt
      have c0 := pp.c0 j t ht
      have c1 := pp.c1 j t ht
      have c2 := pp.c2 j t ht
      rw [Nat.zero_add] at c0 c1 c2
      have F := elS_any t
      have hRt : Hid (elT t = false → es.all elT = false) := fun h => List.all_eq_false.2 ⟨t, List.mem_of_getElem? ht, by rw [h]; decide⟩
      have hnxt : Hid (elT t = true → ∀ i, i < j + 1 → ∃ t, es[i]? = some t ∧ elT t = true) := fun h i hi => by
        by_cases hik : i = j
        · subst hik; exact ⟨t, ht, h⟩
        · exact hall.out i (by omega)
      obtain ⟨tx, ty, tc⟩ := t
      dsimp only at c0 c1 c2 F
      clear ht pp hall hB
      generalize elT (tx, ty, tc) = ot at *
      go_wp2_with fail
      refine (F _).mono ?_
      rintro e w2 ⟨rfl, b2⟩
      replace hbl := hbl.trans (b2.mono hbl.size)
      clear F b2 c0 c1 c2
      cases ot with
      | false =>
        clear hRt hnxt hR
        replace rA := rA.keep hbl
        replace rN := rN.keep hbl
        replace hb := hb.trans (hbl.mono hb.size)
        clear hbl
        have c0 := rN.cell (k := 0) rfl
        have c1 := rN.cell (k := 1) rfl
        have c2 := rN.cell (k := 2) rfl
        have hth := rA.there 3 (by simp)
        have mk1 := True.intro
        go_wp2_with (clear mk1; refine wpList_store_mid rfl 42 _ _ rfl w.heap.size 0 #[.slice none 0 0, .int .u64 0, .int .u64 0] rfl rfl hth sizeEvd (by kernel_rfl) ?_)
        exact bodyPost_ret (v := .tuple #[.agg #[.slice none 0 0, .int .u64 0, .int .u64 0], .int .i64 1]) (bk_res2 (fn := Tryz.f15) (p := 10) (u := 11) Tryz.results15 _ rfl (rA.sets _ rfl) Tryz.underlying42 rfl sizeEvd) rfl ⟨rfl, below_setCells hb (by omega) _ _⟩
      | true =>
        have hn2 : Hid (∀ i, i < j + 1 → ∃ t, es[i]? = some t ∧ elT t = true) := hnxt.out (by trivial)
        clear hRt hnxt
        go_wp2
        go_roundw
        case rel =>
          first
            | exact ⟨j + 1, by omega, by go_num, hn2, hbl⟩
            | ((repeat apply Exists.intro); exact ⟨⟨j + 1, by omega, by go_num, hn2, hbl⟩, rfl⟩)
        case measure => simp [intOf]; omega
    · obtain rfl : n = j := by omega
      have hra : es.all elT = true := by
        rw [List.all_eq_true]
        intro t ht
        obtain ⟨i, hi⟩ := List.getElem?_of_mem ht
        obtain ⟨t', h', h''⟩ := hall.out i (by have := (List.getElem?_eq_some_iff.1 hi).1; have := hl'.out; omega)
        rw [hi] at h'; cases h'; exact h''
      clear hall
      exact absurd hra (by rw [hR.out]; decide)
theorem evS_f (es : List Tri) (T : ∀ w, Calls Tryz.prog 32 #[.int .i64 mode, .string ⟨#[]⟩, .string info] w fun e w' => e = .returned (.bool true) ∧ w = w') (K : ∀ w, Calls Tryz.prog 33 #[.int .u64 key] w fun e w' => e = .returned (.bool true) ∧ w = w') (hr : ¬ (2305843010818082053 : Int) ≤ r) (h1 : 1 ≤ n) (hn : n ≤ 200) (hl : es.length = n) (hp : Pts w g 0 es) (hR : Hid (es.all elT = true)) (cd : Int) (hcd : ¬ cd = 0) (F : ∀ w, Calls Tryz.prog 35 #[.int .i64 mode, .int .u64 key, .string info] w fun e w' => e = .returned (.tuple #[.int .u64 0, .int .u64 0, .int .i64 cd]) ∧ Below w.heap.size w w') :
    Calls Tryz.prog 15 #[.int .i64 mode, .int .u64 key, .string info, .slice (some ⟨g, 0, none⟩) n cap, .int .u64 r] w fun e w' => e = .returned (.tuple #[.agg #[.slice none 0 0, .int .u64 0, .int .u64 0], .int .i64 cd]) ∧ Below w.heap.size w w' := by
  have hl' : Hid (es.length = n) := hl
  have k1 : ¬ (n : Int) < 1 := by omega
  have k2 : ¬ (200 : Int) < (n : Int) := by omega
  clear hl
  obtain ⟨X, hX⟩ : ∃ X, X = (w.alloc (Obj.cells #[.slice none 0 0, .int .u64 0, .int .u64 0] 42)).alloc (Obj.cells #[.slice none 0 0, .int .u64 0, .int .u64 0] 42) := ⟨_, rfl⟩
  have rA : Bk X 42 w.heap.size #[.slice none 0 0, .int .u64 0, .int .u64 0] := by rw [hX]; exact (Bk.new _ _ _).alloc _
  have rN : Bk X 42 (w.heap.size + 1) #[.slice none 0 0, .int .u64 0, .int .u64 0] := by rw [hX]; exact (Bk.new _ _ _).at (by simp)
  have hb : Below w.heap.size w X := by rw [hX]; exact ((Below.refl _ w).alloc (Nat.le_refl _) _).alloc (by simp) _
  rw [hX] at rA rN hb
  clear hX
  go_enter Tryz.func15, Tryz.ntmps15
  go_wp2_with fail
  refine (T _).mono ?_
  rintro e w' ⟨rfl, rfl⟩
  clear T
  go_wp2_with fail
  refine (K _).mono ?_
  rintro e w' ⟨rfl, rfl⟩
  clear K
  go_wp2
  clear k1 k2
  generalize (w.alloc _).alloc _ = X at *
  go_loopw [13] (fun iv wr => ∃ j : Nat, j ≤ n ∧ iv = .int .i64 (j : Int) ∧ Hid (∀ i, i < j → ∃ t, es[i]? = some t ∧ elT t = true) ∧ Below X.heap.size X wr) (fun i _ => n - (intOf i).toNat)
  case atStart => exact ⟨0, by omega, rfl, fun i hi => by omega, Below.refl _ _⟩
  case round =>
    obtain ⟨j, hj, rfl, hall, hbl⟩ := hrel
    by_cases hlt : j < n
    · have hli : (j : Int) < (n : Int) := by omega
      obtain ⟨t, ht⟩ : ∃ t, es[j]? = some t := ⟨_, List.getElem?_eq_getElem (by have := hl'.out; omega)⟩
      have hB := hb.trans (hbl.mono hb.size)
      have pp := hp.below hB hp.lt
      have c0 := pp.c0 j t ht
      have c1 := pp.c1 j t ht
      have c2 := pp.c2 j t ht
      rw [Nat.zero_add] at c0 c1 c2
      have F := elS_any t
      have hRt : Hid (elT t = false → es.all elT = false) := fun h => List.all_eq_false.2 ⟨t, List.mem_of_getElem? ht, by rw [h]; decide⟩
      have hnxt : Hid (elT t = true → ∀ i, i < j + 1 → ∃ t, es[i]? = some t ∧ elT t = true) := fun h i hi => by
        by_cases hik : i = j
        · subst hik; exact ⟨t, ht, h⟩
        · exact hall.out i (by omega)
      obtain ⟨tx, ty, tc⟩ := t
      dsimp only at c0 c1 c2 F
      clear ht pp hall hB
      generalize elT (tx, ty, tc) = ot at *
      go_wp2_with fail
      refine (F _).mono ?_
      rintro e w2 ⟨rfl, b2⟩
      replace hbl := hbl.trans (b2.mono hbl.size)
      clear F b2 c0 c1 c2
      cases ot with
      | false =>
        exact absurd (hRt.out (by trivial)) (by rw [hR.out]; decide)
      | true =>
        have hn2 : Hid (∀ i, i < j + 1 → ∃ t, es[i]? = some t ∧ elT t = true) := hnxt.out (by trivial)
        clear hRt hnxt
        go_wp2
        go_roundw
        case rel =>
          first
            | exact ⟨j + 1, by omega, by go_num, hn2, hbl⟩
            | ((repeat apply Exists.intro); exact ⟨⟨j + 1, by omega, by go_num, hn2, hbl⟩, rfl⟩)
        case measure => simp [intOf]; omega
    · obtain rfl : n = j := by omega
      have hra : es.all elT = true := by
        rw [List.all_eq_true]
        intro t ht
        obtain ⟨i, hi⟩ := List.getElem?_of_mem ht
        obtain ⟨t', h', h''⟩ := hall.out i (by have := (List.getElem?_eq_some_iff.1 hi).1; have := hl'.out; omega)
        rw [hi] at h'; cases h'; exact h''
      clear hall
      replace rA := rA.keep hbl
      replace rN := rN.keep hbl
      replace hb := hb.trans (hbl.mono hb.size)
      clear hbl hra
      go_wp2_with fail
      refine (F _).mono ?_
      rintro e w3 ⟨rfl, b3⟩
      replace rA := rA.keep b3
      replace rN := rN.keep b3
      replace hb := hb.trans (b3.mono hb.size)
      clear F b3
      have c0 := rN.cell (k := 0) rfl
      have c1 := rN.cell (k := 1) rfl
      have c2 := rN.cell (k := 2) rfl
      have hth := rA.there 3 (by simp)
      have mk1 := True.intro
      go_wp2_with (clear mk1; refine wpList_store_mid rfl 42 _ _ rfl w.heap.size 0 #[.slice none 0 0, .int .u64 0, .int .u64 0] rfl rfl hth sizeEvd (by kernel_rfl) ?_)
      exact bodyPost_ret (v := .tuple #[.agg #[.slice none 0 0, .int .u64 0, .int .u64 0], .int .i64 cd]) (bk_res2 (fn := Tryz.f15) (p := 10) (u := 11) Tryz.results15 _ rfl (rA.sets _ rfl) Tryz.underlying42 rfl sizeEvd) rfl ⟨rfl, below_setCells hb (by omega) _ _⟩
theorem own_sides {W w' : World} {S : List Nat} {B : Nat} {e : TypeId} {s : Nat} {v : Value} {n : Nat} {xs : List Value} (h : W.ownsRow B e s v n xs) (hS : G.Sides S W w') (hne : ∀ b ∈ S, some b ≠ v.ownBlock) : w'.ownsRow B e s v n xs := by
  refine ⟨h.1, ?_⟩
  rcases h.2 with h2 | ⟨g, cap, cur, rfl, hbg, hg, hr⟩
  · exact .inl h2
  · refine .inr ⟨g, cap, cur, rfl, hbg, ?_, hr⟩
    rw [hS.block g (Array.getElem?_eq_some_iff.1 hg).1 (fun hm => hne g hm rfl)]
    exact hg
theorem evS_g (es : List Tri) (T : ∀ w, Calls Tryz.prog 32 #[.int .i64 mode, .string ⟨#[]⟩, .string info] w fun e w' => e = .returned (.bool true) ∧ w = w') (K : ∀ w, Calls Tryz.prog 33 #[.int .u64 key] w fun e w' => e = .returned (.bool true) ∧ w = w') (hr : ¬ (2305843010818082053 : Int) ≤ r) (h1 : 1 ≤ n) (hn : n ≤ 200) (hl : es.length = n) (hp : Pts w g 0 es) (hR : Hid (es.all elT = true)) (fN : Nat) (tN pc ps : Int) (pu : Pt) (hfN : fN < 18446744073709551616) (F : ∀ w, Calls Tryz.prog 35 #[.int .i64 mode, .int .u64 key, .string info] w fun e w' => e = .returned (.tuple #[.int .u64 (fN : Int), .int .u64 tN, .int .i64 0]) ∧ Below w.heap.size w w')
    (TP : ∀ w', Calls Tryz.prog 37 #[.int .u64 tN, .agg #[.int .u64 (px gG), .int .u64 (py gG), .bool (pb gG)]] w' fun e w'' => e = .returned (.agg #[.int .u64 (px pu), .int .u64 (py pu), .bool (pb pu)]) ∧ Below w'.heap.size w' w'')
    (HP : ((mode == 1) = false ∧ (mode == 2) = false ∧ pc = 0 ∧ ps = 0) ∨ (mode = 1 ∧ (∀ w' v, Below w.heap.size w w' → w'.ownsRow w.heap.size 28 3 v n (cells3 (es.map fun t => nt fN (asT t))) → Calls Tryz.prog 48 #[.int .i64 1, .int .u64 tN, .agg #[.int .u64 (px gG), .int .u64 (py gG), .bool (pb gG)], .agg #[.int .u64 (px pu), .int .u64 (py pu), .bool (pb pu)], .slice (some ⟨g, 0, none⟩) n cap, v, .int .u64 r] w' fun e w'' => e = .returned (.tuple #[.agg #[.int .u64 pc, .int .u64 ps], .bool true]) ∧ Below w'.heap.size w' w'')) ∨ (mode = 2 ∧ (∀ w' v, Below w.heap.size w w' → w'.ownsRow w.heap.size 28 3 v n (cells3 (es.map fun t => nt fN (asT t))) → Calls Tryz.prog 48 #[.int .i64 2, .int .u64 tN, .agg #[.int .u64 (px gG), .int .u64 (py gG), .bool (pb gG)], .agg #[.int .u64 (px pu), .int .u64 (py pu), .bool (pb pu)], v, .slice (some ⟨g, 0, none⟩) n cap, .int .u64 r] w' fun e w'' => e = .returned (.tuple #[.agg #[.int .u64 pc, .int .u64 ps], .bool true]) ∧ Below w'.heap.size w' w''))) :
    Calls Tryz.prog 15 #[.int .i64 mode, .int .u64 key, .string info, .slice (some ⟨g, 0, none⟩) n cap, .int .u64 r] w fun e w' => ∃ v, e = .returned (.tuple #[.agg #[v, .int .u64 pc, .int .u64 ps], .int .i64 0]) ∧ w'.ownsRow w.heap.size 28 3 v n (cells3 (es.map fun t => nt fN (asT t))) ∧ Below w.heap.size w w' := by
  obtain ⟨i0, hi, hz0, hz1, hz2⟩ := info_parts infoPt
  obtain ⟨CS, hCS⟩ : ∃ CS, Hid (CS = fun j => cells3 ((es.take j).map fun t => nt fN (asT t))) := ⟨_, rfl⟩
  have hst : Hid (∀ j, j < n → ∃ t : Tri, es[j]? = some t ∧ CS (j + 1) = CS j ++ [.int .u64 (px (nt fN (asT t))), .int .u64 (py (nt fN (asT t))), .bool (pb (nt fN (asT t)))]) := fun j hj => by
    obtain ⟨t, ht⟩ : ∃ t, es[j]? = some t := ⟨_, List.getElem?_eq_getElem (by omega)⟩
    refine ⟨t, ht, ?_⟩
    rw [hCS.out]
    simp only
    rw [List.take_add_one, ht, List.map_append, cells3_app]
    rfl
  have hC0 : CS 0 = [] := by rw [hCS.out]; rfl
  have hCn : Hid (CS n = cells3 (es.map fun t => nt fN (asT t))) := by simp only [Hid]; rw [hCS.out, ← hl]; simp
  clear hCS
  have hl' : Hid (es.length = n) := hl
  have k1 : ¬ (n : Int) < 1 := by omega
  have k2 : ¬ (200 : Int) < (n : Int) := by omega
  clear hl
  obtain ⟨X, hX⟩ : ∃ X, X = (w.alloc (Obj.cells #[.slice none 0 0, .int .u64 0, .int .u64 0] 42)).alloc (Obj.cells #[.slice none 0 0, .int .u64 0, .int .u64 0] 42) := ⟨_, rfl⟩
  have rA : Bk X 42 w.heap.size #[.slice none 0 0, .int .u64 0, .int .u64 0] := by rw [hX]; exact (Bk.new _ _ _).alloc _
  have rN : Bk X 42 (w.heap.size + 1) #[.slice none 0 0, .int .u64 0, .int .u64 0] := by rw [hX]; exact (Bk.new _ _ _).at (by simp)
  have hb : Below w.heap.size w X := by rw [hX]; exact ((Below.refl _ w).alloc (Nat.le_refl _) _).alloc (by simp) _
  rw [hX] at rA rN hb
  clear hX
  go_enter Tryz.func15, Tryz.ntmps15
  go_wp2_with fail
  refine (T _).mono ?_
  rintro e w' ⟨rfl, rfl⟩
  clear T
  go_wp2_with fail
  refine (K _).mono ?_
  rintro e w' ⟨rfl, rfl⟩
  clear K
  go_wp2
  clear k1 k2
  generalize (w.alloc _).alloc _ = X at *
  go_loopw [13] (fun iv wr => ∃ j : Nat, j ≤ n ∧ iv = .int .i64 (j : Int) ∧ Hid (∀ i, i < j → ∃ t, es[i]? = some t ∧ elT t = true) ∧ Below X.heap.size X wr) (fun i _ => n - (intOf i).toNat)
  case atStart => exact ⟨0, by omega, rfl, fun i hi => by omega, Below.refl _ _⟩
  case round =>
    obtain ⟨j, hj, rfl, hall, hbl⟩ := hrel
    by_cases hlt : j < n
    · have hli : (j : Int) < (n : Int) := by omega
      obtain ⟨t, ht⟩ : ∃ t, es[j]? = some t := ⟨_, List.getElem?_eq_getElem (by have := hl'.out; omega)⟩
      have hB := hb.trans (hbl.mono hb.size)
      have pp := hp.below hB hp.lt
      have c0 := pp.c0 j t ht
      have c1 := pp.c1 j t ht
      have c2 := pp.c2 j t ht
      rw [Nat.zero_add] at c0 c1 c2
      have F := elS_any t
      have hRt : Hid (elT t = false → es.all elT = false) := fun h => List.all_eq_false.2 ⟨t, List.mem_of_getElem? ht, by rw [h]; decide⟩
      have hnxt : Hid (elT t = true → ∀ i, i < j + 1 → ∃ t, es[i]? = some t ∧ elT t = true) := fun h i hi => by
        by_cases hik : i = j
        · subst hik; exact ⟨t, ht, h⟩
        · exact hall.out i (by omega)
      obtain ⟨tx, ty, tc⟩ := t
      dsimp only at c0 c1 c2 F
      clear ht pp hall hB
      generalize elT (tx, ty, tc) = ot at *
      go_wp2_with fail
      refine (F _).mono ?_
      rintro e w2 ⟨rfl, b2⟩
      replace hbl := hbl.trans (b2.mono hbl.size)
      clear F b2 c0 c1 c2
      cases ot with
      | false =>
        exact absurd (hRt.out (by trivial)) (by rw [hR.out]; decide)
      | true =>
        have hn2 : Hid (∀ i, i < j + 1 → ∃ t, es[i]? = some t ∧ elT t = true) := hnxt.out (by trivial)
        clear hRt hnxt
        go_wp2
        go_roundw
        case rel =>
          first
            | exact ⟨j + 1, by omega, by go_num, hn2, hbl⟩
            | ((repeat apply Exists.intro); exact ⟨⟨j + 1, by omega, by go_num, hn2, hbl⟩, rfl⟩)
        case measure => simp [intOf]; omega
    · obtain rfl : n = j := by omega
      have hra : es.all elT = true := by
        rw [List.all_eq_true]
        intro t ht
        obtain ⟨i, hi⟩ := List.getElem?_of_mem ht
        obtain ⟨t', h', h''⟩ := hall.out i (by have := (List.getElem?_eq_some_iff.1 hi).1; have := hl'.out; omega)
        rw [hi] at h'; cases h'; exact h''
      clear hall
      replace rA := rA.keep hbl
      clear rN
      replace hb := hb.trans (hbl.mono hb.size)
      clear hbl hra
      go_wp2_with fail
      refine (F _).mono ?_
      rintro e w3 ⟨rfl, b3⟩
      replace rA := rA.keep b3
      replace hb := hb.trans (b3.mono hb.size)
      clear F b3
      have rO := Bk.new w3 42 #[.slice none 0 0, .int .u64 0, .int .u64 0]
      have hal := (Below.refl _ w3).alloc (Nat.le_refl _) (Obj.cells #[.slice none 0 0, .int .u64 0, .int .u64 0] 42)
      have hlt : w.heap.size < w3.heap.size := rA.lt
      replace rA := rA.keep hal
      replace hb := hb.trans (hal.mono hb.size)
      clear hal
      go_wp2
      generalize w3.alloc _ = X3 at *
      generalize w3.heap.size = BO at *
      go_loopw [18] (fun iv wr => ∃ (j : Nat) (v : Value), j ≤ n ∧ iv = .int .i64 (j : Int) ∧ wr.ownsRow (BO + 1) 28 3 v j (CS j) ∧ Bk wr 42 BO #[v, .int .u64 0, .int .u64 0] ∧ Below BO X3 wr) (fun i _ => n - (intOf i).toNat)
      case atStart => exact ⟨0, .slice none 0 0, by omega, rfl, by rw [hC0]; exact World.ownsRow_nil _ _ _ _, rO, Below.refl _ _⟩
      case round =>
        clear rO hC0
        obtain ⟨j, v, hj, rfl, hown, rO, hbl⟩ := hrel
        have hB := hb.trans (hbl.mono (Nat.le_of_lt hlt))
        have hsO := rO.lt
        have hlt0 := hlt
        by_cases hlt : j < n
        · have hli : (j : Int) < (n : Int) := by omega
          obtain ⟨t, ht, hnx⟩ := hst.out j hlt
          have pp := (hp.below hB hp.lt).drew
          have c0 := pp.c0 j t ht
          have c1 := pp.c1 j t ht
          have c2 := pp.c2 j t ht
          have TM := fun w => tiS_tri fN t w hfN
          obtain ⟨tx, ty, tc⟩ := t
          dsimp only at c0 c1 c2 TM
          generalize nt fN (asT (tx, ty, tc)) = q at *
          clear ht pp hB
          have m0 : wr.drew.cell? ⟨BO, 0, none⟩ = _ := rO.cell (k := 0) rfl
          go_wp2
          refine G.pool_prT (W := wr) [] 9 [.val (.pointer (some ⟨BO, 0, none⟩)),
              .val (v),
              .val (.int .u64 (fN : Int)),
              .val (.slice (some ⟨g, 0, none⟩) n cap),
              .val (.int .i64 (j : Int)),
              .val (.pointer (some ⟨g, 0 + j * 3, none⟩)),
              .val (.agg #[.int .u64 (tx : Int), .int .u64 (ty : Int), .bool tc]),
              .val (.agg #[.int .u64 (px q), .int .u64 (py q), .bool (pb q)]),
              .new (.cells #[.int .u64 (px q), .int .u64 (py q), .bool (pb q)] 28) (.cells #[.int .u64 (px q), .int .u64 (py q), .bool (pb q)] 28) 1001] [[17], [78], [14], [3], [18], [81, 82], [83], [80, 84], [85]] (fun f => [(some 78, .pointer (some ⟨BO, 0, none⟩)), (some 79, v), (some 80, .int .u64 (fN : Int)), (some 81, .slice (some ⟨g, 0, none⟩) n cap), (some 82, .int .i64 (j : Int)), (some 83, .pointer (some ⟨g, 0 + j * 3, none⟩)), (some 84, .agg #[.int .u64 (tx : Int), .int .u64 (ty : Int), .bool tc]), (some 85, .agg #[.int .u64 (px q), .int .u64 (py q), .bool (pb q)]), (some 86, .slice (some ⟨f 8, 0, none⟩) 1 1)]) (by kernel_rfl) (by kernel_rfl) (by kernel_rfl) (by kernel_rfl) (by decide) (by kernel_rfl) (fun _ => by kernel_rfl) (G.last_of [.cells #[.int .u64 (px q), .int .u64 (py q), .bool (pb q)] 28] (fun F R hm => by simp at hm) (fun ob ob' k hm => by simp at hm; simp [hm]) (fun b ob ob' hm => by simp at hm)) (fun b ob ob' hm => by simp at hm) ?_ ?_
          · intro ix hix
            match ix, hix with
            | 0, _ => exact G.ob_val [(17, .pointer (some ⟨BO, 0, none⟩))] rfl rfl (fun _ => by kernel_rfl) (fun A w ⟨e0, _⟩ hB => fa_evd0 e0)
            | 1, _ => exact G.ob_val [(78, .pointer (some ⟨BO, 0, none⟩))] rfl rfl (fun _ => by kernel_rfl) (fun A w ⟨e0, _⟩ hB => ld_ptsl e0 (hB.cell m0 (by simp)))
            | 2, _ => exact G.ob_val [(14, .int .u64 (fN : Int))] rfl rfl (fun _ => by kernel_rfl) (fun A w ⟨e0, _⟩ hB => doV_move e0)
            | 3, _ => exact G.ob_val [(3, .slice (some ⟨g, 0, none⟩) n cap)] rfl rfl (fun _ => by kernel_rfl) (fun A w ⟨e0, _⟩ hB => doV_move e0)
            | 4, _ => exact G.ob_val [(18, .int .i64 (j : Int))] rfl rfl (fun _ => by kernel_rfl) (fun A w ⟨e0, _⟩ hB => doV_move e0)
            | 5, _ => exact G.ob_val [(81, .slice (some ⟨g, 0, none⟩) n cap), (82, .int .i64 (j : Int))] rfl rfl (fun _ => by kernel_rfl) (fun A w ⟨e0, e1, _⟩ hB => ix_pts e0 e1 (by omega))
            | 6, _ => exact G.ob_val [(83, .pointer (some ⟨g, 0 + j * 3, none⟩))] rfl rfl (fun _ => by kernel_rfl) (fun A w ⟨e0, _⟩ hB => ld_pt e0 (hB.cell c0 (by simp)) (hB.cell c1 (by simp)) (hB.cell c2 (by simp)))
            | 7, _ => exact G.ob_val [(80, .int .u64 (fN : Int)), (84, .agg #[.int .u64 (tx : Int), .int .u64 (ty : Int), .bool tc])] rfl rfl (fun _ => by kernel_rfl) (fun A w ⟨e0, e1, _⟩ hB => cl2 cf_spec_Times e0 e1 (TM w))
            | 8, _ => exact G.ob_slc 1 [(85, .agg #[.int .u64 (px q), .int .u64 (py q), .bool (pb q)])] rfl rfl (fun _ => by kernel_rfl) (fun A w ⟨e0, _⟩ => sl_pts1 e0)
            | ix + 9, h => exact absurd h (by simp)
          intro f W4 hS hnew _ _ fuel hfuel
          have hb4 : Below wr.heap.size wr W4 := (Below.refl _ wr).drew.trans hS.below
          have hcell := (hnew 8 _ _ _ rfl (by decide)).2
          replace rO := rO.keep hb4
          have hown4 := below_own3 hown hb4
          have hbl4 := hbl.trans (hb4.mono (by omega))
          have hs4 : BO + 1 ≤ W4.heap.size := rO.lt
          clear hS hnew hb4 hbl hown m0 c0 c1 c2 TM
          simp only [puts, List.foldl, Act.put, List.setIfInBounds_toArray, List.set_cons_zero, List.set_cons_succ]
          refine last_do3 9 10 11 hfuel (by kernel_rfl) (by kernel_rfl) (by kernel_rfl) (by kernel_rfl) rfl rfl rfl rfl rfl rfl
            (does_append_ow _ _ 38 rfl (BO + 1) 28 i0 (.agg #[.int .u64 0, .int .u64 0, .bool false]) 3 24 Tryz.underlying38 hi hz0 hz1 hz2 rfl (by decide) v j (CS j) rfl hown4 ⟨f 8, 0, none⟩ 1 1 [.int .u64 (px q), .int .u64 (py q), .bool (pb q)] rfl rfl (World.news_of_block (cs := #[.int .u64 (px q), .int .u64 (py q), .bool (pb q)]) hcell) (by simp [Value.oneCell']) (by decide) (by unfold maxLen; omega) (by omega) hs4)
            (fun y w' _ => fa_evd0 (b := BO) (i := 0) rfl) ?_
          rintro y w5 y2 w6 ⟨g5, cap5, rfl, hown5, hgr⟩ ⟨rfl, b6⟩
          have nO : some BO ≠ v.ownBlock := own_ne_bk hown4 rO (by decide)
          replace rO := (rO.grown hgr nO).keep b6
          replace hown5 := below_own3 hown5 b6
          have hbl5 := hbl4.grown hgr (by omega) (fun r hr => Nat.le_of_succ_le (hown4.lt r hr).1)
          have hbl6 := hbl5.trans (b6.mono (Nat.le_trans (by omega) hgr.size))
          refine does_skip (ex_ptsl (b := BO) (i := 0) rfl rfl (rO.cell (k := 0) rfl) (rO.frz 0)) ?_
          have R1 := own_set hown5 (own_ne_bk hown5 rO (by decide)) 0 (.slice (some ⟨g5, 0, none⟩) (j + 1) cap5)
          rw [← hnx] at R1
          have R2 := rO.set 0 (.slice (some ⟨g5, 0, none⟩) (j + 1) cap5)
          have R3 := hbl6.setCell (p := ⟨BO, 0, none⟩) (Nat.le_refl BO) (.slice (some ⟨g5, 0, none⟩) (j + 1) cap5)
          clear hown4 hown5 hbl4 hbl5 hbl6 rO hgr b6 hcell nO hs4
          simp only [Act.put, List.setIfInBounds_toArray]
          go_wp2
          go_roundw
          case rel =>
            first
              | exact ⟨j + 1, _, by omega, by go_num, R1, R2, R3⟩
              | ((repeat apply Exists.intro); exact ⟨⟨j + 1, _, by omega, by go_num, R1, R2, R3⟩, rfl⟩)
          case measure => simp [intOf]; omega
        · obtain rfl : n = j := by omega
          rw [hCn.out] at hown
          replace hown := hown.mono (base' := w.heap.size) (by omega)
          replace rA := rA.below hbl hlt0
          replace hb := hB
          clear hbl hB hst hCn
          go_wp2_with fail
          refine (bsG _).mono ?_
          rintro e w4 ⟨rfl, b4⟩
          replace hown := below_own3 hown b4
          replace rA := rA.keep b4
          replace rO := rO.keep b4
          replace hb := hb.trans (b4.mono hb.size)
          clear b4
          go_wp2_with fail
          refine (TP _).mono ?_
          rintro e w5 ⟨rfl, b5⟩
          have hal : Below w5.heap.size w5 ((w5.alloc (Obj.cells #[.int .u64 (px pu), .int .u64 (py pu), .bool (pb pu)] 28)).alloc (Obj.cells #[.int .u64 0, .int .u64 0] 40)) := ((Below.refl _ w5).alloc (Nat.le_refl _) _).alloc (by simp) _
          have rP : Bk ((w5.alloc (Obj.cells #[.int .u64 (px pu), .int .u64 (py pu), .bool (pb pu)] 28)).alloc (Obj.cells #[.int .u64 0, .int .u64 0] 40)) 28 w5.heap.size #[.int .u64 (px pu), .int .u64 (py pu), .bool (pb pu)] := (Bk.new _ _ _).alloc _
          have rF : P2 ((w5.alloc (Obj.cells #[.int .u64 (px pu), .int .u64 (py pu), .bool (pb pu)] 28)).alloc (Obj.cells #[.int .u64 0, .int .u64 0] 40)) 40 (w5.heap.size + 1) 0 0 := (P2.new _ _ 0 0).at (by simp)
          have hO5 : BO < w5.heap.size := Nat.lt_of_lt_of_le rO.lt b5.size
          replace hown := below_own3 (below_own3 hown b5) hal
          replace rA := (rA.keep b5).keep hal
          replace rO := (rO.keep b5).keep hal
          replace hb := hb.trans (b5.mono hb.size)
          replace hb := hb.trans (hal.mono hb.size)
          clear TP b5 hal
          rcases HP with ⟨m1, m2, hpc, hps⟩ | ⟨rfl, PV⟩ | ⟨rfl, PV⟩
          · replace rF : P2 ((w5.alloc (Obj.cells #[.int .u64 (px pu), .int .u64 (py pu), .bool (pb pu)] 28)).alloc (Obj.cells #[.int .u64 0, .int .u64 0] 40)) 40 (w5.heap.size + 1) pc ps := by rw [hpc, hps]; exact rF
            clear rP hpc hps
            have o0 := rO.cell (k := 0) rfl
            have f0 := rF.c0
            have f1 := rF.c1
            have ht1 := rO.thereAt 1 2 (by simp)
            have rO2 : Bk (((w5.alloc (Obj.cells #[.int .u64 (px pu), .int .u64 (py pu), .bool (pb pu)] 28)).alloc (Obj.cells #[.int .u64 0, .int .u64 0] 40)).setCells BO 1 [.int .u64 pc, .int .u64 ps]) 42 BO #[v, .int .u64 pc, .int .u64 ps] := rO.part (cs := [v, .int .u64 0, .int .u64 0]) 1 [.int .u64 pc, .int .u64 ps] (by simp)
            have rA2 := rA.setsO (b' := BO) (by omega) 1 [.int .u64 pc, .int .u64 ps]
            have hw2 := own_sets hown (own_ne_bk hown rO (by decide)) 1 [.int .u64 pc, .int .u64 ps]
            have hb2 := below_setCells hb (g := BO) (by omega) 1 [.int .u64 pc, .int .u64 ps]
            have ht2 := rA2.there 3 (by simp)
            have p0 := rO2.cell (k := 0) rfl
            have p1 := rO2.cell (k := 1) rfl
            have p2 := rO2.cell (k := 2) rfl
            have mk1 := True.intro
            have mk2 := True.intro
            go_wp2_with (first | (clear mk1; refine wpList_store_mid rfl 40 _ _ rfl BO 1 #[.int .u64 pc, .int .u64 ps] rfl rfl ht1 sizePrf (by kernel_rfl) ?_) | (clear mk2; refine wpList_store_mid rfl 42 _ _ rfl w.heap.size 0 #[v, .int .u64 pc, .int .u64 ps] rfl rfl ht2 sizeEvd (onev hown _ _) ?_))
            refine bodyPost_ret (v := .tuple #[.agg #[v, .int .u64 pc, .int .u64 ps], .int .i64 0]) (bk_res2 (fn := Tryz.f15) (p := 10) (u := 11) Tryz.results15 _ rfl (rA2.sets _ rfl) Tryz.underlying42 rfl sizeEvd) rfl ⟨v, rfl, own_sets hw2 (own_ne_bk hw2 rA2 (by decide)) 0 _, below_setCells hb2 (by omega) _ _⟩
          · go_wp2
            generalize (w5.alloc _).alloc _ = W6 at *
            obtain ⟨BF, hBF⟩ : ∃ BF, BF = w5.heap.size + 1 := ⟨_, rfl⟩
            rw [← hBF] at rF
            rw [← hBF]
            generalize w5.heap.size = BP at *
            have hPF : BP < BF := by omega
            clear hBF
            have p0 : W6.drew.cell? ⟨BP, 0, none⟩ = _ := rP.cell (k := 0) rfl
            have p1 : W6.drew.cell? ⟨BP, 1, none⟩ = _ := rP.cell (k := 1) rfl
            have p2 : W6.drew.cell? ⟨BP, 2, none⟩ = _ := rP.cell (k := 2) rfl
            have o0 : W6.drew.cell? ⟨BO, 0, none⟩ = _ := rO.cell (k := 0) rfl
            have nP : BP ∉ [BF] := fun h => absurd (List.mem_singleton.1 h) (by omega)
            have nO : BO ∉ [BF] := fun h => absurd (List.mem_singleton.1 h) (by omega)
            have lf : BF < W6.drew.heap.size := rF.lt
            have hU : ∀ w', G.Sides [BF] W6.drew w' → Below w.heap.size w w' := fun w' h => h.under hb.drew (by intro b h; rw [List.mem_singleton.1 h]; omega) hb.size
            have hW : ∀ w', G.Sides [BF] W6.drew w' → w'.ownsRow w.heap.size 28 3 v n (cells3 (es.map fun t => nt fN (asT t))) := fun w' h => own_sides hown.drew h (fun b hb => by rw [List.mem_singleton.1 hb]; exact own_ne_bk hown (show Bk W6 40 BF _ from rF) (by decide))
            have PV' : ∀ w', G.Sides [BF] W6.drew w' → _ := fun w' h => PV w' v (hU w' h) (hW w' h)
            refine G.pool_list (W := W6) [BF] [.val (.int .i64 1),
                .val (.int .u64 tN),
                .val (.agg #[.int .u64 (px gG), .int .u64 (py gG), .bool (pb gG)]),
                .val (.agg #[.int .u64 (px pu), .int .u64 (py pu), .bool (pb pu)]),
                .val (.slice (some ⟨g, 0, none⟩) n cap),
                .val (.pointer (some ⟨BO, 0, none⟩)),
                .val (v),
                .val (.int .u64 r),
                .val (.tuple #[.agg #[.int .u64 pc, .int .u64 ps], .bool true]),
                .val (.tuple #[.agg #[.int .u64 pc, .int .u64 ps], .bool true]),
                .val (.agg #[.int .u64 pc, .int .u64 ps]),
                .val (.bool true),
                .set (BF) (.cells #[.int .u64 0, .int .u64 0] 40) (.cells #[.int .u64 pc, .int .u64 ps] 40)] [[0], [15], [], [19], [3], [17], [101], [4], [96, 97, 98, 99, 100, 102, 103], [104], [95], [95], [20, 105]] (fun f => [(some 96, .int .i64 1), (some 97, .int .u64 tN), (some 98, .agg #[.int .u64 (px gG), .int .u64 (py gG), .bool (pb gG)]), (some 99, .agg #[.int .u64 (px pu), .int .u64 (py pu), .bool (pb pu)]), (some 100, .slice (some ⟨g, 0, none⟩) n cap), (some 101, .pointer (some ⟨BO, 0, none⟩)), (some 102, v), (some 103, .int .u64 r), (some 104, .tuple #[.agg #[.int .u64 pc, .int .u64 ps], .bool true]), (some 95, .tuple #[.agg #[.int .u64 pc, .int .u64 ps], .bool true]), (some 105, .agg #[.int .u64 pc, .int .u64 ps]), (some 106, .bool true), (none, undef)]) (by kernel_rfl) (by kernel_rfl) (by kernel_rfl) (by kernel_rfl) (fun _ => by kernel_rfl) (G.last_of [.cells #[.int .u64 0, .int .u64 0] 40] (fun F R hm => by simp at hm) (fun ob ob' k hm => by simp at hm) (fun b ob ob' hm => by simp at hm; simp [hm])) (fun b ob ob' hm => by simp at hm; obtain ⟨rfl, rfl, -⟩ := hm; exact rF) ?_ ?_
            · intro ix hix
              match ix, hix with
              | 0, _ => exact G.ob_val [(0, .int .i64 1)] rfl rfl (fun _ => by kernel_rfl) (fun A w ⟨e0, _⟩ hB => doV_move e0)
              | 1, _ => exact G.ob_val [(15, .int .u64 tN)] rfl rfl (fun _ => by kernel_rfl) (fun A w ⟨e0, _⟩ hB => doV_move e0)
              | 2, _ => exact G.ob_val [] rfl rfl (fun _ => by kernel_rfl) (fun A w _ hB => cl0 cf_spec_Base  (bsG w))
              | 3, _ => exact G.ob_val [(19, .pointer (some ⟨BP, 0, none⟩))] rfl rfl (fun _ => by kernel_rfl) (fun A w ⟨e0, _⟩ hB => ld_pt e0 (hB.cell p0 nP) (hB.cell p1 nP) (hB.cell p2 nP))
              | 4, _ => exact G.ob_val [(3, .slice (some ⟨g, 0, none⟩) n cap)] rfl rfl (fun _ => by kernel_rfl) (fun A w ⟨e0, _⟩ hB => doV_move e0)
              | 5, _ => exact G.ob_val [(17, .pointer (some ⟨BO, 0, none⟩))] rfl rfl (fun _ => by kernel_rfl) (fun A w ⟨e0, _⟩ hB => fa_evd0 e0)
              | 6, _ => exact G.ob_val [(101, .pointer (some ⟨BO, 0, none⟩))] rfl rfl (fun _ => by kernel_rfl) (fun A w ⟨e0, _⟩ hB => ld_ptsl e0 (hB.cell o0 nO))
              | 7, _ => exact G.ob_val [(4, .int .u64 r)] rfl rfl (fun _ => by kernel_rfl) (fun A w ⟨e0, _⟩ hB => doV_move e0)
              | 8, _ => exact G.ob_val [(96, .int .i64 1), (97, .int .u64 tN), (98, .agg #[.int .u64 (px gG), .int .u64 (py gG), .bool (pb gG)]), (99, .agg #[.int .u64 (px pu), .int .u64 (py pu), .bool (pb pu)]), (100, .slice (some ⟨g, 0, none⟩) n cap), (102, v), (103, .int .u64 r)] rfl rfl (fun _ => by kernel_rfl) (fun A w ⟨e0, e1, e2, e3, e4, e5, e6, _⟩ hB => cl7 cf_spec_Prove e0 e1 e2 e3 e4 e5 e6 (PV' w hB))
              | 9, _ => exact G.ob_val [(104, .tuple #[.agg #[.int .u64 pc, .int .u64 ps], .bool true])] rfl rfl (fun _ => by kernel_rfl) (fun A w ⟨e0, _⟩ hB => doV_move e0)
              | 10, _ => exact G.ob_val [(95, .tuple #[.agg #[.int .u64 pc, .int .u64 ps], .bool true])] rfl rfl (fun _ => by kernel_rfl) (fun A w ⟨e0, _⟩ hB => xt2_0 e0)
              | 11, _ => exact G.ob_val [(95, .tuple #[.agg #[.int .u64 pc, .int .u64 ps], .bool true])] rfl rfl (fun _ => by kernel_rfl) (fun A w ⟨e0, _⟩ hB => xt2_1 e0)
              | 12, _ => exact G.ob_set (fun f => [(20, .pointer (some ⟨BF, 0, none⟩)), (105, .agg #[.int .u64 pc, .int .u64 ps])]) rfl rfl rfl (by simp) lf (fun j ob1 ob2 h => by (rcases j with _ | _ | _ | _ | _ | _ | _ | _ | _ | _ | _ | _ | _ | j) <;> simp [G.kindOf] at h ⊢ <;> omega) (fun _ => by kernel_rfl) (fun f A w ⟨e0, e1, _⟩ hh hr => pu_prf e0 e1 hr)
              | ix + 13, h => exact absurd h (by simp)
            intro f W7 hS _ _ _ hset
            replace rF : P2 W7 40 BF pc ps := hset 12 _ _ _ rfl (by decide)
            replace rO : Bk W7 42 BO #[v, .int .u64 0, .int .u64 0] := (hS.block BO rO.lt nO).trans rO
            replace rA : Bk W7 42 w.heap.size #[.slice none 0 0, .int .u64 0, .int .u64 0] := (hS.block _ rA.lt (fun h => absurd (List.mem_singleton.1 h) (by omega))).trans rA
            replace hb := hU W7 hS
            replace hown := hW W7 hS
            clear hset hS p0 p1 p2 o0 PV PV' hU hW rP nP nO lf
            simp only [puts, List.foldl, Act.put, List.setIfInBounds_toArray, List.set_cons_zero, List.set_cons_succ]
            have o0 := rO.cell (k := 0) rfl
            have f0 := rF.c0
            have f1 := rF.c1
            have ht1 := rO.thereAt 1 2 (by simp)
            have rO2 : Bk (W7.setCells BO 1 [.int .u64 pc, .int .u64 ps]) 42 BO #[v, .int .u64 pc, .int .u64 ps] := rO.part (cs := [v, .int .u64 0, .int .u64 0]) 1 [.int .u64 pc, .int .u64 ps] (by simp)
            have rA2 := rA.setsO (b' := BO) (by omega) 1 [.int .u64 pc, .int .u64 ps]
            have hw2 := own_sets hown (own_ne_bk hown rO (by decide)) 1 [.int .u64 pc, .int .u64 ps]
            have hb2 := below_setCells hb (g := BO) (by omega) 1 [.int .u64 pc, .int .u64 ps]
            have ht2 := rA2.there 3 (by simp)
            have p0 := rO2.cell (k := 0) rfl
            have p1 := rO2.cell (k := 1) rfl
            have p2 := rO2.cell (k := 2) rfl
            have mk1 := True.intro
            have mk2 := True.intro
            go_wp2_with (first | (clear mk1; refine wpList_store_mid rfl 40 _ _ rfl BO 1 #[.int .u64 pc, .int .u64 ps] rfl rfl ht1 sizePrf (by kernel_rfl) ?_) | (clear mk2; refine wpList_store_mid rfl 42 _ _ rfl w.heap.size 0 #[v, .int .u64 pc, .int .u64 ps] rfl rfl ht2 sizeEvd (onev hown _ _) ?_))
            refine bodyPost_ret (v := .tuple #[.agg #[v, .int .u64 pc, .int .u64 ps], .int .i64 0]) (bk_res2 (fn := Tryz.f15) (p := 10) (u := 11) Tryz.results15 _ rfl (rA2.sets _ rfl) Tryz.underlying42 rfl sizeEvd) rfl ⟨v, rfl, own_sets hw2 (own_ne_bk hw2 rA2 (by decide)) 0 _, below_setCells hb2 (by omega) _ _⟩
          · go_wp2
            generalize (w5.alloc _).alloc _ = W6 at *
            obtain ⟨BF, hBF⟩ : ∃ BF, BF = w5.heap.size + 1 := ⟨_, rfl⟩
            rw [← hBF] at rF
            rw [← hBF]
            generalize w5.heap.size = BP at *
            have hPF : BP < BF := by omega
            clear hBF
            have p0 : W6.drew.cell? ⟨BP, 0, none⟩ = _ := rP.cell (k := 0) rfl
            have p1 : W6.drew.cell? ⟨BP, 1, none⟩ = _ := rP.cell (k := 1) rfl
            have p2 : W6.drew.cell? ⟨BP, 2, none⟩ = _ := rP.cell (k := 2) rfl
            have o0 : W6.drew.cell? ⟨BO, 0, none⟩ = _ := rO.cell (k := 0) rfl
            have nP : BP ∉ [BF] := fun h => absurd (List.mem_singleton.1 h) (by omega)
            have nO : BO ∉ [BF] := fun h => absurd (List.mem_singleton.1 h) (by omega)
            have lf : BF < W6.drew.heap.size := rF.lt
            have hU : ∀ w', G.Sides [BF] W6.drew w' → Below w.heap.size w w' := fun w' h => h.under hb.drew (by intro b h; rw [List.mem_singleton.1 h]; omega) hb.size
            have hW : ∀ w', G.Sides [BF] W6.drew w' → w'.ownsRow w.heap.size 28 3 v n (cells3 (es.map fun t => nt fN (asT t))) := fun w' h => own_sides hown.drew h (fun b hb => by rw [List.mem_singleton.1 hb]; exact own_ne_bk hown (show Bk W6 40 BF _ from rF) (by decide))
            have PV' : ∀ w', G.Sides [BF] W6.drew w' → _ := fun w' h => PV w' v (hU w' h) (hW w' h)
            refine G.pool_list (W := W6) [BF] [.val (.int .i64 2),
                .val (.int .u64 tN),
                .val (.agg #[.int .u64 (px gG), .int .u64 (py gG), .bool (pb gG)]),
                .val (.agg #[.int .u64 (px pu), .int .u64 (py pu), .bool (pb pu)]),
                .val (.pointer (some ⟨BO, 0, none⟩)),
                .val (v),
                .val (.slice (some ⟨g, 0, none⟩) n cap),
                .val (.int .u64 r),
                .val (.tuple #[.agg #[.int .u64 pc, .int .u64 ps], .bool true]),
                .val (.tuple #[.agg #[.int .u64 pc, .int .u64 ps], .bool true]),
                .val (.agg #[.int .u64 pc, .int .u64 ps]),
                .val (.bool true),
                .set (BF) (.cells #[.int .u64 0, .int .u64 0] 40) (.cells #[.int .u64 pc, .int .u64 ps] 40)] [[0], [15], [], [19], [17], [114], [3], [4], [110, 111, 112, 113, 115, 116, 117], [118], [109], [109], [20, 119]] (fun f => [(some 110, .int .i64 2), (some 111, .int .u64 tN), (some 112, .agg #[.int .u64 (px gG), .int .u64 (py gG), .bool (pb gG)]), (some 113, .agg #[.int .u64 (px pu), .int .u64 (py pu), .bool (pb pu)]), (some 114, .pointer (some ⟨BO, 0, none⟩)), (some 115, v), (some 116, .slice (some ⟨g, 0, none⟩) n cap), (some 117, .int .u64 r), (some 118, .tuple #[.agg #[.int .u64 pc, .int .u64 ps], .bool true]), (some 109, .tuple #[.agg #[.int .u64 pc, .int .u64 ps], .bool true]), (some 119, .agg #[.int .u64 pc, .int .u64 ps]), (some 120, .bool true), (none, undef)]) (by kernel_rfl) (by kernel_rfl) (by kernel_rfl) (by kernel_rfl) (fun _ => by kernel_rfl) (G.last_of [.cells #[.int .u64 0, .int .u64 0] 40] (fun F R hm => by simp at hm) (fun ob ob' k hm => by simp at hm) (fun b ob ob' hm => by simp at hm; simp [hm])) (fun b ob ob' hm => by simp at hm; obtain ⟨rfl, rfl, -⟩ := hm; exact rF) ?_ ?_
            · intro ix hix
              match ix, hix with
              | 0, _ => exact G.ob_val [(0, .int .i64 2)] rfl rfl (fun _ => by kernel_rfl) (fun A w ⟨e0, _⟩ hB => doV_move e0)
              | 1, _ => exact G.ob_val [(15, .int .u64 tN)] rfl rfl (fun _ => by kernel_rfl) (fun A w ⟨e0, _⟩ hB => doV_move e0)
              | 2, _ => exact G.ob_val [] rfl rfl (fun _ => by kernel_rfl) (fun A w _ hB => cl0 cf_spec_Base  (bsG w))
              | 3, _ => exact G.ob_val [(19, .pointer (some ⟨BP, 0, none⟩))] rfl rfl (fun _ => by kernel_rfl) (fun A w ⟨e0, _⟩ hB => ld_pt e0 (hB.cell p0 nP) (hB.cell p1 nP) (hB.cell p2 nP))
              | 4, _ => exact G.ob_val [(17, .pointer (some ⟨BO, 0, none⟩))] rfl rfl (fun _ => by kernel_rfl) (fun A w ⟨e0, _⟩ hB => fa_evd0 e0)
              | 5, _ => exact G.ob_val [(114, .pointer (some ⟨BO, 0, none⟩))] rfl rfl (fun _ => by kernel_rfl) (fun A w ⟨e0, _⟩ hB => ld_ptsl e0 (hB.cell o0 nO))
              | 6, _ => exact G.ob_val [(3, .slice (some ⟨g, 0, none⟩) n cap)] rfl rfl (fun _ => by kernel_rfl) (fun A w ⟨e0, _⟩ hB => doV_move e0)
              | 7, _ => exact G.ob_val [(4, .int .u64 r)] rfl rfl (fun _ => by kernel_rfl) (fun A w ⟨e0, _⟩ hB => doV_move e0)
              | 8, _ => exact G.ob_val [(110, .int .i64 2), (111, .int .u64 tN), (112, .agg #[.int .u64 (px gG), .int .u64 (py gG), .bool (pb gG)]), (113, .agg #[.int .u64 (px pu), .int .u64 (py pu), .bool (pb pu)]), (115, v), (116, .slice (some ⟨g, 0, none⟩) n cap), (117, .int .u64 r)] rfl rfl (fun _ => by kernel_rfl) (fun A w ⟨e0, e1, e2, e3, e4, e5, e6, _⟩ hB => cl7 cf_spec_Prove e0 e1 e2 e3 e4 e5 e6 (PV' w hB))
              | 9, _ => exact G.ob_val [(118, .tuple #[.agg #[.int .u64 pc, .int .u64 ps], .bool true])] rfl rfl (fun _ => by kernel_rfl) (fun A w ⟨e0, _⟩ hB => doV_move e0)
              | 10, _ => exact G.ob_val [(109, .tuple #[.agg #[.int .u64 pc, .int .u64 ps], .bool true])] rfl rfl (fun _ => by kernel_rfl) (fun A w ⟨e0, _⟩ hB => xt2_0 e0)
              | 11, _ => exact G.ob_val [(109, .tuple #[.agg #[.int .u64 pc, .int .u64 ps], .bool true])] rfl rfl (fun _ => by kernel_rfl) (fun A w ⟨e0, _⟩ hB => xt2_1 e0)
              | 12, _ => exact G.ob_set (fun f => [(20, .pointer (some ⟨BF, 0, none⟩)), (119, .agg #[.int .u64 pc, .int .u64 ps])]) rfl rfl rfl (by simp) lf (fun j ob1 ob2 h => by (rcases j with _ | _ | _ | _ | _ | _ | _ | _ | _ | _ | _ | _ | _ | j) <;> simp [G.kindOf] at h ⊢ <;> omega) (fun _ => by kernel_rfl) (fun f A w ⟨e0, e1, _⟩ hh hr => pu_prf e0 e1 hr)
              | ix + 13, h => exact absurd h (by simp)
            intro f W7 hS _ _ _ hset
            replace rF : P2 W7 40 BF pc ps := hset 12 _ _ _ rfl (by decide)
            replace rO : Bk W7 42 BO #[v, .int .u64 0, .int .u64 0] := (hS.block BO rO.lt nO).trans rO
            replace rA : Bk W7 42 w.heap.size #[.slice none 0 0, .int .u64 0, .int .u64 0] := (hS.block _ rA.lt (fun h => absurd (List.mem_singleton.1 h) (by omega))).trans rA
            replace hb := hU W7 hS
            replace hown := hW W7 hS
            clear hset hS p0 p1 p2 o0 PV PV' hU hW rP nP nO lf
            simp only [puts, List.foldl, Act.put, List.setIfInBounds_toArray, List.set_cons_zero, List.set_cons_succ]
            have o0 := rO.cell (k := 0) rfl
            have f0 := rF.c0
            have f1 := rF.c1
            have ht1 := rO.thereAt 1 2 (by simp)
            have rO2 : Bk (W7.setCells BO 1 [.int .u64 pc, .int .u64 ps]) 42 BO #[v, .int .u64 pc, .int .u64 ps] := rO.part (cs := [v, .int .u64 0, .int .u64 0]) 1 [.int .u64 pc, .int .u64 ps] (by simp)
            have rA2 := rA.setsO (b' := BO) (by omega) 1 [.int .u64 pc, .int .u64 ps]
            have hw2 := own_sets hown (own_ne_bk hown rO (by decide)) 1 [.int .u64 pc, .int .u64 ps]
            have hb2 := below_setCells hb (g := BO) (by omega) 1 [.int .u64 pc, .int .u64 ps]
            have ht2 := rA2.there 3 (by simp)
            have p0 := rO2.cell (k := 0) rfl
            have p1 := rO2.cell (k := 1) rfl
            have p2 := rO2.cell (k := 2) rfl
            have mk1 := True.intro
            have mk2 := True.intro
            go_wp2_with (first | (clear mk1; refine wpList_store_mid rfl 40 _ _ rfl BO 1 #[.int .u64 pc, .int .u64 ps] rfl rfl ht1 sizePrf (by kernel_rfl) ?_) | (clear mk2; refine wpList_store_mid rfl 42 _ _ rfl w.heap.size 0 #[v, .int .u64 pc, .int .u64 ps] rfl rfl ht2 sizeEvd (onev hown _ _) ?_))
            refine bodyPost_ret (v := .tuple #[.agg #[v, .int .u64 pc, .int .u64 ps], .int .i64 0]) (bk_res2 (fn := Tryz.f15) (p := 10) (u := 11) Tryz.results15 _ rfl (rA2.sets _ rfl) Tryz.underlying42 rfl sizeEvd) rfl ⟨v, rfl, own_sets hw2 (own_ne_bk hw2 rA2 (by decide)) 0 _, below_setCells hb2 (by omega) _ _⟩
end
def mks (n : Nat) : List Tri := (List.range n).map fun i => (3 * i + 1, 3 * i + 1 + 1, true)
theorem mks_length (n : Nat) : (mks n).length = n := by simp [mks]
theorem mks_at {n i : Nat} {t : Tri} (h : (mks n)[i]? = some t) : i < n ∧ t = (3 * i + 1, 3 * i + 1 + 1, true) := by
  have hi := (List.getElem?_eq_some_iff.1 h).1
  rw [mks_length] at hi
  unfold mks at h
  rw [List.getElem?_map, List.getElem?_range hi] at h
  simp at h
  exact ⟨hi, h.symm⟩
def Rs (W : World) (B : Nat) (v : Value) (ts : List Tri) : Prop :=
  (v = .slice none 0 0 ∧ ts = []) ∨ ∃ g cap cur, v = .slice (some ⟨g, 0, none⟩) ts.length cap ∧ B ≤ g ∧ W.heap[g]? = some (.cells cur 28) ∧ InA cur ts
section
variable {W W' : World} {B : Nat} {v : Value} {ts : List Tri}
theorem Rs.ars (h : Rs W B v ts) : Ars W v ts := by
  rcases h with ⟨rfl, rfl⟩ | ⟨g, cap, cur, rfl, -, hg, hi⟩
  · exact ⟨none, 0, 0, rfl, rfl, .inl rfl⟩
  · exact ⟨_, _, _, rfl, rfl, .inr ⟨g, 0, rfl, hi.pts hg⟩⟩
theorem Rs.keep (h : Rs W B v ts) (hb : Below W.heap.size W W') : Rs W' B v ts := by
  rcases h with h | ⟨g, cap, cur, hv, hB, hg, hi⟩
  · exact .inl h
  · exact .inr ⟨g, cap, cur, hv, hB, (hb.block g (Array.getElem?_eq_some_iff.1 hg).1).trans hg, hi⟩
theorem Rs.of_own {ps : List Pt} (h : W.ownsRow B 28 3 v ps.length (cells3 ps)) (hon : ∀ p ∈ ps, on p) : Rs W B v (ps.map ptT) := by
  rcases h.2 with ⟨rfl, h0⟩ | ⟨g, cap, cur, rfl, hb, hg, hn, hm, hs, ht⟩
  · have : ps = [] := List.eq_nil_of_length_eq_zero h0
    subst this
    exact .inl ⟨rfl, rfl⟩
  · refine .inr ⟨g, cap, cur, by rw [List.length_map], hb, hg, fun i t hi => ?_⟩
    rw [List.getElem?_map] at hi
    obtain ⟨p, hp, rfl⟩ := Option.map_eq_some_iff.1 hi
    obtain ⟨-, e1, e2, e3, -⟩ := ptT_of (hon p (List.mem_of_getElem? hp))
    have hil := (List.getElem?_eq_some_iff.1 hp).1
    obtain ⟨c0, c1, c2⟩ := cells3_at ps i p hp
    rw [← e1, ← e2, ← e3]
    rw [← ht, List.getElem?_take, if_pos (by omega), Array.getElem?_toList] at c0 c1 c2
    exact ⟨c0, c1, c2⟩
theorem InA.size {cur : Array Value} {ts : List Tri} (h : InA cur ts) : ts.length * 3 ≤ cur.size := by
  rcases Nat.eq_zero_or_pos ts.length with h0 | hp
  · omega
  · obtain ⟨t, ht⟩ : ∃ t, ts[ts.length - 1]? = some t := ⟨_, List.getElem?_eq_getElem (by omega)⟩
    have := (Array.getElem?_eq_some_iff.1 (h _ t ht).2.2).1
    omega
end
theorem mrkS_any (x n cap : Nat) (cur0 : Array Value) (w : World) (hx : w.heap[x]? = some (.cells cur0 28)) (hsz : n * 3 ≤ cur0.size) (hn : n ≤ 1048576) :
    Calls Tryz.prog 20 #[.slice (some ⟨x, 0, none⟩) n cap, .int .i64 1] w fun e w' => e = .returned (.int .i64 ((3 * n + 1 : Nat) : Int)) ∧ (∃ cur', w'.heap[x]? = some (.cells cur' 28) ∧ InA cur' (mks n)) ∧ (∀ b, b ≠ x → w'.heap[b]? = w.heap[b]?) ∧ Below x w w' := by
  obtain ⟨S, hS⟩ : ∃ S, cur0.size = S := ⟨_, rfl⟩
  rw [hS] at hsz
  go_enter Tryz.func20, Tryz.ntmps20
  go_wp2
  go_loopw [1, 5] (fun kv iv wr => ∃ (j k : Nat) (cur : Array Value), j ≤ n ∧ Hid (k = 3 * j + 1) ∧ kv = .int .i64 (k : Int) ∧ iv = .int .i64 (j : Int) ∧ wr.heap[x]? = some (.cells cur 28) ∧ cur.size = S ∧ InA cur (mks j) ∧ (∀ b, b ≠ x → wr.heap[b]? = w.heap[b]?) ∧ Below x w wr) (fun _ i _ => n - (intOf i).toNat)
  case atStart => exact ⟨0, 1, cur0, by omega, rfl, rfl, rfl, hx, hS, fun i t ht => by simp [mks] at ht, fun _ _ => rfl, Below.refl _ _⟩
  case round =>
    clear hx hS
    obtain ⟨j, k, cur, hj, hk, rfl, rfl, hg, hs, hin, ho, hbl⟩ := hrel
    by_cases hlt : j < n
    · have hli : (j : Int) < (n : Int) := by omega
      have hk' := hk.out
      have hkb : (k : Int) < 4000000 := by omega
      have e1 : IntKind.u64.wrap (k : Int) = (k : Int) := by rw [IntKind.wrap_u64]; omega
      have e2 : IntKind.u64.wrap ((k : Int) + 1) = (k : Int) + 1 := by rw [IntKind.wrap_u64]; omega
      have e3 : ((k : Int) + 1 + 1).tmod 3 = 0 := by rw [Int.tmod_eq_emod_of_nonneg (by omega)]; omega
      have d0 : wr.cell? ⟨x, j * 3, none⟩ = some cur[j * 3] := by rw [cell_of_row _ _ _ _ _ _ hg]; exact Array.getElem?_eq_getElem (by omega)
      have d1 : wr.cell? ⟨x, j * 3 + 1, none⟩ = some cur[j * 3 + 1] := by rw [cell_of_row _ _ _ _ _ _ hg]; exact Array.getElem?_eq_getElem (by omega)
      have d2 : wr.cell? ⟨x, j * 3 + 2, none⟩ = some cur[j * 3 + 2] := by rw [cell_of_row _ _ _ _ _ _ hg]; exact Array.getElem?_eq_getElem (by omega)
      have f0 : ∀ i, wr.frozen? ⟨x, i, none⟩ = false := fun i => frozen_of_row _ _ i _ _ hg
      generalize cur[j * 3] = u0 at *
      generalize cur[j * 3 + 1] = u1 at *
      generalize cur[j * 3 + 2] = u2 at *
      clear hk'
      go_wp2
      obtain ⟨cur', q1, q2, q3, q4, q5, q6⟩ := set3_at hg (k := j * 3) (by omega) (.int .u64 (k : Int)) (.int .u64 ((k : Int) + 1)) (.bool true)
      have R1 : InA cur' (mks (j + 1)) := by
        intro i t ht
        obtain ⟨hi, rfl⟩ := mks_at ht
        by_cases hij : i < j
        · have := hin i (3 * i + 1, 3 * i + 1 + 1, true) (by unfold mks; rw [List.getElem?_map, List.getElem?_range hij]; rfl)
          rw [q6 _ (by omega), q6 _ (by omega), q6 _ (by omega)]
          exact this
        · obtain rfl : i = j := by omega
          refine ⟨q3.trans ?_, q4.trans ?_, q5⟩
          · rw [hk.out]
          · rw [hk.out]; rfl
      have R2 : Below x w (((wr.setCell ⟨x, j * 3, none⟩ (.int .u64 (k : Int))).setCell ⟨x, j * 3 + 1, none⟩ (.int .u64 ((k : Int) + 1))).setCell ⟨x, j * 3 + 2, none⟩ (.bool true)) :=
        ((hbl.setCell (p := ⟨x, j * 3, none⟩) (Nat.le_refl _) _).setCell (p := ⟨x, j * 3 + 1, none⟩) (Nat.le_refl _) _).setCell (p := ⟨x, j * 3 + 2, none⟩) (Nat.le_refl _) _
      have R3 : ∀ b, b ≠ x → (((wr.setCell ⟨x, j * 3, none⟩ (.int .u64 (k : Int))).setCell ⟨x, j * 3 + 1, none⟩ (.int .u64 ((k : Int) + 1))).setCell ⟨x, j * 3 + 2, none⟩ (.bool true)).heap[b]? = w.heap[b]? := fun b hb => by
        rw [← ho b hb]
        simp [World.setCell, Array.getElem?_modify, Ne.symm hb]
      rw [hs] at q2
      clear d0 d1 d2 f0 hin hg hbl q3 q4 q5 q6 ho
      generalize ((wr.setCell ⟨x, j * 3, none⟩ (.int .u64 (k : Int))).setCell ⟨x, j * 3 + 1, none⟩ (.int .u64 ((k : Int) + 1))).setCell ⟨x, j * 3 + 2, none⟩ (.bool true) = W3 at *
      go_roundw
      case rel =>
        first
          | exact ⟨j + 1, k + 3, cur', by omega, (show k + 3 = 3 * (j + 1) + 1 by have := hk.out; omega), by go_num, by go_num, q1, q2, R1, R3, R2⟩
          | ((repeat apply Exists.intro); exact ⟨⟨j + 1, k + 3, cur', by omega, (show k + 3 = 3 * (j + 1) + 1 by have := hk.out; omega), by go_num, by go_num, q1, q2, R1, R3, R2⟩, rfl⟩)
      case measure => simp [intOf]; omega
    · obtain rfl : j = n := by omega
      go_wp2
      go_ret
      exact ⟨by have h := hk.out; simp [h], ⟨cur, hg, hin⟩, ho, hbl⟩
theorem hldS_any (x n cap : Nat) (w : World) (hn : n ≤ 1048576) (hp : Pts w x 0 (mks n)) :
    Calls Tryz.prog 52 #[.slice (some ⟨x, 0, none⟩) n cap, .int .i64 1] w fun e w' => e = .returned (.int .i64 ((3 * n + 1 : Nat) : Int)) ∧ w = w' := by
  have H : Hid (∀ j, j < n → w.cell? ⟨x, 0 + j * 3, none⟩ = some (.int .u64 ((3 * j + 1 : Nat) : Int)) ∧ w.cell? ⟨x, 0 + j * 3 + 1, none⟩ = some (.int .u64 ((3 * j + 1 + 1 : Nat) : Int)) ∧ w.cell? ⟨x, 0 + j * 3 + 2, none⟩ = some (.bool true)) := fun j hj => by
    have ht : (mks n)[j]? = some (3 * j + 1, 3 * j + 1 + 1, true) := by unfold mks; rw [List.getElem?_map, List.getElem?_range hj]; rfl
    exact ⟨hp.c0 j _ ht, hp.c1 j _ ht, hp.c2 j _ ht⟩
  clear hp
  go_enter Tryz.func52, Tryz.ntmps52
  go_wp2
  go_loop [1, 5] (fun kv iv => ∃ j k : Nat, j ≤ n ∧ Hid (k = 3 * j + 1) ∧ kv = .int .i64 (k : Int) ∧ iv = .int .i64 (j : Int)) (fun _ i => n - (intOf i).toNat)
  case atStart => exact ⟨0, 1, by omega, rfl, rfl, rfl⟩
  case round =>
    obtain ⟨j, k, hj, hk, rfl, rfl⟩ := hrel
    by_cases hlt : j < n
    · have hli : (j : Int) < (n : Int) := by omega
      have hk' := hk.out
      have hkb : (k : Int) < 4000000 := by omega
      have e1 : IntKind.u64.wrap (k : Int) = (k : Int) := by rw [IntKind.wrap_u64]; omega
      have e2 : IntKind.u64.wrap ((k : Int) + 1) = (k : Int) + 1 := by rw [IntKind.wrap_u64]; omega
      have e3 : ((k : Int) + 1 + 1).tmod 3 = 0 := by rw [Int.tmod_eq_emod_of_nonneg (by omega)]; omega
      obtain ⟨c0, c1, c2⟩ := H.out j hlt
      rw [← hk'] at c0 c1
      rw [show ((k + 1 : Nat) : Int) = (k : Int) + 1 from rfl] at c1
      rw [Nat.zero_add] at c0 c1 c2
      clear hk'
      go_wp2
      go_round
      case rel => exact ⟨j + 1, k + 3, by omega, (show k + 3 = 3 * (j + 1) + 1 by have := hk.out; omega), by go_num, by go_num⟩
      case measure => simp [intOf]; omega
    · obtain rfl : j = n := by omega
      go_wp2
      go_ret
      exact ⟨by have h := hk.out; simp [h], rfl⟩
theorem mrkS_zero (a : Option Addr) (c : Nat) (w : World) :
    Calls Tryz.prog 20 #[.slice a 0 c, .int .i64 1] w fun e w' => e = .returned (.int .i64 1) ∧ w = w' := by
  go_enter Tryz.func20, Tryz.ntmps20
  go_wp2
  go_loop [1, 5] (fun kv iv => kv = .int .i64 1 ∧ iv = .int .i64 0) (fun _ _ => 0)
  case atStart => exact ⟨rfl, rfl⟩
  case round =>
    obtain ⟨rfl, rfl⟩ := hrel
    go_wp2
    go_ret
    exact ⟨rfl, rfl⟩
theorem hldS_zero (a : Option Addr) (c : Nat) (w : World) :
    Calls Tryz.prog 52 #[.slice a 0 c, .int .i64 1] w fun e w' => e = .returned (.int .i64 1) ∧ w = w' := by
  go_enter Tryz.func52, Tryz.ntmps52
  go_wp2
  go_loop [1, 5] (fun kv iv => kv = .int .i64 1 ∧ iv = .int .i64 0) (fun _ _ => 0)
  case atStart => exact ⟨rfl, rfl⟩
  case round =>
    obtain ⟨rfl, rfl⟩ := hrel
    go_wp2
    go_ret
    exact ⟨rfl, rfl⟩
theorem tpsL_at (v : Value) (ps : List Tri) (w : World) (hA : Ars w v ps) (hn : ps.length ≤ 1048576) :
    Calls Tryz.prog 16 #[v] w fun e w' => e = .returned (.slice (some ⟨w.heap.size, 0, none⟩) ps.length ps.length) ∧ Mad w.heap.size ps w' ∧ Below w.heap.size w w' := by
  obtain ⟨a, n, cap, rfl, hl, hA⟩ := hA
  obtain ⟨i0, hi, hz0, hz1, hz2⟩ := info_parts infoPt
  rw [hl] at hn ⊢
  obtain ⟨w1, hmk, ⟨cur1, hg1, hs1⟩, hbl1⟩ : ∃ w1, (Instr.makeSlice 38 (.int .i64 n) (.int .i64 n)).run Tryz.prog w = .ok (.slice (some ⟨w.heap.size, 0, none⟩) n n) w1 ∧ (∃ cur, w1.heap[w.heap.size]? = some (.cells cur 28) ∧ cur.size = n * 3) ∧ Below w.heap.size w w1 := by
    obtain ⟨w1, hr, ho, hg⟩ := run_make_full (P := Tryz.prog) w w.heap.size 38 28 i0 (.agg #[.int .u64 0, .int .u64 0, .bool false]) 3 Tryz.underlying38 hi hz0 hz1 .i64 .i64 n (by rw [hz2]; omega) (by unfold maxLen; omega) (Nat.le_refl _)
    refine ⟨w1, hr, ?_, (Below.refl _ _).grown hg (Nat.le_refl _) (fun r hr => by cases hr)⟩
    rcases ho.2 with ⟨h0, _⟩ | ⟨g, cp, cur, hv, -, hcur, -, -, hsz, -⟩
    · cases h0
    · injection hv with e1 e2 e3
      injection e1 with e1
      injection e1 with e1
      subst e1 e3
      exact ⟨cur, hcur, hsz⟩
  have hT := toP5
  go_enter Tryz.func16, Tryz.ntmps16
  go_wp2
  go_loopw [4] (fun iv wr => ∃ (j : Nat) (cur : Array Value), j ≤ n ∧ iv = .int .i64 (j : Int) ∧ wr.heap[w.heap.size]? = some (.cells cur 28) ∧ cur.size = n * 3 ∧ InA cur (ps.take j) ∧ Below w.heap.size w wr) (fun i _ => n - (intOf i).toNat)
  case atStart => exact ⟨0, cur1, by omega, rfl, hg1, hs1, fun i t ht => by simp at ht, hbl1⟩
  case round =>
    clear hg1 hs1 hbl1 hmk
    obtain ⟨j, cur, hj, rfl, hg, hs, hin, hbl⟩ := hrel
    by_cases hlt : j < n
    · have hli : (j : Int) < (n : Int) := by omega
      obtain ⟨g, o, rfl, hp⟩ : ∃ g o, a = some ⟨g, o, none⟩ ∧ Pts w g o ps := by
        rcases hA with h0 | h
        · omega
        · exact h
      obtain ⟨t, ht⟩ : ∃ t, ps[j]? = some t := ⟨_, List.getElem?_eq_getElem (by omega)⟩
      have pp := hp.below hbl hp.lt
      have c0 := pp.c0 j t ht
      have c1 := pp.c1 j t ht
      have c2 := pp.c2 j t ht
      have htk : Hid (ps.take (j + 1) = ps.take j ++ [t]) := by simp only [Hid]; rw [List.take_add_one, ht]; rfl
      obtain ⟨tx, ty, tc⟩ := t
      dsimp only at c0 c1 c2
      have hl3 : (ps.take j).length = j := by rw [List.length_take]; omega
      clear ht pp hp hA
      go_wp2_with fail
      refine (hT _ _ _ _).mono ?_
      rintro e w2 ⟨rfl, b2⟩
      have hlt2 : w.heap.size < wr.heap.size := (Array.getElem?_eq_some_iff.1 hg).1
      replace hg := (b2.block _ hlt2).trans hg
      replace hbl := hbl.trans (b2.mono hbl.size)
      clear b2 c0 c1 c2 hlt2
      have d0 : w2.cell? ⟨w.heap.size, j * 3, none⟩ = some cur[j * 3] := by rw [cell_of_row _ _ _ _ _ _ hg]; exact Array.getElem?_eq_getElem (by omega)
      have d1 : w2.cell? ⟨w.heap.size, j * 3 + 1, none⟩ = some cur[j * 3 + 1] := by rw [cell_of_row _ _ _ _ _ _ hg]; exact Array.getElem?_eq_getElem (by omega)
      have d2 : w2.cell? ⟨w.heap.size, j * 3 + 2, none⟩ = some cur[j * 3 + 2] := by rw [cell_of_row _ _ _ _ _ _ hg]; exact Array.getElem?_eq_getElem (by omega)
      have f0 : ∀ i, w2.frozen? ⟨w.heap.size, i, none⟩ = false := fun i => frozen_of_row _ _ i _ _ hg
      generalize cur[j * 3] = u0 at *
      generalize cur[j * 3 + 1] = u1 at *
      generalize cur[j * 3 + 2] = u2 at *
      go_wp2
      obtain ⟨cur', q1, q2, q3, q4, q5, q6⟩ := set3_at hg (k := j * 3) (by omega) (.int .u64 (tx : Int)) (.int .u64 (ty : Int)) (.bool tc)
      have R1 : InA cur' (ps.take (j + 1)) := by
        rw [htk.out]
        intro i t ht
        by_cases hij : i < j
        · rw [List.getElem?_append_left (by omega)] at ht
          have := hin i t ht
          rw [q6 _ (by omega), q6 _ (by omega), q6 _ (by omega)]
          exact this
        · rw [List.getElem?_append_right (by omega), hl3] at ht
          have h0 : i = j := by
            have := (List.getElem?_eq_some_iff.1 ht).1
            simp at this
            omega
          subst h0
          simp at ht
          subst ht
          exact ⟨q3, q4, q5⟩
      have R2 : Below w.heap.size w (((w2.setCell ⟨w.heap.size, j * 3, none⟩ (.int .u64 (tx : Int))).setCell ⟨w.heap.size, j * 3 + 1, none⟩ (.int .u64 (ty : Int))).setCell ⟨w.heap.size, j * 3 + 2, none⟩ (.bool tc)) :=
        ((hbl.setCell (p := ⟨w.heap.size, j * 3, none⟩) (Nat.le_refl _) _).setCell (p := ⟨w.heap.size, j * 3 + 1, none⟩) (Nat.le_refl _) _).setCell (p := ⟨w.heap.size, j * 3 + 2, none⟩) (Nat.le_refl _) _
      rw [hs] at q2
      clear d0 d1 d2 f0 hin hg hbl q3 q4 q5 q6
      generalize ((w2.setCell ⟨w.heap.size, j * 3, none⟩ (.int .u64 (tx : Int))).setCell ⟨w.heap.size, j * 3 + 1, none⟩ (.int .u64 (ty : Int))).setCell ⟨w.heap.size, j * 3 + 2, none⟩ (.bool tc) = W3 at *
      go_roundw
      case rel =>
        first
          | exact ⟨j + 1, cur', by omega, by go_num, q1, q2, R1, R2⟩
          | ((repeat apply Exists.intro); exact ⟨⟨j + 1, cur', by omega, by go_num, q1, q2, R1, R2⟩, rfl⟩)
      case measure => simp [intOf]; omega
    · obtain rfl : j = n := by omega
      rw [List.take_of_length_le (by omega)] at hin
      go_wp2
      go_ret
      exact ⟨rfl, ⟨cur, hg, hin⟩, hbl⟩
theorem eqS_pts (ps : List Tri) (x o1 k1 y o2 k2 : Nat) (w : World) (hX : Pts w x o1 ps) (hY : Pts w y o2 ps) (hn : ps.length ≤ 1048576) :
    Calls Tryz.prog 19 #[.slice (some ⟨x, o1, none⟩) ps.length k1, .slice (some ⟨y, o2, none⟩) ps.length k2] w fun e w' => e = .returned (.bool true) ∧ Below w.heap.size w w' := by
  obtain ⟨n, hl⟩ : ∃ n, ps.length = n := ⟨_, rfl⟩
  rw [hl] at hn ⊢
  go_enter Tryz.func19, Tryz.ntmps19
  go_wp2
  go_loopw [5] (fun iv wr => ∃ j : Nat, j ≤ n ∧ iv = .int .i64 (j : Int) ∧ Below w.heap.size w wr) (fun i _ => n - (intOf i).toNat)
  case atStart => exact ⟨0, by omega, rfl, Below.refl _ _⟩
  case round =>
    obtain ⟨j, hj, rfl, hbl⟩ := hrel
    by_cases hlt : j < n
    · have hli : (j : Int) < (n : Int) := by omega
      obtain ⟨t, ht⟩ : ∃ t, ps[j]? = some t := ⟨_, List.getElem?_eq_getElem (by omega)⟩
      have px' := (hX.below hbl hX.lt).drew
      have py' := (hY.below hbl hY.lt).drew
      have c0 := px'.c0 j t ht
      have c1 := px'.c1 j t ht
      have c2 := px'.c2 j t ht
      have d0 := py'.c0 j t ht
      have d1 := py'.c1 j t ht
      have d2 := py'.c2 j t ht
      have E := eqP (t.1 : Int) (t.2.1 : Int) t.2.2
      obtain ⟨tx, ty, tc⟩ := t
      dsimp only at c0 c1 c2 d0 d1 d2 E
      clear ht px' py'
      go_wp2
      refine pool_list [.val (.slice (some ⟨x, o1, none⟩) n k1),
          .val (.int .i64 (j : Int)),
          .val (.pointer (some ⟨x, o1 + j * 3, none⟩)),
          .val (.agg #[.int .u64 (tx : Int), .int .u64 (ty : Int), .bool tc]),
          .val (.slice (some ⟨y, o2, none⟩) n k2),
          .val (.int .i64 (j : Int)),
          .val (.pointer (some ⟨y, o2 + j * 3, none⟩)),
          .val (.agg #[.int .u64 (tx : Int), .int .u64 (ty : Int), .bool tc]),
          .val (.bool true),
          .val (.bool false)] [[0], [5], [17, 18], [19], [1], [5], [21, 22], [23], [20, 24], [25]] (fun f => [(some 17, .slice (some ⟨x, o1, none⟩) n k1), (some 18, .int .i64 (j : Int)), (some 19, .pointer (some ⟨x, o1 + j * 3, none⟩)), (some 20, .agg #[.int .u64 (tx : Int), .int .u64 (ty : Int), .bool tc]), (some 21, .slice (some ⟨y, o2, none⟩) n k2), (some 22, .int .i64 (j : Int)), (some 23, .pointer (some ⟨y, o2 + j * 3, none⟩)), (some 24, .agg #[.int .u64 (tx : Int), .int .u64 (ty : Int), .bool tc]), (some 25, .bool true), (some 26, .bool false)]) (by kernel_rfl) (by kernel_rfl) (by kernel_rfl) (by kernel_rfl) (fun _ => by kernel_rfl) ?_ ?_
      · intro ix hix
        match ix, hix with
        | 0, _ => exact ob_val [(0, .slice (some ⟨x, o1, none⟩) n k1)] rfl rfl (fun _ => by kernel_rfl) (fun A w ⟨e0, _⟩ hB => doV_move e0)
        | 1, _ => exact ob_val [(5, .int .i64 (j : Int))] rfl rfl (fun _ => by kernel_rfl) (fun A w ⟨e0, _⟩ hB => doV_move e0)
        | 2, _ => exact ob_val [(17, .slice (some ⟨x, o1, none⟩) n k1), (18, .int .i64 (j : Int))] rfl rfl (fun _ => by kernel_rfl) (fun A w ⟨e0, e1, _⟩ hB => ix_pts e0 e1 (by omega))
        | 3, _ => exact ob_val [(19, .pointer (some ⟨x, o1 + j * 3, none⟩))] rfl rfl (fun _ => by kernel_rfl) (fun A w ⟨e0, _⟩ hB => ld_pt e0 (keepC c0 hB) (keepC c1 hB) (keepC c2 hB))
        | 4, _ => exact ob_val [(1, .slice (some ⟨y, o2, none⟩) n k2)] rfl rfl (fun _ => by kernel_rfl) (fun A w ⟨e0, _⟩ hB => doV_move e0)
        | 5, _ => exact ob_val [(5, .int .i64 (j : Int))] rfl rfl (fun _ => by kernel_rfl) (fun A w ⟨e0, _⟩ hB => doV_move e0)
        | 6, _ => exact ob_val [(21, .slice (some ⟨y, o2, none⟩) n k2), (22, .int .i64 (j : Int))] rfl rfl (fun _ => by kernel_rfl) (fun A w ⟨e0, e1, _⟩ hB => ix_pts e0 e1 (by omega))
        | 7, _ => exact ob_val [(23, .pointer (some ⟨y, o2 + j * 3, none⟩))] rfl rfl (fun _ => by kernel_rfl) (fun A w ⟨e0, _⟩ hB => ld_pt e0 (keepC d0 hB) (keepC d1 hB) (keepC d2 hB))
        | 8, _ => exact ob_val [(20, .agg #[.int .u64 (tx : Int), .int .u64 (ty : Int), .bool tc]), (24, .agg #[.int .u64 (tx : Int), .int .u64 (ty : Int), .bool tc])] rfl rfl (fun _ => by kernel_rfl) (fun A w ⟨e0, e1, _⟩ hB => cl2 cf_eqPoint e0 e1 (E w))
        | 9, _ => exact ob_val [(25, .bool true)] rfl rfl (fun _ => by kernel_rfl) (fun A w ⟨e0, _⟩ hB => notT e0)
        | ix + 10, h => exact absurd h (by simp)
      intro f W2 hb2 _ _
      have hb2' : Below wr.heap.size wr W2 := (Below.refl _ wr).drew.trans hb2
      have R2 := hbl.trans (hb2'.mono hbl.size)
      clear c0 c1 c2 d0 d1 d2 E hb2 hb2' hbl
      simp only [puts, List.foldl, Act.put, List.setIfInBounds_toArray, List.set_cons_zero, List.set_cons_succ]
      go_wp2
      go_roundw
      case rel =>
        first
          | exact ⟨j + 1, by omega, by go_num, R2⟩
          | ((repeat apply Exists.intro); exact ⟨⟨j + 1, by omega, by go_num, R2⟩, rfl⟩)
      case measure => simp [intOf]; omega
    · obtain rfl : j = n := by omega
      go_wp2
      go_ret
      exact ⟨rfl, hbl⟩
theorem eqS_zero (a b : Option Addr) (k1 k2 : Nat) (w : World) :
    Calls Tryz.prog 19 #[.slice a 0 k1, .slice b 0 k2] w fun e w' => e = .returned (.bool true) ∧ w = w' := by
  go_enter Tryz.func19, Tryz.ntmps19
  go_wp2
  go_loop [5] (fun iv => iv = .int .i64 0) (fun _ => 0)
  case atStart => rfl
  case round =>
    subst hrel
    go_wp2
    go_ret
    exact ⟨rfl, rfl⟩
theorem eqS_any (ps : List Tri) (v1 v2 : Value) (w : World) (h1 : Ars w v1 ps) (h2 : Ars w v2 ps) (hn : ps.length ≤ 1048576) :
    Calls Tryz.prog 19 #[v1, v2] w fun e w' => e = .returned (.bool true) ∧ Below w.heap.size w w' := by
  obtain ⟨a, n, k1, rfl, hl, h1⟩ := h1
  obtain ⟨b, n', k2, rfl, hl', h2⟩ := h2
  obtain rfl : n = n' := hl.symm.trans hl'
  by_cases h0 : n = 0
  · subst h0
    exact (eqS_zero a b k1 k2 w).mono (by
      rintro e w' ⟨rfl, rfl⟩
      exact ⟨rfl, Below.refl _ _⟩)
  · rcases h1 with h | ⟨x, o1, rfl, p1⟩
    · exact absurd h h0
    · rcases h2 with h | ⟨y, o2, rfl, p2⟩
      · exact absurd h h0
      · rw [← hl]
        exact eqS_pts ps x o1 k1 y o2 k2 w p1 p2 hn
theorem eqE_of (a1 a2 : Option Addr) (n1 k1 n2 k2 : Nat) (pc ps : Int) (w : World)
    (E1 : ∀ w', Below w.heap.size w w' → Calls Tryz.prog 19 #[.slice a1 n1 k1, .slice a2 n2 k2] w' fun e w'' => e = .returned (.bool true) ∧ Below w'.heap.size w' w'') :
    Calls Tryz.prog 18 #[.agg #[.slice a1 n1 k1, .int .u64 pc, .int .u64 ps], .agg #[.slice a2 n2 k2, .int .u64 pc, .int .u64 ps]] w fun e w' => e = .returned (.bool true) ∧ Below w.heap.size w w' := by
  have E2 := fun w => eqF pc ps w
  obtain ⟨X, hX⟩ : ∃ X, X = (w.alloc (Obj.cells #[.slice a1 n1 k1, .int .u64 pc, .int .u64 ps] 42)).alloc (Obj.cells #[.slice a2 n2 k2, .int .u64 pc, .int .u64 ps] 42) := ⟨_, rfl⟩
  have r2 : Bk X 42 w.heap.size #[.slice a1 n1 k1, .int .u64 pc, .int .u64 ps] := by rw [hX]; exact (Bk.new _ _ _).alloc _
  have r3 : Bk X 42 (w.heap.size + 1) #[.slice a2 n2 k2, .int .u64 pc, .int .u64 ps] := by rw [hX]; exact (Bk.new _ _ _).at (by simp)
  have hb : Below w.heap.size w X := by rw [hX]; exact ((Below.refl _ w).alloc (Nat.le_refl _) _).alloc (by simp) _
  rw [hX] at r2 r3 hb
  clear hX
  have p0 := r2.cell (k := 0) rfl
  have q0 := r3.cell (k := 0) rfl
  go_enter Tryz.func18, Tryz.ntmps18
  go_wp2_with fail
  refine (E1 _ hb).mono ?_
  rintro e w1 ⟨rfl, b1⟩
  replace r2 := r2.keep b1
  replace r3 := r3.keep b1
  replace hb := hb.trans (b1.mono hb.size)
  clear E1 b1 p0 q0
  have p0 := r2.cell (k := 1) rfl
  have p1 := r2.cell (k := 2) rfl
  have q0 := r3.cell (k := 1) rfl
  have q1 := r3.cell (k := 2) rfl
  go_wp2_with fail
  refine (E2 _).mono ?_
  rintro e w2 ⟨rfl, b1⟩
  replace hb := hb.trans (b1.mono hb.size)
  clear E2 b1 p0 p1 q0 q1
  go_wp2
  go_ret
  exact ⟨rfl, hb⟩
theorem eqE2 (ts : List Tri) (u1 u2 : Value) (pc ps : Int) (w : World) (h1 : Ars w u1 ts) (h2 : Ars w u2 ts) (hn : ts.length ≤ 1048576) :
    Calls Tryz.prog 18 #[.agg #[u1, .int .u64 pc, .int .u64 ps], .agg #[u2, .int .u64 pc, .int .u64 ps]] w fun e w' => e = .returned (.bool true) ∧ Below w.heap.size w w' := by
  have H := fun w' (hb : Below w.heap.size w w') => eqS_any ts u1 u2 w' (h1.keep hb) (h2.keep hb) hn
  obtain ⟨a1, n1, k1, rfl, -⟩ := h1
  obtain ⟨a2, n2, k2, rfl, -⟩ := h2
  exact eqE_of a1 a2 n1 k1 n2 k2 pc ps w H
def mkv (n : Nat) : Int := ((3 * n + 1 : Nat) : Int)
theorem mkv_pos (n : Nat) : ¬ mkv n < 0 := by unfold mkv; omega
def Rw (W : World) (B C : Nat) (v : Value) (ts : List Tri) : Prop :=
  (v = .slice none 0 0 ∧ ts = []) ∨ ∃ g cap cur, v = .slice (some ⟨g, 0, none⟩) ts.length cap ∧ B ≤ g ∧ g < C ∧ W.heap[g]? = some (.cells cur 28) ∧ InA cur ts
section
variable {W W' : World} {B C : Nat} {v : Value} {ts : List Tri}
theorem Rs.rw (h : Rs W B v ts) : Rw W B W.heap.size v ts := by
  rcases h with h | ⟨g, cap, cur, hv, hB, hg, hi⟩
  · exact .inl h
  · exact .inr ⟨g, cap, cur, hv, hB, (Array.getElem?_eq_some_iff.1 hg).1, hg, hi⟩
theorem Rw.ars (h : Rw W B C v ts) : Ars W v ts := by
  rcases h with ⟨rfl, rfl⟩ | ⟨g, cap, cur, rfl, -, -, hg, hi⟩
  · exact ⟨none, 0, 0, rfl, rfl, .inl rfl⟩
  · exact ⟨_, _, _, rfl, rfl, .inr ⟨g, 0, rfl, hi.pts hg⟩⟩
theorem Rw.keep (h : Rw W B C v ts) (hb : Below W.heap.size W W') : Rw W' B C v ts := by
  rcases h with h | ⟨g, cap, cur, hv, hB, hC, hg, hi⟩
  · exact .inl h
  · exact .inr ⟨g, cap, cur, hv, hB, hC, (hb.block g (Array.getElem?_eq_some_iff.1 hg).1).trans hg, hi⟩
theorem Rw.same (h : Rw W B C v ts) (ho : ∀ b, B ≤ b → b < C → b < W.heap.size → W'.heap[b]? = W.heap[b]?) : Rw W' B C v ts := by
  rcases h with h | ⟨g, cap, cur, hv, hB, hC, hg, hi⟩
  · exact .inl h
  · exact .inr ⟨g, cap, cur, hv, hB, hC, (ho g hB hC (Array.getElem?_eq_some_iff.1 hg).1).trans hg, hi⟩
end
theorem mrkR (v : Value) (B C : Nat) (ts : List Tri) (w : World) (h : Rw w B C v ts) (hn : ts.length ≤ 1048576) :
    Calls Tryz.prog 20 #[v, .int .i64 1] w fun e w' => e = .returned (.int .i64 (mkv ts.length)) ∧ Rw w' B C v (mks ts.length) ∧ (∀ b, b < B ∨ C ≤ b → w'.heap[b]? = w.heap[b]?) ∧ Below B w w' := by
  rcases h with ⟨rfl, rfl⟩ | ⟨g, cap, cur, rfl, hB, hC, hg, hi⟩
  · exact (mrkS_zero none 0 w).mono (by
      rintro e w' ⟨rfl, rfl⟩
      exact ⟨rfl, .inl ⟨rfl, rfl⟩, fun _ _ => rfl, Below.refl _ _⟩)
  · exact (mrkS_any g ts.length cap cur w hg hi.size hn).mono (by
      rintro e w' ⟨rfl, ⟨cur', h1, h2⟩, h3, h4⟩
      refine ⟨rfl, .inr ⟨g, cap, cur', by rw [mks_length], hB, hC, h1, h2⟩, fun b hb => h3 b (by omega), h4.mono hB⟩)
theorem hldR (v : Value) (B C n : Nat) (w : World) (h : Rw w B C v (mks n)) (hn : n ≤ 1048576) :
    Calls Tryz.prog 52 #[v, .int .i64 1] w fun e w' => e = .returned (.int .i64 (mkv n)) ∧ w = w' := by
  rcases h with ⟨rfl, h0⟩ | ⟨g, cap, cur, rfl, hB, hC, hg, hi⟩
  · have : n = 0 := by have := congrArg List.length h0; rw [mks_length] at this; exact this
    subst this
    exact hldS_zero none 0 w
  · rw [mks_length]
    exact hldS_any g n cap w hn (hi.pts hg)
theorem mrkE_of (a : Option Addr) (n k : Nat) (c s K : Int) (w : World) (Φ : World → Prop)
    (MK : ∀ w', Below w.heap.size w w' → Calls Tryz.prog 20 #[.slice a n k, .int .i64 1] w' fun e w'' => e = .returned (.int .i64 K) ∧ Φ w'') :
    Calls Tryz.prog 21 #[.agg #[.slice a n k, .int .u64 c, .int .u64 s], .int .i64 1] w fun e w' => e = .returned (.int .i64 K) ∧ Φ w' := by
  have r2 := Bk.new w 42 #[.slice a n k, .int .u64 c, .int .u64 s]
  have hb := (Below.refl _ w).alloc (Nat.le_refl _) (Obj.cells #[.slice a n k, .int .u64 c, .int .u64 s] 42)
  have p0 := r2.cell (k := 0) rfl
  go_enter Tryz.func21, Tryz.ntmps21
  go_wp2_with fail
  refine (MK _ hb).mono ?_
  rintro e w1 ⟨rfl, h1⟩
  clear MK p0
  go_wp2
  go_ret
  exact ⟨rfl, h1⟩
theorem hldE_of (a : Option Addr) (n k : Nat) (c s K : Int) (w : World) (hK : ¬ K < 0)
    (MK : ∀ w', Below w.heap.size w w' → Calls Tryz.prog 52 #[.slice a n k, .int .i64 1] w' fun e w'' => e = .returned (.int .i64 K) ∧ w' = w'') :
    Calls Tryz.prog 22 #[.agg #[.slice a n k, .int .u64 c, .int .u64 s], .int .i64 1] w fun e w' => e = .returned (.int .i64 K) ∧ Below w.heap.size w w' := by
  have r2 := Bk.new w 42 #[.slice a n k, .int .u64 c, .int .u64 s]
  have hb := (Below.refl _ w).alloc (Nat.le_refl _) (Obj.cells #[.slice a n k, .int .u64 c, .int .u64 s] 42)
  have p0 := r2.cell (k := 0) rfl
  go_enter Tryz.func22, Tryz.ntmps22
  go_wp2_with fail
  refine (MK _ hb).mono ?_
  rintro e w1 ⟨rfl, rfl⟩
  clear MK p0
  go_wp2
  go_ret
  exact ⟨rfl, hb⟩
theorem mrkE (v : Value) (c s : Int) (B C : Nat) (ts : List Tri) (w : World) (h : Rw w B C v ts) (hC : C ≤ w.heap.size) (hn : ts.length ≤ 1048576) :
    Calls Tryz.prog 21 #[.agg #[v, .int .u64 c, .int .u64 s], .int .i64 1] w fun e w' => e = .returned (.int .i64 (mkv ts.length)) ∧ Rw w' B C v (mks ts.length) ∧ (∀ b, b < w.heap.size → b < B ∨ C ≤ b → w'.heap[b]? = w.heap[b]?) ∧ (B ≤ w.heap.size → Below B w w') := by
  have H := fun w' (hb : Below w.heap.size w w') => mrkR v B C ts w' (h.keep hb) hn
  obtain ⟨a, n, k, rfl, -⟩ := h.ars
  refine mrkE_of a n k c s (mkv ts.length) w (fun w' => Rw w' B C (.slice a n k) (mks ts.length) ∧ (∀ b, b < w.heap.size → b < B ∨ C ≤ b → w'.heap[b]? = w.heap[b]?) ∧ (B ≤ w.heap.size → Below B w w')) (fun w' hb => (H w' hb).mono ?_)
  rintro e w'' ⟨rfl, h1, h2, h3⟩
  exact ⟨rfl, h1, fun b hb1 hb2 => (h2 b hb2).trans (hb.block b hb1), fun hB => (hb.mono hB).trans h3⟩
theorem hldE (v : Value) (c s : Int) (B C n : Nat) (w : World) (h : Rw w B C v (mks n)) (hn : n ≤ 1048576) :
    Calls Tryz.prog 22 #[.agg #[v, .int .u64 c, .int .u64 s], .int .i64 1] w fun e w' => e = .returned (.int .i64 (mkv n)) ∧ Below w.heap.size w w' := by
  have H := fun w' (hb : Below w.heap.size w w') => hldR v B C n w' (h.keep hb) hn
  obtain ⟨a, m, k, rfl, -⟩ := h.ars
  exact hldE_of a m k c s (mkv n) w (mkv_pos n) H
theorem Rs.pts {W : World} {B : Nat} {g n cap : Nat} {ts : List Tri} (h : Rs W B (.slice (some ⟨g, 0, none⟩) n cap) ts) : Pts W g 0 ts := by
  rcases h with ⟨e, -⟩ | ⟨g', cap', cur, e, -, hg, hi⟩
  · cases e
  · injection e with e1 e2 e3
    injection e1 with e1
    injection e1 with e1
    subst e1
    exact hi.pts hg
theorem evaS_any (mode : Int) (key : Nat) (info : ByteArray) (es : List Tri) (r : Nat) (g cap : Nat) (w : World) (hp : Pts w g 0 es) :
    Calls Tryz.prog 15 #[.int .i64 mode, .int .u64 key, .string info, .slice (some ⟨g, 0, none⟩) es.length cap, .int .u64 r] w fun e w' => ∃ v, e = .returned (.tuple #[.agg #[v, .int .u64 ((evaK mode key info es r).1 : Int), .int .u64 ((evaK mode key info es r).2 : Int)], .int .i64 (evaC mode key info es r)]) ∧ w'.ownsRow w.heap.size 28 3 v (evaG mode key info es r).length (cells3 (evaG mode key info es r)) ∧ Below w.heap.size w w' := by
  have bad : ∀ cd : Int, evaC mode key info es r = cd → ¬ cd = 0 →
      (Calls Tryz.prog 15 #[.int .i64 mode, .int .u64 key, .string info, .slice (some ⟨g, 0, none⟩) es.length cap, .int .u64 r] w fun e w' => e = .returned (.tuple #[.agg #[.slice none 0 0, .int .u64 0, .int .u64 0], .int .i64 cd]) ∧ Below w.heap.size w w') →
      Calls Tryz.prog 15 #[.int .i64 mode, .int .u64 key, .string info, .slice (some ⟨g, 0, none⟩) es.length cap, .int .u64 r] w fun e w' => ∃ v, e = .returned (.tuple #[.agg #[v, .int .u64 ((evaK mode key info es r).1 : Int), .int .u64 ((evaK mode key info es r).2 : Int)], .int .i64 (evaC mode key info es r)]) ∧ w'.ownsRow w.heap.size 28 3 v (evaG mode key info es r).length (cells3 (evaG mode key info es r)) ∧ Below w.heap.size w w' := fun cd h h0 hB => by
    obtain ⟨hG, hK⟩ := eva_none (show ¬ evaC mode key info es r = 0 by rw [h]; exact h0)
    rw [hG, hK, h]
    exact hB.mono (by
      rintro e w' ⟨rfl, b⟩
      exact ⟨_, rfl, World.ownsRow_nil _ _ _ _, b⟩)
  have T := txtS_any mode ⟨#[]⟩ info
  have K := fun w => keyS_any (key : Int) key rfl w
  by_cases hA : txtB mode 0 info.size = true
  · rw [show txtB mode (ByteArray.mk #[]).size info.size = true from hA] at T
    obtain ⟨hm, -, z2, -⟩ := txtB_iff.1 hA
    by_cases hB : keyB key = true
    · rw [hB] at K
      have hkl := (keyB_iff.1 hB).2
      by_cases hr : r < 2305843010818082053
      · have hr' : ¬ (2305843010818082053 : Int) ≤ (r : Int) := by omega
        by_cases h0 : 1 ≤ es.length
        · by_cases h9 : es.length ≤ 200
          · by_cases hall : es.all elT = true
            · have hC : evaC mode key info es r = facC mode key info := evaC_yes ⟨hA, hB, hr, ⟨h0, h9⟩, hall⟩
              have F := fun w => facS_any mode key info w hkl z2
              by_cases hc : facC mode key info = 0
              · have hC0 := hC.trans hc
                have hG : evaG mode key info es r = evaE mode key info es := if_pos hC0
                have hlE := evaE_length mode key info es
                simp only [hc, if_true] at F
                have hU := ptT_of (nt_on gG_on (facT mode key info))
                have hUW : triW (evaU mode key info) = .agg #[.int .u64 (px (nt (facT mode key info) gG)), .int .u64 (py (nt (facT mode key info) gG)), .bool (pb (nt (facT mode key info) gG))] := by
                  rw [triW_of (evaU_of mode key info).2, (evaU_of mode key info).1, ptW_eq]
                have htl : facT mode key info < 2305843010818082053 := by
                  unfold facT
                  split
                  · exact kt_lt _ _
                  · exact hkl
                obtain ⟨hb1, hb2⟩ := eva_bat (mode := mode) (key := key) (info := info) ⟨h0, h9⟩ hall
                rw [hG, hC0, hlE]
                refine evS_g mode key r info g es.length cap w es T K hr' h0 h9 rfl hp hall (facB mode key info) (facT mode key info : Nat) _ _ (nt (facT mode key info) gG) (Nat.lt_trans (facB_lt mode key info hkl) (by decide)) F (fun w' => tiS_pt gG_on (facT mode key info) (Nat.lt_trans htl (by decide)) w') ?_
                have hK : evaK mode key info es r = (if mode = 1 then (prvC 1 (facT mode key info) r gT (evaU mode key info) es ((evaE mode key info es).map ptT), prvN 1 (facT mode key info) r gT (evaU mode key info) es ((evaE mode key info es).map ptT)) else if mode = 2 then (prvC 2 (facT mode key info) r gT (evaU mode key info) ((evaE mode key info es).map ptT) es, prvN 2 (facT mode key info) r gT (evaU mode key info) ((evaE mode key info es).map ptT) es) else (0, 0)) := if_pos hC0
                have hlm : ((evaE mode key info es).map ptT).length = es.length := by rw [List.length_map, hlE]
                by_cases m1 : mode = 1
                · refine .inr (.inl ⟨m1, fun w' v hb hown => ?_⟩)
                  rw [hK, if_pos m1]
                  have hrs := Rs.of_own (ps := evaE mode key info es) (by rw [hlE]; exact hown) (evaE_on mode key info es)
                  obtain ⟨gd, cd, rfl, -, -⟩ := hown.form h0
                  have := prvS_yes 1 (facT mode key info) r gT (evaU mode key info) es ((evaE mode key info es).map ptT) g 0 cap gd 0 cd w' (hp.below hb hp.lt) hrs.pts hb1 htl hr
                  rw [gT_W, hUW, hlm] at this
                  exact this
                · by_cases m2 : mode = 2
                  · refine .inr (.inr ⟨m2, fun w' v hb hown => ?_⟩)
                    rw [hK, if_neg m1, if_pos m2]
                    have hrs := Rs.of_own (ps := evaE mode key info es) (by rw [hlE]; exact hown) (evaE_on mode key info es)
                    obtain ⟨gd, cd, rfl, -, -⟩ := hown.form h0
                    have := prvS_yes 2 (facT mode key info) r gT (evaU mode key info) ((evaE mode key info es).map ptT) es gd 0 cd g 0 cap w' hrs.pts (hp.below hb hp.lt) hb2 htl hr
                    rw [gT_W, hUW, hlm] at this
                    exact this
                  · refine .inl ⟨by simpa using m1, by simpa using m2, ?_, ?_⟩
                    · rw [hK, if_neg m1, if_neg m2]; rfl
                    · rw [hK, if_neg m1, if_neg m2]; rfl
              · have h3 : facC mode key info = 3 := by
                  unfold facC at hc ⊢
                  split
                  · rfl
                  · rename_i hx; rw [if_neg hx] at hc; exact absurd rfl hc
                simp only [h3] at F
                exact bad 3 (hC.trans h3) (by decide) (evS_f mode key r info g es.length cap w es T K hr' h0 h9 rfl hp hall 3 (by decide) F)
            · have hall' : es.all elT = false := by cases h : es.all elT <;> simp_all
              exact bad 1 (evaC_no (fun h => hall h.2.2.2.2)) (by decide) (evS_e mode key r info g es.length cap w es T K hr' h0 h9 rfl hp hall')
          · exact bad 1 (evaC_no (fun h => h9 h.2.2.2.1.2)) (by decide) (evS_9 mode key r info g es.length cap w T K hr' (by omega) (by omega))
        · exact bad 1 (evaC_no (fun h => h0 h.2.2.2.1.1)) (by decide) (evS_0 mode key r info g es.length cap w T K hr' (by omega))
      · exact bad 1 (evaC_no (fun h => hr h.2.2.1)) (by decide) (evS_r mode key r info g es.length cap w T K (by omega))
    · have hB' : keyB key = false := by cases h : keyB key <;> simp_all
      rw [hB'] at K
      exact bad 1 (evaC_no (fun h => hB h.2.1)) (by decide) (evS_k mode key r info g es.length cap w T K)
  · have hA' : txtB mode (ByteArray.mk #[]).size info.size = false := by
      cases h : txtB mode (ByteArray.mk #[]).size info.size with
      | false => rfl
      | true => exact absurd h hA
    rw [hA'] at T
    exact bad 1 (evaC_no (fun h => hA h.1)) (by decide) (evS_t mode key r info g es.length cap w T)
theorem evaL_own {W : World} {B : Nat} {v : Value} {mode : Int} {key : Nat} {info : ByteArray} {es : List Tri} {r : Nat} (h : W.ownsRow B 28 3 v (evaG mode key info es r).length (cells3 (evaG mode key info es r))) : Rs W B v (evaL mode key info es r) :=
  Rs.of_own h (evaG_on mode key info es r)
end Go.Proofs.YtjmhmajfkdglnaaGreatDoor
namespace Go.Proofs.YtjmhmajfkdglnaaGreatDoor
open Go.RowKit M
namespace evaluate
theorem walk_of (mode key r c s cd : Int) (info : ByteArray) (a : Option Addr) (n cap : Nat) (es ts : List Tri) (w : World) (hi : ¬ (1048576 : Int) < (info.size : Int)) (hA : Ars w (.slice a n cap) es) (hn : n ≤ 1048576) (ht : ts.length ≤ 1048576)
    (L : ∀ w' g, Mad g es w' → Calls Tryz.prog 15 #[.int .i64 mode, .int .u64 key, .string info, .slice (some ⟨g, 0, none⟩) n n, .int .u64 r] w' fun e w'' => ∃ v, e = .returned (.tuple #[.agg #[v, .int .u64 c, .int .u64 s], .int .i64 cd]) ∧ Rs w'' w'.heap.size v ts ∧ Below w'.heap.size w' w'')
    (M : ∀ w', Below w.heap.size w w' → ∀ g, Mad g es w' → Calls Tryz.prog 17 #[.int .i64 mode, .int .u64 key, .string info, .slice (some ⟨g, 0, none⟩) n n, .int .u64 r] w' fun e w'' => ∃ v, e = .returned (.tuple #[.agg #[v, .int .u64 c, .int .u64 s], .int .i64 cd]) ∧ Rs w'' w'.heap.size v ts ∧ Below w'.heap.size w' w'') :
    Calls Tryz.prog 5 #[.int .i64 mode, .int .u64 key, .string info, .slice a n cap, .int .u64 r] w fun e w' => e = .returned (.bool true) ∧ Below w.heap.size w w' := by
  have hl : es.length = n := by obtain ⟨_, _, _, e1, h, -⟩ := hA; cases e1; exact h
  have TP : ∀ w', Below w.heap.size w w' → Calls Tryz.prog 16 #[.slice a n cap] w' fun e w'' => e = .returned (.slice (some ⟨w'.heap.size, 0, none⟩) n n) ∧ Mad w'.heap.size es w'' ∧ Below w'.heap.size w' w'' := fun w' hb => by
    have := tpsL_at (.slice a n cap) es w' (hA.keep hb) (by omega)
    rwa [hl] at this
  have EQ : ∀ x y w', Mad x es w' → Mad y es w' → Calls Tryz.prog 19 #[.slice (some ⟨x, 0, none⟩) n n, .slice (some ⟨y, 0, none⟩) n n] w' fun e w'' => e = .returned (.bool true) ∧ Below w'.heap.size w' w'' := fun x y w' hx hy => by
    have := epsL_any es x y w' hx hy (by omega)
    rwa [hl] at this
  have MK : ∀ x w', Mad x es w' → Calls Tryz.prog 20 #[.slice (some ⟨x, 0, none⟩) n n, .int .i64 1] w' fun e w'' => e = .returned (.int .i64 (mkv n)) ∧ (∀ b, b ≠ x → w''.heap[b]? = w'.heap[b]?) ∧ Below x w' w'' := fun x w' hx => by
    obtain ⟨cur, h1, h2⟩ := hx
    refine (mrkS_any x n n cur w' h1 (by have := h2.size; omega) hn).mono ?_
    rintro e w'' ⟨rfl, -, h3, h4⟩
    exact ⟨rfl, h3, h4⟩
  have S := fun w => szL_yes a n cap 1048576 w (by omega) (by omega)
  have g1 : ¬ ((1048576 : Int) - (n : Int)) < 0 := by omega
  have k0 := mkv_pos n
  have k1 := mkv_pos ts.length
  clear hA hl
  have hb := Below.refl w.heap.size w
  go_enter Tryz.func5, Tryz.ntmps5
  go_wp2_with fail
  refine (S _).mono ?_
  rintro e w' ⟨rfl, rfl⟩
  clear S
  go_wp2_with fail
  refine (TP _ hb).mono ?_
  rintro e w1 ⟨rfl, hM1, b1⟩
  replace hb := hb.trans (b1.mono hb.size)
  clear b1
  go_wp2_with fail
  refine (L _ _ hM1).mono ?_
  rintro e w2 ⟨u1, rfl, hu1, b2⟩
  replace hb := hb.trans (b2.mono hb.size)
  have hwH := hb.size
  replace hu1 := hu1.rw
  have hal := (Below.refl _ w2).alloc (Nat.le_refl _) (Obj.cells #[u1, .int .u64 c, .int .u64 s] 42)
  have r12 := Bk.new w2 42 #[u1, .int .u64 c, .int .u64 s]
  replace hb := hb.trans (hal.mono hb.size)
  replace hu1 := hu1.keep hal
  clear b2 hal L hM1
  obtain ⟨uu, hus⟩ : ∃ uu : Unit, ∃ a1 n1 c1, u1 = .slice a1 n1 c1 := ⟨(), by obtain ⟨a1, n1, c1, h, -⟩ := hu1.ars; exact ⟨a1, n1, c1, h⟩⟩
  obtain ⟨a1, n1, c1, rfl⟩ := hus
  clear uu
  go_wp2_with fail
  refine (TP _ hb).mono ?_
  rintro e w3 ⟨rfl, hM2, b3⟩
  have hX : w2.heap.size + 1 = (w2.alloc (Obj.cells #[.slice a1 n1 c1, .int .u64 c, .int .u64 s] 42)).heap.size := by simp
  rw [← hX] at hM2 ⊢
  clear hX
  replace hb := hb.trans (b3.mono hb.size)
  replace r12 := r12.keep b3
  replace hu1 := hu1.keep b3
  have hx3 : w2.heap.size + 1 < w3.heap.size := by obtain ⟨cur, h, -⟩ := hM2; exact (Array.getElem?_eq_some_iff.1 h).1
  clear b3
  generalize w2.heap.size = H2 at *
  go_wp2_with fail
  refine (M _ hb _ hM2).mono ?_
  rintro e w4 ⟨u2, rfl, hu2, b4⟩
  replace hb := hb.trans (b4.mono hb.size)
  have hs4 := b4.size
  replace hu2 := hu2.rw
  have hal := (Below.refl _ w4).alloc (Nat.le_refl _) (Obj.cells #[u2, .int .u64 c, .int .u64 s] 42)
  have r15 := Bk.new w4 42 #[u2, .int .u64 c, .int .u64 s]
  replace hb := hb.trans (hal.mono hb.size)
  replace r12 := (r12.keep b4).keep hal
  replace hu1 := (hu1.keep b4).keep hal
  replace hM2 := (hM2.keep b4).keep hal
  replace hu2 := hu2.keep hal
  have hs5 : w4.heap.size < (w4.alloc (Obj.cells #[u2, .int .u64 c, .int .u64 s] 42)).heap.size := by simp
  clear b4 hal
  obtain ⟨uu, hus⟩ : ∃ uu : Unit, ∃ a1 n1 c1, u2 = .slice a1 n1 c1 := ⟨(), by obtain ⟨a1, n1, c1, h, -⟩ := hu2.ars; exact ⟨a1, n1, c1, h⟩⟩
  obtain ⟨a2, n2, c2, rfl⟩ := hus
  clear uu
  have E := eqE2 ts _ _ c s _ hu2.ars hu1.ars ht
  have d0 := r12.cell (k := 0) rfl
  have d1 := r12.cell (k := 1) rfl
  have d2 := r12.cell (k := 2) rfl
  have f0 := r15.cell (k := 0) rfl
  have f1 := r15.cell (k := 1) rfl
  have f2 := r15.cell (k := 2) rfl
  go_wp2_with fail
  refine E.mono ?_
  rintro e w5 ⟨rfl, b5⟩
  replace hb := hb.trans (b5.mono hb.size)
  replace r12 := r12.keep b5
  replace r15 := r15.keep b5
  replace hu1 := hu1.keep b5
  replace hu2 := hu2.keep b5
  replace hM2 := hM2.keep b5
  replace hs5 := Nat.lt_of_lt_of_le hs5 b5.size
  clear E b5 d0 d1 d2 f0 f1 f2
  generalize w4.heap.size = H4 at *
  generalize w3.heap.size = H3 at *
  go_wp2_with fail
  refine (TP _ hb).mono ?_
  rintro e w6 ⟨rfl, hM3, b6⟩
  replace hb := hb.trans (b6.mono hb.size)
  replace r12 := r12.keep b6
  replace r15 := r15.keep b6
  replace hu1 := hu1.keep b6
  replace hu2 := hu2.keep b6
  replace hM2 := hM2.keep b6
  replace hs5 := Nat.lt_of_lt_of_le hs5 b6.size
  clear b6
  go_wp2_with fail
  refine (EQ _ _ _ hM2 hM3).mono ?_
  rintro e w7 ⟨rfl, b7⟩
  replace hb := hb.trans (b7.mono hb.size)
  replace r12 := r12.keep b7
  replace r15 := r15.keep b7
  replace hu1 := hu1.keep b7
  replace hu2 := hu2.keep b7
  replace hM2 := hM2.keep b7
  replace hs5 := Nat.lt_of_lt_of_le hs5 b7.size
  clear b7 hM3 EQ
  go_wp2_with fail
  refine (MK _ _ hM2).mono ?_
  rintro e w8 ⟨rfl, ho8, b8⟩
  replace hb := hb.trans (b8.mono (by omega))
  have n12 : H2 ≠ H2 + 1 := by omega
  have n15 : H4 ≠ H2 + 1 := by omega
  replace r12 := (ho8 _ n12).trans r12
  replace r15 := (ho8 _ n15).trans r15
  replace hu1 := hu1.same (fun b _ h2 _ => ho8 b (by omega))
  replace hu2 := hu2.same (fun b h1 _ _ => ho8 b (by omega))
  replace hs5 := Nat.lt_of_lt_of_le hs5 b8.size
  clear b8 ho8 hM2 MK n12 n15
  have E := eqE2 ts _ _ c s _ hu2.ars hu1.ars ht
  have d0 := Bk.cell r12 (k := 0) rfl
  have d1 := Bk.cell r12 (k := 1) rfl
  have d2 := Bk.cell r12 (k := 2) rfl
  have f0 := Bk.cell r15 (k := 0) rfl
  have f1 := Bk.cell r15 (k := 1) rfl
  have f2 := Bk.cell r15 (k := 2) rfl
  go_wp2_with fail
  refine E.mono ?_
  rintro e w9 ⟨rfl, b9⟩
  replace hb := hb.trans (b9.mono hb.size)
  replace r12 := Bk.keep r12 b9
  replace r15 := Bk.keep r15 b9
  replace hu1 := hu1.keep b9
  replace hu2 := hu2.keep b9
  replace hs5 := Nat.lt_of_lt_of_le hs5 b9.size
  clear E b9 d0 d1 d2 f0 f1 f2
  have f0 := r15.cell (k := 0) rfl
  have f1 := r15.cell (k := 1) rfl
  have f2 := r15.cell (k := 2) rfl
  go_wp2_with fail
  refine (mrkE _ c s H3 H4 ts _ hu2 (by omega) ht).mono ?_
  rintro e w10 ⟨rfl, hu3, ho, hbm⟩
  have b10 := hbm (by omega)
  replace hb := hb.trans (b10.mono (by omega))
  replace r12 := (ho _ r12.lt (.inl (by omega))).trans r12
  replace r15 := (ho _ r15.lt (.inr (by omega))).trans r15
  replace hu1 := hu1.same (fun b _ h2 h3 => ho b h3 (.inl (by omega)))
  clear ho hbm b10 hu2 f0 f1 f2
  have f0 := Bk.cell r15 (k := 0) rfl
  have f1 := Bk.cell r15 (k := 1) rfl
  have f2 := Bk.cell r15 (k := 2) rfl
  go_wp2_with fail
  refine (hldE _ c s H3 H4 ts.length _ hu3 ht).mono ?_
  rintro e w11 ⟨rfl, b11⟩
  replace hb := hb.trans (b11.mono hb.size)
  replace r12 := Bk.keep r12 b11
  replace hu1 := hu1.keep b11
  clear b11 hu3 f0 f1 f2 r15
  go_wp2_with fail
  refine (TP _ hb).mono ?_
  rintro e w12 ⟨rfl, hM4, b12⟩
  replace hb := hb.trans (b12.mono hb.size)
  replace r12 := r12.keep b12
  replace hu1 := hu1.keep b12
  clear b12 TP
  go_wp2_with fail
  refine (M _ hb _ hM4).mono ?_
  rintro e w13 ⟨u4, rfl, hu4, b13⟩
  replace hb := hb.trans (b13.mono hb.size)
  have hal := (Below.refl _ w13).alloc (Nat.le_refl _) (Obj.cells #[u4, .int .u64 c, .int .u64 s] 42)
  have r20 := Bk.new w13 42 #[u4, .int .u64 c, .int .u64 s]
  replace hb := hb.trans (hal.mono hb.size)
  replace r12 := (r12.keep b13).keep hal
  replace hu1 := (hu1.keep b13).keep hal
  replace hu4 := hu4.keep hal
  clear b13 hal M hM4
  obtain ⟨uu, hus⟩ : ∃ uu : Unit, ∃ a1 n1 c1, u4 = .slice a1 n1 c1 := ⟨(), by obtain ⟨a1, n1, c1, h, -⟩ := hu4.ars; exact ⟨a1, n1, c1, h⟩⟩
  obtain ⟨a4, n4, c4, rfl⟩ := hus
  clear uu
  have E := eqE2 ts _ _ c s _ hu4.ars hu1.ars ht
  have d0 := r12.cell (k := 0) rfl
  have d1 := r12.cell (k := 1) rfl
  have d2 := r12.cell (k := 2) rfl
  have f0 := r20.cell (k := 0) rfl
  have f1 := r20.cell (k := 1) rfl
  have f2 := r20.cell (k := 2) rfl
  go_wp2_with fail
  refine E.mono ?_
  rintro e w14 ⟨rfl, b14⟩
  replace hb := hb.trans (b14.mono hb.size)
  clear E b14 d0 d1 d2 f0 f1 f2
  go_wp2
  go_ret
  exact ⟨rfl, hb⟩
theorem walk (mode : Int) (key : Nat) (info : ByteArray) (v : Value) (r : Nat) (w : World) (hk : key < 18446744073709551616) (hi : info.size ≤ maxLen) (hA : ∃ ps, Ars w v ps ∧ ps.length ≤ maxLen) (hr : r < 18446744073709551616) (hT : TabK w) (hs : ∃ a0 a1 a2 a3, Sn w a0 a1 a2 a3) :
    Calls Tryz.prog 5 #[.int .i64 mode, .int .u64 key, .string info, v, .int .u64 r] w fun e w' => e = .returned (.bool true) ∧ Below w.heap.size w w' := by
  obtain ⟨es, hA, hn⟩ := hA
  obtain ⟨a0, a1, a2, a3, hs⟩ := hs
  have hgw : 6 < w.heap.size := World.block_lt_of_cell? w _ (hT 0 (by omega))
  have hA' := hA
  obtain ⟨a, n, cap, rfl, hl, -⟩ := hA
  rw [hl] at hn
  unfold maxLen at hi hn
  by_cases hbig : (1048576 : Int) < (info.size : Int)
  · go_enter Tryz.func5, Tryz.ntmps5
    go_wp2
    go_ret
    exact ⟨rfl, Below.refl _ _⟩
  · by_cases hm : n ≤ 1048576
    · refine walk_of mode key r ((evaK mode key info es r).1 : Int) ((evaK mode key info es r).2 : Int) (evaC mode key info es r) info a n cap es (evaL mode key info es r) w hbig hA' hm ?_ (fun w' g hM => ?_) (fun w' hb g hM => ?_)
      · unfold evaL evaG
        rw [List.length_map]
        split
        · rw [evaE_length]; omega
        · simp
      · have := evaS_any mode key info es r g n w' hM.pts
        rw [hl] at this
        exact this.mono (by
          rintro e w'' ⟨u, rfl, hown, b⟩
          exact ⟨u, rfl, evaL_own hown, b⟩)
      · have := evaI_any mode key info es r g n a0 a1 a2 a3 w' (keepT hT hgw hb) (hs.keep hb) hM.pts
        rw [hl] at this
        exact this.mono (by
          rintro e w'' ⟨u, rfl, hown, b⟩
          exact ⟨u, rfl, evaL_own hown, b⟩)
    · have S := fun w => szL_no a n cap 1048576 w (by omega) (by omega) (by omega) (by unfold maxLen; omega)
      go_enter Tryz.func5, Tryz.ntmps5
      go_wp2_with fail
      refine (S _).mono ?_
      rintro e w' ⟨rfl, rfl⟩
      clear S
      go_wp2
      go_ret
      exact ⟨rfl, Below.refl _ _⟩
end evaluate
end Go.Proofs.YtjmhmajfkdglnaaGreatDoor
