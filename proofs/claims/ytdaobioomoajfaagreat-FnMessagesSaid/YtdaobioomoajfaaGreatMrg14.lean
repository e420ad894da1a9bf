import Derived.Test.YtdaobioomoajfaaGreatMrg13
import Derived.Test.YtdaobioomoajfaaGreatMrg6
import Derived.Test.YtdaobioomoajfaaGreatMrg12
import Derived.Test.YtdaobioomoajfaaGreatMrg5
set_option linter.unusedVariables false
set_option maxRecDepth 100000
set_option maxHeartbeats 16000000
namespace Go.Proofs.YtdaobioomoajfaaGreat
open Go.RowKit M
theorem wrdP_none (w : World) :
    Calls Tryz.prog 82 #[.agg #[.int .u64 0, .int .u64 0, .bool true]] w fun e w' => e = .returned (.int .u64 0) ∧ Below w.heap.size w w' := by
  have hp := K3.new w 118 0 0 true
  have hb := (Below.refl _ w).alloc (Nat.le_refl _) (Obj.cells #[.int .u64 0, .int .u64 0, .bool true] 118)
  have c0 := hp.drew.c0
  have c1 := hp.drew.c1
  have c2 := hp.drew.c2
  go_enter Tryz.func82, Tryz.ntmps82
  go_wp2
  go_region_held3 (fun w' => w'.cell? ⟨w.heap.size, 0, none⟩ = some (.int .u64 0) ∧ w'.cell? ⟨w.heap.size, 1, none⟩ = some (.int .u64 0) ∧ w'.cell? ⟨w.heap.size, 2, none⟩ = some (.bool true)) (first | exact ⟨c0, c1, c2⟩ | exact ⟨keepC c0 b1, keepC c1 b1, keepC c2 b1⟩ | go_keep) ((go_at_call 83; refine (zpP _).mono ?_; rintro e w1 ⟨rfl, b1⟩))
  replace hb := keepB hb.drew hb.size b1
  go_wp2
  go_ret
  exact ⟨rfl, hb⟩
theorem wrdP_some (x y a b c n : Int) (w : World) (h1 : IntKind.u64.wrap (x + 4611686018427387904) = a) (h2 : y.tmod 2 = b) (h3 : IntKind.u64.wrap (2305843009213693952 * b) = c) (h4 : IntKind.u64.wrap (a + c) = n) :
    Calls Tryz.prog 82 #[.agg #[.int .u64 x, .int .u64 y, .bool false]] w fun e w' => e = .returned (.int .u64 n) ∧ Below w.heap.size w w' := by
  have hp := K3.new w 118 x y false
  have hb := (Below.refl _ w).alloc (Nat.le_refl _) (Obj.cells #[.int .u64 x, .int .u64 y, .bool false] 118)
  have c0 := hp.drew.c0
  have c1 := hp.drew.c1
  have c2 := hp.drew.c2
  go_enter Tryz.func82, Tryz.ntmps82
  go_wp2
  go_region_held3 (fun w' => w'.cell? ⟨w.heap.size, 0, none⟩ = some (.int .u64 x) ∧ w'.cell? ⟨w.heap.size, 1, none⟩ = some (.int .u64 y) ∧ w'.cell? ⟨w.heap.size, 2, none⟩ = some (.bool false)) (first | exact ⟨c0, c1, c2⟩ | exact ⟨keepC c0 b1, keepC c1 b1, keepC c2 b1⟩ | go_keep) ((go_at_call 83; refine (zpP _).mono ?_; rintro e w1 ⟨rfl, b1⟩))
  replace hb := keepB hb.drew hb.size b1
  replace hp := (hp.drew).keep b1
  clear c0 c1 c2
  have c0 := hp.c0
  have c1 := hp.c1
  go_wp2
  go_ret
  exact ⟨rfl, hb⟩
theorem wrdV : ∀ (p : Pt) (w : World), Calls Tryz.prog 82 #[ptW p] w fun e w' => e = .returned (.int .u64 (putN p : Nat)) ∧ Below w.heap.size w w'
  | none, w => wrdP_none w
  | some (x, y), w => by
    have hx := val_lt x
    have hy : (fv y).tmod 2 = ((y.val % 2 : Nat) : Int) := by
      unfold fv
      rw [Int.tmod_eq_emod_of_nonneg (by omega)]; omega
    have hz : y.val % 2 < 2 := Nat.mod_lt _ (by decide)
    refine wrdP_some (fv x) (fv y) (fv x + 4611686018427387904) _ (2305843009213693952 * ((y.val % 2 : Nat) : Int)) _ w ?_ hy ?_ ?_
    · unfold fv; rw [IntKind.wrap_u64]; omega
    · rw [IntKind.wrap_u64]; omega
    · rw [putN_some]; unfold fv; rw [IntKind.wrap_u64]
      generalize x.val = X at *
      generalize y.val % 2 = Z at *
      omega
end Go.Proofs.YtdaobioomoajfaaGreat
namespace Go.Proofs.YtdaobioomoajfaaGreat
open Go.RowKit M
theorem csqP (x : Fp) (w : World) :
    Calls Tryz.prog 86 #[.agg #[.int .u64 (fv x)]] w fun e w' => e = .returned (.agg #[.int .u64 (fv ((x * x - 3) * x + 111))]) ∧ Below w.heap.size w w' := by
  obtain ⟨X, hX⟩ : ∃ X, X = ((w.alloc (Obj.cells #[.int .u64 (fv x)] 124)).alloc (Obj.cells #[.int .u64 0] 124)).alloc (Obj.cells #[] 122) := ⟨_, rfl⟩
  have hx : R1 X w.heap.size (fv x) := by rw [hX]; exact ((R1.new w _).alloc _).alloc _
  have hr : R1 X (w.heap.size + 1) 0 := by rw [hX]; exact ((R1.new _ 0).at (by simp)).alloc _
  have hb : Below w.heap.size w X := by rw [hX]; exact (((Below.refl _ w).alloc (Nat.le_refl _) _).alloc (by simp) _).alloc (by simp; omega) _
  rw [hX] at hx hr hb
  clear hX
  go_enter Tryz.func86, Tryz.ntmps86
  go_wp2
  refine pool_tail [.val (.agg #[.int .u64 (fv x)]),
    .val (.agg #[.int .u64 (fv x)]),
    .val (.agg #[.int .u64 (fv (x * x))]),
    .val (.agg #[]),
    .val (.agg #[.int .u64 (fv 3)]),
    .val (.agg #[.int .u64 (fv (x * x - 3))]),
    .val (.agg #[.int .u64 (fv x)]),
    .val (.agg #[.int .u64 (fv ((x * x - 3) * x))]),
    .val (.agg #[]),
    .val (.agg #[.int .u64 (fv 111)]),
    .val (.agg #[.int .u64 (fv ((x * x - 3) * x + 111))]),
    .val undef] [[1], [1], [5, 6], [3], [8], [7, 9], [1], [10, 11], [3], [13], [12, 14], [2, 15]] (fun f => [(some 5, .agg #[.int .u64 (fv x)]), (some 6, .agg #[.int .u64 (fv x)]), (some 7, .agg #[.int .u64 (fv (x * x))]), (some 8, .agg #[]), (some 9, .agg #[.int .u64 (fv 3)]), (some 10, .agg #[.int .u64 (fv (x * x - 3))]), (some 11, .agg #[.int .u64 (fv x)]), (some 12, .agg #[.int .u64 (fv ((x * x - 3) * x))]), (some 13, .agg #[]), (some 14, .agg #[.int .u64 (fv 111)]), (some 15, .agg #[.int .u64 (fv ((x * x - 3) * x + 111))])]) (fun f => [(2, .pointer (some ⟨w.heap.size + 1, 0, none⟩)), (15, .agg #[.int .u64 (fv ((x * x - 3) * x + 111))])]) (by kernel_rfl) (by kernel_rfl) (by kernel_rfl) (by kernel_rfl) (by kernel_rfl) (fun _ => by kernel_rfl) ?_ rfl (fun _ => by kernel_rfl) ?_
  · intro ix hix
    match ix, hix with
    | 0, _ => exact ob_val [(1, .pointer (some ⟨w.heap.size, 0, none⟩))] rfl rfl (fun _ => by kernel_rfl) (fun A w ⟨e0, _⟩ hB => do_loadN e0 hx.drew hB)
    | 1, _ => exact ob_val [(1, .pointer (some ⟨w.heap.size, 0, none⟩))] rfl rfl (fun _ => by kernel_rfl) (fun A w ⟨e0, _⟩ hB => do_loadN e0 hx.drew hB)
    | 2, _ => exact ob_val [(5, .agg #[.int .u64 (fv x)]), (6, .agg #[.int .u64 (fv x)])] rfl rfl (fun _ => by kernel_rfl) (fun A w ⟨e0, e1, _⟩ hB => do_call2 cf_times e0 e1 (tmV x x w))
    | 3, _ => exact ob_val [(3, .pointer (some ⟨w.heap.size + 1 + 1, 0, none⟩))] rfl rfl (fun _ => by kernel_rfl) (fun A w ⟨e0, _⟩ hB => do_load0 e0)
    | 4, _ => exact ob_val [(8, .agg #[])] rfl rfl (fun _ => by kernel_rfl) (fun A w ⟨e0, _⟩ hB => do_call2 cf_reduced rfl e0 (rd3 w))
    | 5, _ => exact ob_val [(7, .agg #[.int .u64 (fv (x * x))]), (9, .agg #[.int .u64 (fv 3)])] rfl rfl (fun _ => by kernel_rfl) (fun A w ⟨e0, e1, _⟩ hB => do_call2 cf_minus e0 e1 (mnV (x * x) 3 w))
    | 6, _ => exact ob_val [(1, .pointer (some ⟨w.heap.size, 0, none⟩))] rfl rfl (fun _ => by kernel_rfl) (fun A w ⟨e0, _⟩ hB => do_loadN e0 hx.drew hB)
    | 7, _ => exact ob_val [(10, .agg #[.int .u64 (fv (x * x - 3))]), (11, .agg #[.int .u64 (fv x)])] rfl rfl (fun _ => by kernel_rfl) (fun A w ⟨e0, e1, _⟩ hB => do_call2 cf_times e0 e1 (tmV (x * x - 3) x w))
    | 8, _ => exact ob_val [(3, .pointer (some ⟨w.heap.size + 1 + 1, 0, none⟩))] rfl rfl (fun _ => by kernel_rfl) (fun A w ⟨e0, _⟩ hB => do_load0 e0)
    | 9, _ => exact ob_val [(13, .agg #[])] rfl rfl (fun _ => by kernel_rfl) (fun A w ⟨e0, _⟩ hB => do_call2 cf_reduced rfl e0 (rd111 w))
    | 10, _ => exact ob_val [(12, .agg #[.int .u64 (fv ((x * x - 3) * x))]), (14, .agg #[.int .u64 (fv 111)])] rfl rfl (fun _ => by kernel_rfl) (fun A w ⟨e0, e1, _⟩ hB => do_call2 cf_plus e0 e1 (plV ((x * x - 3) * x) 111 w))
    | ix + 11, h => exact absurd h (by simp)
  rintro f A w9 ⟨e0, e1, _⟩ hB _
  replace hr := (hr.drew).keep hB
  replace hb := keepB hb.drew hb.size hB
  refine does_skip (exec_store e0 e1 hr) ?_
  simp only [puts, List.foldl, Act.put, List.setIfInBounds_toArray, List.set_cons_zero, List.set_cons_succ]
  go_wp2
  exact bodyPost_ret (v := .agg #[.int .u64 (fv ((x * x - 3) * x + 111))]) (num_res (fn := Tryz.f86) (p := 2) Tryz.results86 _ rfl (hr.set _)) rfl ⟨rfl, hb.setCell (p := ⟨w.heap.size + 1, 0, none⟩) (by simp) _⟩
theorem csqV (x : Fp) (w : World) :
    Calls Tryz.prog 86 #[.agg #[.int .u64 (fv x)]] w fun e w' => e = .returned (.agg #[.int .u64 (fv (crv x))]) ∧ Below w.heap.size w w' := by
  have := csqP x w
  rwa [show (x * x - 3) * x + 111 = crv x by unfold crv; grobner] at this
end Go.Proofs.YtdaobioomoajfaaGreat
namespace Go.Proofs.YtdaobioomoajfaaGreat
open Go.RowKit M
theorem cp_ct {W : World} {b : Nat} {x y : Int} {c : Bool} {fn : Func} {p u : Tmp} (h : fn.results = #[.cell p 118, .tmp u]) (tmps : Array Value)
    (hp : tmps.getD p undef = .pointer (some ⟨b, 0, none⟩)) (hc : K3 W 118 b x y c) :
    (results fn tmps).run Tryz.prog W = .ok (.tuple #[.agg #[.int .u64 x, .int .u64 y, .bool c], tmps.getD u undef]) W := by
  have hp' : tmps[p]?.getD undef = .pointer (some ⟨b, 0, none⟩) := by simpa using hp
  simp [results, h, hp', asAddr, run_loadVar_mid W b 0 118 [.int .u64 x, .int .u64 y, .bool c] _ hc.range Tryz.underlying118 rfl (by kernel_rfl)]
theorem fndP_zero (w : World) :
    Calls Tryz.prog 81 #[.agg #[.int .u64 0, .int .u64 0, .bool true]] w fun e w' => e = .returned (.tuple #[.agg #[.int .u64 0, .int .u64 0, .bool true], .bool true]) ∧ Below w.heap.size w w' := by
  obtain ⟨X, hX⟩ : ∃ X, X = ((w.alloc (Obj.cells #[.int .u64 0, .int .u64 0, .bool true] 25)).alloc (Obj.cells #[.int .u64 0, .int .u64 0, .bool false] 118)).alloc (Obj.cells #[.int .u64 0, .int .u64 0, .bool true] 118) := ⟨_, rfl⟩
  have hf : K3 X 118 (w.heap.size + 1 + 1) 0 0 true := by rw [hX]; exact (K3.new _ _ _ _ _).at (by simp)
  have hr : K3 X 118 (w.heap.size + 1) 0 0 false := by rw [hX]; exact ((K3.new _ _ 0 0 false).at (by simp)).alloc _
  have hb : Below w.heap.size w X := by rw [hX]; exact (((Below.refl _ w).alloc (Nat.le_refl _) _).alloc (by simp) _).alloc (by simp; omega) _
  rw [hX] at hf hr hb
  clear hX
  have c0 := hf.drew.c0
  have c1 := hf.drew.c1
  have c2 := hf.drew.c2
  go_enter Tryz.func81, Tryz.ntmps81
  go_wp2
  go_region_held3 (fun w' => w'.cell? ⟨w.heap.size + 1 + 1, 0, none⟩ = some (.int .u64 0) ∧ w'.cell? ⟨w.heap.size + 1 + 1, 1, none⟩ = some (.int .u64 0) ∧ w'.cell? ⟨w.heap.size + 1 + 1, 2, none⟩ = some (.bool true)) (first | exact ⟨c0, c1, c2⟩ | exact ⟨keepC c0 b1, keepC c1 b1, keepC c2 b1⟩ | go_keep) ((go_at_call 83; refine (zpP _).mono ?_; rintro e w1 ⟨rfl, b1⟩))
  replace hf := (hf.drew).keep b1
  replace hr := (hr.drew).keep b1
  replace hb := keepB hb.drew hb.size b1
  clear b1 c0 c1 c2
  have c0 := hf.c0
  have c1 := hf.c1
  have c2 := hf.c2
  have d0 := hr.c0
  have d1 := hr.c1
  have d2 := hr.c2
  have f0 := hr.frz 0
  have f1 := hr.frz 1
  have f2 := hr.frz 2
  go_wp2
  exact bodyPost_ret (v := .tuple #[.agg #[.int .u64 0, .int .u64 0, .bool true], .bool true]) (cp_ct (fn := Tryz.f81) (p := 2) (u := 3) Tryz.results81 _ rfl (hr.set _ _ _)) rfl ⟨rfl, set3_below hb (by omega)⟩
theorem fndP_inf1 (x y z1 z2 : Int) (b1 b2 : Bool) (w : World) (hx : (x == 0) = false)
    (E1 : ∀ w, Calls Tryz.prog 84 #[.int .u64 x, .agg #[]] w fun e w' => e = .returned (.tuple #[.agg #[.int .u64 z1], .bool b1]) ∧ Below w.heap.size w w')
    (E2 : ∀ w, Calls Tryz.prog 84 #[.int .u64 y, .agg #[]] w fun e w' => e = .returned (.tuple #[.agg #[.int .u64 z2], .bool b2]) ∧ Below w.heap.size w w') :
    Calls Tryz.prog 81 #[.agg #[.int .u64 x, .int .u64 y, .bool true]] w fun e w' => e = .returned (.tuple #[.agg #[.int .u64 0, .int .u64 0, .bool true], .bool false]) ∧ Below w.heap.size w w' := by
  obtain ⟨X, hX⟩ : ∃ X, X = ((w.alloc (Obj.cells #[.int .u64 x, .int .u64 y, .bool true] 25)).alloc (Obj.cells #[.int .u64 0, .int .u64 0, .bool false] 118)).alloc (Obj.cells #[.int .u64 x, .int .u64 y, .bool true] 118) := ⟨_, rfl⟩
  have hp : K3 X 25 w.heap.size x y true := by rw [hX]; exact ((K3.new w _ _ _ _).alloc _).alloc _
  have hf : K3 X 118 (w.heap.size + 1 + 1) x y true := by rw [hX]; exact (K3.new _ _ _ _ _).at (by simp)
  have hr : K3 X 118 (w.heap.size + 1) 0 0 false := by rw [hX]; exact ((K3.new _ _ 0 0 false).at (by simp)).alloc _
  have hb : Below w.heap.size w X := by rw [hX]; exact (((Below.refl _ w).alloc (Nat.le_refl _) _).alloc (by simp) _).alloc (by simp; omega) _
  rw [hX] at hp hf hr hb
  clear hX
  have c0 := hf.drew.c0
  have c1 := hf.drew.c1
  have c2 := hf.drew.c2
  go_enter Tryz.func81, Tryz.ntmps81
  go_wp2
  go_region_held3 (fun w' => w'.cell? ⟨w.heap.size + 1 + 1, 0, none⟩ = some (.int .u64 x) ∧ w'.cell? ⟨w.heap.size + 1 + 1, 1, none⟩ = some (.int .u64 y) ∧ w'.cell? ⟨w.heap.size + 1 + 1, 2, none⟩ = some (.bool true)) (first | exact ⟨c0, c1, c2⟩ | exact ⟨keepC c0 b3, keepC c1 b3, keepC c2 b3⟩ | go_keep) ((go_at_call 83; refine (zpP _).mono ?_; rintro e w1 ⟨rfl, b3⟩))
  replace hp := (hp.drew).keep b3
  replace hr := (hr.drew).keep b3
  replace hb := keepB hb.drew hb.size b3
  clear b3 c0 c1 c2 hf
  have c0 := hp.c0
  go_wp2_with fail
  refine (E1 _).mono ?_
  rintro e w2 ⟨rfl, b4⟩
  replace hp := (hp.keep b4).alloc (Obj.cells #[.int .u64 z1] 124)
  replace hr := (hr.keep b4).alloc (Obj.cells #[.int .u64 z1] 124)
  replace hb := keepB hb hb.size b4
  replace hb := hb.alloc hb.size (Obj.cells #[.int .u64 z1] 124)
  have n1 := R1.new w2 z1
  clear b4 c0 E1
  have c1 := hp.c1
  go_wp2_with fail
  refine (E2 _).mono ?_
  rintro e w3 ⟨rfl, b5⟩
  replace hp := (hp.keep b5).alloc (Obj.cells #[.int .u64 z2] 124)
  replace hr := (hr.keep b5).alloc (Obj.cells #[.int .u64 z2] 124)
  replace n1 := (n1.keep b5).alloc (Obj.cells #[.int .u64 z2] 124)
  replace hb := keepB hb hb.size b5
  replace hb := hb.alloc hb.size (Obj.cells #[.int .u64 z2] 124)
  have n2 := R1.new w3 z2
  clear b5 c1 E2
  have c2 := hp.drew.c2
  have m1 := n1.drew.cell
  have m2 := n2.drew.cell
  go_wp2
  go_region
  clear c2 m1 m2
  go_wp2_with fail
  refine (zpP _).mono ?_
  rintro e w9 ⟨rfl, b9⟩
  replace hr := (hr.drew).keep b9
  replace hb := keepB hb.drew hb.size b9
  have d0 := hr.c0
  have d1 := hr.c1
  have d2 := hr.c2
  have f0 := hr.frz 0
  have f1 := hr.frz 1
  have f2 := hr.frz 2
  go_wp2
  exact bodyPost_ret (v := .tuple #[.agg #[.int .u64 0, .int .u64 0, .bool true], .bool false]) (cp_ct (fn := Tryz.f81) (p := 2) (u := 3) Tryz.results81 _ rfl (hr.set _ _ _)) rfl ⟨rfl, set3_below hb (by omega)⟩
theorem fndP_inf2 (y z1 z2 : Int) (b1 b2 : Bool) (w : World) (hy : (y == 0) = false)
    (E1 : ∀ w, Calls Tryz.prog 84 #[.int .u64 0, .agg #[]] w fun e w' => e = .returned (.tuple #[.agg #[.int .u64 z1], .bool b1]) ∧ Below w.heap.size w w')
    (E2 : ∀ w, Calls Tryz.prog 84 #[.int .u64 y, .agg #[]] w fun e w' => e = .returned (.tuple #[.agg #[.int .u64 z2], .bool b2]) ∧ Below w.heap.size w w') :
    Calls Tryz.prog 81 #[.agg #[.int .u64 0, .int .u64 y, .bool true]] w fun e w' => e = .returned (.tuple #[.agg #[.int .u64 0, .int .u64 0, .bool true], .bool false]) ∧ Below w.heap.size w w' := by
  obtain ⟨X, hX⟩ : ∃ X, X = ((w.alloc (Obj.cells #[.int .u64 0, .int .u64 y, .bool true] 25)).alloc (Obj.cells #[.int .u64 0, .int .u64 0, .bool false] 118)).alloc (Obj.cells #[.int .u64 0, .int .u64 y, .bool true] 118) := ⟨_, rfl⟩
  have hp : K3 X 25 w.heap.size 0 y true := by rw [hX]; exact ((K3.new w _ _ _ _).alloc _).alloc _
  have hf : K3 X 118 (w.heap.size + 1 + 1) 0 y true := by rw [hX]; exact (K3.new _ _ _ _ _).at (by simp)
  have hr : K3 X 118 (w.heap.size + 1) 0 0 false := by rw [hX]; exact ((K3.new _ _ 0 0 false).at (by simp)).alloc _
  have hb : Below w.heap.size w X := by rw [hX]; exact (((Below.refl _ w).alloc (Nat.le_refl _) _).alloc (by simp) _).alloc (by simp; omega) _
  rw [hX] at hp hf hr hb
  clear hX
  have c0 := hf.drew.c0
  have c1 := hf.drew.c1
  have c2 := hf.drew.c2
  go_enter Tryz.func81, Tryz.ntmps81
  go_wp2
  go_region_held3 (fun w' => w'.cell? ⟨w.heap.size + 1 + 1, 0, none⟩ = some (.int .u64 0) ∧ w'.cell? ⟨w.heap.size + 1 + 1, 1, none⟩ = some (.int .u64 y) ∧ w'.cell? ⟨w.heap.size + 1 + 1, 2, none⟩ = some (.bool true)) (first | exact ⟨c0, c1, c2⟩ | exact ⟨keepC c0 b3, keepC c1 b3, keepC c2 b3⟩ | go_keep) ((go_at_call 83; refine (zpP _).mono ?_; rintro e w1 ⟨rfl, b3⟩))
  replace hp := (hp.drew).keep b3
  replace hr := (hr.drew).keep b3
  replace hb := keepB hb.drew hb.size b3
  clear b3 c0 c1 c2 hf
  have c0 := hp.c0
  go_wp2_with fail
  refine (E1 _).mono ?_
  rintro e w2 ⟨rfl, b4⟩
  replace hp := (hp.keep b4).alloc (Obj.cells #[.int .u64 z1] 124)
  replace hr := (hr.keep b4).alloc (Obj.cells #[.int .u64 z1] 124)
  replace hb := keepB hb hb.size b4
  replace hb := hb.alloc hb.size (Obj.cells #[.int .u64 z1] 124)
  have n1 := R1.new w2 z1
  clear b4 c0 E1
  have c1 := hp.c1
  go_wp2_with fail
  refine (E2 _).mono ?_
  rintro e w3 ⟨rfl, b5⟩
  replace hp := (hp.keep b5).alloc (Obj.cells #[.int .u64 z2] 124)
  replace hr := (hr.keep b5).alloc (Obj.cells #[.int .u64 z2] 124)
  replace n1 := (n1.keep b5).alloc (Obj.cells #[.int .u64 z2] 124)
  replace hb := keepB hb hb.size b5
  replace hb := hb.alloc hb.size (Obj.cells #[.int .u64 z2] 124)
  have n2 := R1.new w3 z2
  clear b5 c1 E2
  have c2 := hp.drew.c2
  have m1 := n1.drew.cell
  have m2 := n2.drew.cell
  go_wp2
  go_region
  clear c2 m1 m2
  go_wp2_with fail
  refine (zpP _).mono ?_
  rintro e w9 ⟨rfl, b9⟩
  replace hr := (hr.drew).keep b9
  replace hb := keepB hb.drew hb.size b9
  have d0 := hr.c0
  have d1 := hr.c1
  have d2 := hr.c2
  have f0 := hr.frz 0
  have f1 := hr.frz 1
  have f2 := hr.frz 2
  go_wp2
  exact bodyPost_ret (v := .tuple #[.agg #[.int .u64 0, .int .u64 0, .bool true], .bool false]) (cp_ct (fn := Tryz.f81) (p := 2) (u := 3) Tryz.results81 _ rfl (hr.set _ _ _)) rfl ⟨rfl, set3_below hb (by omega)⟩
theorem fndP_bigx (x y z1 z2 : Int) (b2 : Bool) (w : World)
    (E1 : ∀ w, Calls Tryz.prog 84 #[.int .u64 x, .agg #[]] w fun e w' => e = .returned (.tuple #[.agg #[.int .u64 z1], .bool false]) ∧ Below w.heap.size w w')
    (E2 : ∀ w, Calls Tryz.prog 84 #[.int .u64 y, .agg #[]] w fun e w' => e = .returned (.tuple #[.agg #[.int .u64 z2], .bool b2]) ∧ Below w.heap.size w w') :
    Calls Tryz.prog 81 #[.agg #[.int .u64 x, .int .u64 y, .bool false]] w fun e w' => e = .returned (.tuple #[.agg #[.int .u64 0, .int .u64 0, .bool true], .bool false]) ∧ Below w.heap.size w w' := by
  obtain ⟨X, hX⟩ : ∃ X, X = ((w.alloc (Obj.cells #[.int .u64 x, .int .u64 y, .bool false] 25)).alloc (Obj.cells #[.int .u64 0, .int .u64 0, .bool false] 118)).alloc (Obj.cells #[.int .u64 x, .int .u64 y, .bool false] 118) := ⟨_, rfl⟩
  have hp : K3 X 25 w.heap.size x y false := by rw [hX]; exact ((K3.new w _ _ _ _).alloc _).alloc _
  have hf : K3 X 118 (w.heap.size + 1 + 1) x y false := by rw [hX]; exact (K3.new _ _ _ _ _).at (by simp)
  have hr : K3 X 118 (w.heap.size + 1) 0 0 false := by rw [hX]; exact ((K3.new _ _ 0 0 false).at (by simp)).alloc _
  have hb : Below w.heap.size w X := by rw [hX]; exact (((Below.refl _ w).alloc (Nat.le_refl _) _).alloc (by simp) _).alloc (by simp; omega) _
  rw [hX] at hp hf hr hb
  clear hX
  have c0 := hf.drew.c0
  have c1 := hf.drew.c1
  have c2 := hf.drew.c2
  go_enter Tryz.func81, Tryz.ntmps81
  go_wp2
  go_region_held3 (fun w' => w'.cell? ⟨w.heap.size + 1 + 1, 0, none⟩ = some (.int .u64 x) ∧ w'.cell? ⟨w.heap.size + 1 + 1, 1, none⟩ = some (.int .u64 y) ∧ w'.cell? ⟨w.heap.size + 1 + 1, 2, none⟩ = some (.bool false)) (first | exact ⟨c0, c1, c2⟩ | exact ⟨keepC c0 b3, keepC c1 b3, keepC c2 b3⟩ | go_keep) ((go_at_call 83; refine (zpP _).mono ?_; rintro e w1 ⟨rfl, b3⟩))
  replace hp := (hp.drew).keep b3
  replace hr := (hr.drew).keep b3
  replace hb := keepB hb.drew hb.size b3
  clear b3 c0 c1 c2 hf
  have c0 := hp.c0
  go_wp2_with fail
  refine (E1 _).mono ?_
  rintro e w2 ⟨rfl, b4⟩
  replace hp := (hp.keep b4).alloc (Obj.cells #[.int .u64 z1] 124)
  replace hr := (hr.keep b4).alloc (Obj.cells #[.int .u64 z1] 124)
  replace hb := keepB hb hb.size b4
  replace hb := hb.alloc hb.size (Obj.cells #[.int .u64 z1] 124)
  have n1 := R1.new w2 z1
  clear b4 c0 E1
  have c1 := hp.c1
  go_wp2_with fail
  refine (E2 _).mono ?_
  rintro e w3 ⟨rfl, b5⟩
  replace hp := (hp.keep b5).alloc (Obj.cells #[.int .u64 z2] 124)
  replace hr := (hr.keep b5).alloc (Obj.cells #[.int .u64 z2] 124)
  replace n1 := (n1.keep b5).alloc (Obj.cells #[.int .u64 z2] 124)
  replace hb := keepB hb hb.size b5
  replace hb := hb.alloc hb.size (Obj.cells #[.int .u64 z2] 124)
  have n2 := R1.new w3 z2
  clear b5 c1 E2
  have c2 := hp.drew.c2
  have m1 := n1.drew.cell
  have m2 := n2.drew.cell
  go_wp2
  go_region
  clear c2 m1 m2
  go_wp2_with fail
  refine (zpP _).mono ?_
  rintro e w9 ⟨rfl, b9⟩
  replace hr := (hr.drew).keep b9
  replace hb := keepB hb.drew hb.size b9
  have d0 := hr.c0
  have d1 := hr.c1
  have d2 := hr.c2
  have f0 := hr.frz 0
  have f1 := hr.frz 1
  have f2 := hr.frz 2
  go_wp2
  exact bodyPost_ret (v := .tuple #[.agg #[.int .u64 0, .int .u64 0, .bool true], .bool false]) (cp_ct (fn := Tryz.f81) (p := 2) (u := 3) Tryz.results81 _ rfl (hr.set _ _ _)) rfl ⟨rfl, set3_below hb (by omega)⟩
theorem fndP_bigy (x y z1 z2 : Int) (w : World)
    (E1 : ∀ w, Calls Tryz.prog 84 #[.int .u64 x, .agg #[]] w fun e w' => e = .returned (.tuple #[.agg #[.int .u64 z1], .bool true]) ∧ Below w.heap.size w w')
    (E2 : ∀ w, Calls Tryz.prog 84 #[.int .u64 y, .agg #[]] w fun e w' => e = .returned (.tuple #[.agg #[.int .u64 z2], .bool false]) ∧ Below w.heap.size w w') :
    Calls Tryz.prog 81 #[.agg #[.int .u64 x, .int .u64 y, .bool false]] w fun e w' => e = .returned (.tuple #[.agg #[.int .u64 0, .int .u64 0, .bool true], .bool false]) ∧ Below w.heap.size w w' := by
  obtain ⟨X, hX⟩ : ∃ X, X = ((w.alloc (Obj.cells #[.int .u64 x, .int .u64 y, .bool false] 25)).alloc (Obj.cells #[.int .u64 0, .int .u64 0, .bool false] 118)).alloc (Obj.cells #[.int .u64 x, .int .u64 y, .bool false] 118) := ⟨_, rfl⟩
  have hp : K3 X 25 w.heap.size x y false := by rw [hX]; exact ((K3.new w _ _ _ _).alloc _).alloc _
  have hf : K3 X 118 (w.heap.size + 1 + 1) x y false := by rw [hX]; exact (K3.new _ _ _ _ _).at (by simp)
  have hr : K3 X 118 (w.heap.size + 1) 0 0 false := by rw [hX]; exact ((K3.new _ _ 0 0 false).at (by simp)).alloc _
  have hb : Below w.heap.size w X := by rw [hX]; exact (((Below.refl _ w).alloc (Nat.le_refl _) _).alloc (by simp) _).alloc (by simp; omega) _
  rw [hX] at hp hf hr hb
  clear hX
  have c0 := hf.drew.c0
  have c1 := hf.drew.c1
  have c2 := hf.drew.c2
  go_enter Tryz.func81, Tryz.ntmps81
  go_wp2
  go_region_held3 (fun w' => w'.cell? ⟨w.heap.size + 1 + 1, 0, none⟩ = some (.int .u64 x) ∧ w'.cell? ⟨w.heap.size + 1 + 1, 1, none⟩ = some (.int .u64 y) ∧ w'.cell? ⟨w.heap.size + 1 + 1, 2, none⟩ = some (.bool false)) (first | exact ⟨c0, c1, c2⟩ | exact ⟨keepC c0 b3, keepC c1 b3, keepC c2 b3⟩ | go_keep) ((go_at_call 83; refine (zpP _).mono ?_; rintro e w1 ⟨rfl, b3⟩))
  replace hp := (hp.drew).keep b3
  replace hr := (hr.drew).keep b3
  replace hb := keepB hb.drew hb.size b3
  clear b3 c0 c1 c2 hf
  have c0 := hp.c0
  go_wp2_with fail
  refine (E1 _).mono ?_
  rintro e w2 ⟨rfl, b4⟩
  replace hp := (hp.keep b4).alloc (Obj.cells #[.int .u64 z1] 124)
  replace hr := (hr.keep b4).alloc (Obj.cells #[.int .u64 z1] 124)
  replace hb := keepB hb hb.size b4
  replace hb := hb.alloc hb.size (Obj.cells #[.int .u64 z1] 124)
  have n1 := R1.new w2 z1
  clear b4 c0 E1
  have c1 := hp.c1
  go_wp2_with fail
  refine (E2 _).mono ?_
  rintro e w3 ⟨rfl, b5⟩
  replace hp := (hp.keep b5).alloc (Obj.cells #[.int .u64 z2] 124)
  replace hr := (hr.keep b5).alloc (Obj.cells #[.int .u64 z2] 124)
  replace n1 := (n1.keep b5).alloc (Obj.cells #[.int .u64 z2] 124)
  replace hb := keepB hb hb.size b5
  replace hb := hb.alloc hb.size (Obj.cells #[.int .u64 z2] 124)
  have n2 := R1.new w3 z2
  clear b5 c1 E2
  have c2 := hp.drew.c2
  have m1 := n1.drew.cell
  have m2 := n2.drew.cell
  go_wp2
  go_region
  clear c2 m1 m2
  go_wp2_with fail
  refine (zpP _).mono ?_
  rintro e w9 ⟨rfl, b9⟩
  replace hr := (hr.drew).keep b9
  replace hb := keepB hb.drew hb.size b9
  have d0 := hr.c0
  have d1 := hr.c1
  have d2 := hr.c2
  have f0 := hr.frz 0
  have f1 := hr.frz 1
  have f2 := hr.frz 2
  go_wp2
  exact bodyPost_ret (v := .tuple #[.agg #[.int .u64 0, .int .u64 0, .bool true], .bool false]) (cp_ct (fn := Tryz.f81) (p := 2) (u := 3) Tryz.results81 _ rfl (hr.set _ _ _)) rfl ⟨rfl, set3_below hb (by omega)⟩
theorem fndP_off (x y z1 z2 : Int) (w : World) (hz : (z1 == z2) = false)
    (T1 : ∀ w, Calls Tryz.prog 85 #[.agg #[.int .u64 y], .agg #[.int .u64 y]] w fun e w' => e = .returned (.agg #[.int .u64 z1]) ∧ Below w.heap.size w w')
    (T2 : ∀ w, Calls Tryz.prog 86 #[.agg #[.int .u64 x]] w fun e w' => e = .returned (.agg #[.int .u64 z2]) ∧ Below w.heap.size w w')
    (E1 : ∀ w, Calls Tryz.prog 84 #[.int .u64 x, .agg #[]] w fun e w' => e = .returned (.tuple #[.agg #[.int .u64 x], .bool true]) ∧ Below w.heap.size w w')
    (E2 : ∀ w, Calls Tryz.prog 84 #[.int .u64 y, .agg #[]] w fun e w' => e = .returned (.tuple #[.agg #[.int .u64 y], .bool true]) ∧ Below w.heap.size w w') :
    Calls Tryz.prog 81 #[.agg #[.int .u64 x, .int .u64 y, .bool false]] w fun e w' => e = .returned (.tuple #[.agg #[.int .u64 0, .int .u64 0, .bool true], .bool false]) ∧ Below w.heap.size w w' := by
  obtain ⟨X, hX⟩ : ∃ X, X = ((w.alloc (Obj.cells #[.int .u64 x, .int .u64 y, .bool false] 25)).alloc (Obj.cells #[.int .u64 0, .int .u64 0, .bool false] 118)).alloc (Obj.cells #[.int .u64 x, .int .u64 y, .bool false] 118) := ⟨_, rfl⟩
  have hp : K3 X 25 w.heap.size x y false := by rw [hX]; exact ((K3.new w _ _ _ _).alloc _).alloc _
  have hf : K3 X 118 (w.heap.size + 1 + 1) x y false := by rw [hX]; exact (K3.new _ _ _ _ _).at (by simp)
  have hr : K3 X 118 (w.heap.size + 1) 0 0 false := by rw [hX]; exact ((K3.new _ _ 0 0 false).at (by simp)).alloc _
  have hb : Below w.heap.size w X := by rw [hX]; exact (((Below.refl _ w).alloc (Nat.le_refl _) _).alloc (by simp) _).alloc (by simp; omega) _
  rw [hX] at hp hf hr hb
  clear hX
  have c0 := hf.drew.c0
  have c1 := hf.drew.c1
  have c2 := hf.drew.c2
  go_enter Tryz.func81, Tryz.ntmps81
  go_wp2
  go_region_held3 (fun w' => w'.cell? ⟨w.heap.size + 1 + 1, 0, none⟩ = some (.int .u64 x) ∧ w'.cell? ⟨w.heap.size + 1 + 1, 1, none⟩ = some (.int .u64 y) ∧ w'.cell? ⟨w.heap.size + 1 + 1, 2, none⟩ = some (.bool false)) (first | exact ⟨c0, c1, c2⟩ | exact ⟨keepC c0 b3, keepC c1 b3, keepC c2 b3⟩ | go_keep) ((go_at_call 83; refine (zpP _).mono ?_; rintro e w1 ⟨rfl, b3⟩))
  replace hp := (hp.drew).keep b3
  replace hr := (hr.drew).keep b3
  replace hb := keepB hb.drew hb.size b3
  clear b3 c0 c1 c2 hf
  have c0 := hp.c0
  go_wp2_with fail
  refine (E1 _).mono ?_
  rintro e w2 ⟨rfl, b4⟩
  replace hp := (hp.keep b4).alloc (Obj.cells #[.int .u64 x] 124)
  replace hr := (hr.keep b4).alloc (Obj.cells #[.int .u64 x] 124)
  replace hb := keepB hb hb.size b4
  replace hb := hb.alloc hb.size (Obj.cells #[.int .u64 x] 124)
  have n1 := R1.new w2 x
  clear b4 c0 E1
  have c1 := hp.c1
  go_wp2_with fail
  refine (E2 _).mono ?_
  rintro e w3 ⟨rfl, b5⟩
  replace hp := (hp.keep b5).alloc (Obj.cells #[.int .u64 y] 124)
  replace hr := (hr.keep b5).alloc (Obj.cells #[.int .u64 y] 124)
  replace n1 := (n1.keep b5).alloc (Obj.cells #[.int .u64 y] 124)
  replace hb := keepB hb hb.size b5
  replace hb := hb.alloc hb.size (Obj.cells #[.int .u64 y] 124)
  have n2 := R1.new w3 y
  clear b5 c1 E2
  have c2 := hp.drew.c2
  have m1 := n1.drew.cell
  have m2 := n2.drew.cell
  go_wp2
  go_region_held3 (fun w' => w'.cell? ⟨w.heap.size, 2, none⟩ = some (.bool false) ∧ w'.cell? ⟨w2.heap.size, 0, none⟩ = some (.int .u64 x) ∧ w'.cell? ⟨w3.heap.size, 0, none⟩ = some (.int .u64 y)) (first | exact ⟨c2, m1, m2⟩ | exact ⟨keepC c2 b6, keepC m1 b6, keepC m2 b6⟩ | exact ⟨keepC (keepC c2 b6) b7, keepC (keepC m1 b6) b7, keepC (keepC m2 b6) b7⟩ | go_keep) (first
    | (go_at_call 85; refine (T1 _).mono ?_; rintro e w6 ⟨rfl, b6⟩)
    | (go_at_call 86; refine (T2 _).mono ?_; rintro e w7 ⟨rfl, b7⟩))
  clear c2 m1 m2
  go_wp2_with fail
  refine (zpP _).mono ?_
  rintro e w9 ⟨rfl, b9⟩
  replace hr := (((hr.drew).keep b6).keep b7).keep b9
  replace hb := keepB (keepB (keepB hb.drew hb.size b6) (Nat.le_trans hb.size b6.size) b7) (Nat.le_trans hb.size (Nat.le_trans b6.size b7.size)) b9
  have d0 := hr.c0
  have d1 := hr.c1
  have d2 := hr.c2
  have f0 := hr.frz 0
  have f1 := hr.frz 1
  have f2 := hr.frz 2
  go_wp2
  exact bodyPost_ret (v := .tuple #[.agg #[.int .u64 0, .int .u64 0, .bool true], .bool false]) (cp_ct (fn := Tryz.f81) (p := 2) (u := 3) Tryz.results81 _ rfl (hr.set _ _ _)) rfl ⟨rfl, set3_below hb (by omega)⟩
theorem fndP_on (x y z1 z2 : Int) (w : World) (hz : (z1 == z2) = true)
    (T1 : ∀ w, Calls Tryz.prog 85 #[.agg #[.int .u64 y], .agg #[.int .u64 y]] w fun e w' => e = .returned (.agg #[.int .u64 z1]) ∧ Below w.heap.size w w')
    (T2 : ∀ w, Calls Tryz.prog 86 #[.agg #[.int .u64 x]] w fun e w' => e = .returned (.agg #[.int .u64 z2]) ∧ Below w.heap.size w w')
    (E1 : ∀ w, Calls Tryz.prog 84 #[.int .u64 x, .agg #[]] w fun e w' => e = .returned (.tuple #[.agg #[.int .u64 x], .bool true]) ∧ Below w.heap.size w w')
    (E2 : ∀ w, Calls Tryz.prog 84 #[.int .u64 y, .agg #[]] w fun e w' => e = .returned (.tuple #[.agg #[.int .u64 y], .bool true]) ∧ Below w.heap.size w w') :
    Calls Tryz.prog 81 #[.agg #[.int .u64 x, .int .u64 y, .bool false]] w fun e w' => e = .returned (.tuple #[.agg #[.int .u64 x, .int .u64 y, .bool false], .bool true]) ∧ Below w.heap.size w w' := by
  obtain ⟨X, hX⟩ : ∃ X, X = ((w.alloc (Obj.cells #[.int .u64 x, .int .u64 y, .bool false] 25)).alloc (Obj.cells #[.int .u64 0, .int .u64 0, .bool false] 118)).alloc (Obj.cells #[.int .u64 x, .int .u64 y, .bool false] 118) := ⟨_, rfl⟩
  have hp : K3 X 25 w.heap.size x y false := by rw [hX]; exact ((K3.new w _ _ _ _).alloc _).alloc _
  have hf : K3 X 118 (w.heap.size + 1 + 1) x y false := by rw [hX]; exact (K3.new _ _ _ _ _).at (by simp)
  have hr : K3 X 118 (w.heap.size + 1) 0 0 false := by rw [hX]; exact ((K3.new _ _ 0 0 false).at (by simp)).alloc _
  have hb : Below w.heap.size w X := by rw [hX]; exact (((Below.refl _ w).alloc (Nat.le_refl _) _).alloc (by simp) _).alloc (by simp; omega) _
  rw [hX] at hp hf hr hb
  clear hX
  have c0 := hf.drew.c0
  have c1 := hf.drew.c1
  have c2 := hf.drew.c2
  go_enter Tryz.func81, Tryz.ntmps81
  go_wp2
  go_region_held3 (fun w' => w'.cell? ⟨w.heap.size + 1 + 1, 0, none⟩ = some (.int .u64 x) ∧ w'.cell? ⟨w.heap.size + 1 + 1, 1, none⟩ = some (.int .u64 y) ∧ w'.cell? ⟨w.heap.size + 1 + 1, 2, none⟩ = some (.bool false)) (first | exact ⟨c0, c1, c2⟩ | exact ⟨keepC c0 b3, keepC c1 b3, keepC c2 b3⟩ | go_keep) ((go_at_call 83; refine (zpP _).mono ?_; rintro e w1 ⟨rfl, b3⟩))
  replace hp := (hp.drew).keep b3
  replace hr := (hr.drew).keep b3
  replace hb := keepB hb.drew hb.size b3
  clear b3 c0 c1 c2 hf
  have c0 := hp.c0
  go_wp2_with fail
  refine (E1 _).mono ?_
  rintro e w2 ⟨rfl, b4⟩
  replace hp := (hp.keep b4).alloc (Obj.cells #[.int .u64 x] 124)
  replace hr := (hr.keep b4).alloc (Obj.cells #[.int .u64 x] 124)
  replace hb := keepB hb hb.size b4
  replace hb := hb.alloc hb.size (Obj.cells #[.int .u64 x] 124)
  have n1 := R1.new w2 x
  clear b4 c0 E1
  have c1 := hp.c1
  go_wp2_with fail
  refine (E2 _).mono ?_
  rintro e w3 ⟨rfl, b5⟩
  replace hp := (hp.keep b5).alloc (Obj.cells #[.int .u64 y] 124)
  replace hr := (hr.keep b5).alloc (Obj.cells #[.int .u64 y] 124)
  replace n1 := (n1.keep b5).alloc (Obj.cells #[.int .u64 y] 124)
  replace hb := keepB hb hb.size b5
  replace hb := hb.alloc hb.size (Obj.cells #[.int .u64 y] 124)
  have n2 := R1.new w3 y
  clear b5 c1 E2
  have c2 := hp.drew.c2
  have m1 := n1.drew.cell
  have m2 := n2.drew.cell
  go_wp2
  go_region_held3 (fun w' => w'.cell? ⟨w.heap.size, 2, none⟩ = some (.bool false) ∧ w'.cell? ⟨w2.heap.size, 0, none⟩ = some (.int .u64 x) ∧ w'.cell? ⟨w3.heap.size, 0, none⟩ = some (.int .u64 y)) (first | exact ⟨c2, m1, m2⟩ | exact ⟨keepC c2 b6, keepC m1 b6, keepC m2 b6⟩ | exact ⟨keepC (keepC c2 b6) b7, keepC (keepC m1 b6) b7, keepC (keepC m2 b6) b7⟩ | go_keep) (first
    | (go_at_call 85; refine (T1 _).mono ?_; rintro e w6 ⟨rfl, b6⟩)
    | (go_at_call 86; refine (T2 _).mono ?_; rintro e w7 ⟨rfl, b7⟩))
  replace hr := ((hr.drew).keep b6).keep b7
  replace hp := ((hp.drew).keep b6).keep b7
  replace hb := keepB (keepB hb.drew hb.size b6) (Nat.le_trans hb.size b6.size) b7
  clear c2 m1 m2
  have c0 := hp.c0
  have c1 := hp.c1
  have c2 := hp.c2
  have d0 := hr.c0
  have d1 := hr.c1
  have d2 := hr.c2
  have f0 := hr.frz 0
  have f1 := hr.frz 1
  have f2 := hr.frz 2
  go_wp2
  exact bodyPost_ret (v := .tuple #[.agg #[.int .u64 x, .int .u64 y, .bool false], .bool true]) (cp_ct (fn := Tryz.f81) (p := 2) (u := 3) Tryz.results81 _ rfl (hr.set _ _ _)) rfl ⟨rfl, set3_below hb (by omega)⟩
theorem fndV (x y : Nat) (c : Bool) (w : World) :
    Calls Tryz.prog 81 #[.agg #[.int .u64 x, .int .u64 y, .bool c]] w fun e w' => e = .returned (.tuple #[ptW (asPt x y c), .bool (toPt x y c).isSome]) ∧ Below w.heap.size w w' := by
  have E : ∀ n : Nat, ∃ (z : Int) (b : Bool), (∀ w, Calls Tryz.prog 84 #[.int .u64 n, .agg #[]] w fun e w' => e = .returned (.tuple #[.agg #[.int .u64 z], .bool b]) ∧ Below w.heap.size w w') ∧
      ((b = true ∧ z = n ∧ n < 2305843009213693951) ∨ (b = false ∧ ¬ n < 2305843009213693951)) := fun n => by
    by_cases h : n < 2305843009213693951
    · exact ⟨n, true, fun w => exP_less n w (by omega), .inl ⟨rfl, rfl, h⟩⟩
    · exact ⟨0, false, fun w => exP_more n w (by omega), .inr ⟨rfl, h⟩⟩
  obtain ⟨zx, bx, E1, hx⟩ := E x
  obtain ⟨zy, by_, E2, hy⟩ := E y
  cases c with
  | true =>
    by_cases h0 : x = 0 ∧ y = 0
    · obtain ⟨rfl, rfl⟩ := h0
      have e1 : toPt 0 0 true = some none := by unfold toPt; rw [if_pos rfl, if_pos ⟨rfl, rfl⟩]
      rw [asPt_some e1, e1]
      exact fndP_zero w
    · have e1 : toPt x y true = none := by unfold toPt; rw [if_pos rfl, if_neg h0]
      have e2 : asPt x y true = none := by unfold asPt; rw [e1]; rfl
      rw [e1, e2]
      by_cases hx0 : x = 0
      · subst hx0
        exact fndP_inf2 y zx zy bx by_ w (by simp; omega) E1 E2
      · exact fndP_inf1 x y zx zy bx by_ w (by simp; omega) E1 E2
  | false =>
    rcases hx with ⟨rfl, rfl, hx⟩ | ⟨rfl, hx⟩
    · rcases hy with ⟨rfl, rfl, hy⟩ | ⟨rfl, hy⟩
      · have T1 := tmV ⟨y, hy⟩ ⟨y, hy⟩
        have T2 := csqV ⟨x, hx⟩
        have e0 : toPt x y false = if (⟨y, hy⟩ : Fp) * ⟨y, hy⟩ = crv ⟨x, hx⟩ then some (some (⟨x, hx⟩, ⟨y, hy⟩)) else none := by
          unfold toPt
          rw [if_neg (by decide), dif_pos ⟨hx, hy⟩]
        by_cases h : (⟨y, hy⟩ : Fp) * ⟨y, hy⟩ = crv ⟨x, hx⟩
        · rw [if_pos h] at e0
          rw [asPt_some e0, e0]
          exact fndP_on x y _ _ w (by rw [fv_eq]; simp [h]) T1 T2 E1 E2
        · rw [if_neg h] at e0
          have e2 : asPt x y false = none := by unfold asPt; rw [e0]; rfl
          rw [e0, e2]
          exact fndP_off x y _ _ w (by rw [fv_eq]; simp [h]) T1 T2 E1 E2
      · have e0 : toPt x y false = none := by
          unfold toPt
          rw [if_neg (by decide), dif_neg (fun h => hy h.2)]
        have e2 : asPt x y false = none := by unfold asPt; rw [e0]; rfl
        rw [e0, e2]
        exact fndP_bigy x y x zy w E1 E2
    · have e0 : toPt x y false = none := by
        unfold toPt
        rw [if_neg (by decide), dif_neg (fun h => hx h.1)]
      have e2 : asPt x y false = none := by unfold asPt; rw [e0]; rfl
      rw [e0, e2]
      exact fndP_bigx x y zx zy by_ w E1 E2
end Go.Proofs.YtdaobioomoajfaaGreat
namespace Go.Proofs.YtdaobioomoajfaaGreat
open Go.RowKit M
theorem fndW (x y : Nat) (c : Bool) (w : World) :
    Calls Tryz.prog 81 #[.agg #[.int .u64 x, .int .u64 y, .bool c]] w fun e w' => e = .returned (.tuple #[.agg #[.int .u64 (px (asPt x y c)), .int .u64 (py (asPt x y c)), .bool (pb (asPt x y c))], .bool (toPt x y c).isSome]) ∧ Below w.heap.size w w' := by
  have := fndV x y c w
  rwa [ptW_eq] at this
end Go.Proofs.YtdaobioomoajfaaGreat
