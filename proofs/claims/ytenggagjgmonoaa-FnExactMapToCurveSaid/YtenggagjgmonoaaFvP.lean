import Derived.Test.YtenggagjgmonoaaNegP
import Derived.Test.YtenggagjgmonoaaCrvV
import Derived.Test.YtenggagjgmonoaaPowP
namespace Go.Proofs.Ytenggagjgmonoaa
open Go.RowKit M
set_option linter.unusedVariables false

set_option maxRecDepth 100000 in
set_option maxHeartbeats 2000000 in
theorem redP_of (n c : Int) (w : World) (h0 : 0 ≤ n) (hc : n.tmod 2305843009213693951 = c) :
    Calls Try.prog 13 #[.int .u64 n, .agg #[]] w fun e w' => e = .returned (.agg #[.int .u64 c]) ∧ Below w.heap.size w w' := by
  have hm := methP
  have hf := foldP
  have V := valP
  go_enter Try.func13, Try.ntmps13
  go_wp2
  go_region_held3 (fun _ => True) (trivial) ((go_simp; go_at_call 47; refine (V _).mono ?_; rintro e w' ⟨rfl, rfl⟩))
  go_wp2
  refine bodyPost_ret (v := .agg #[.int .u64 c]) (by simp [results, Try.results13, go_sem]) rfl ⟨rfl, ?_⟩
  exact ((((Below.refl _ w).alloc (Nat.le_refl _) _).alloc (by simp) _).alloc (by simp; omega) _).drew
theorem fv_ge (x : Fp) : 0 ≤ fv x := by unfold fv; omega
theorem fv_lt (x : Fp) : fv x < 2305843009213693951 := by have := val_lt x; unfold fv; omega
theorem rdV (x : Fp) (w : World) :
    Calls Try.prog 13 #[.int .u64 (fv x), .agg #[]] w fun e w' => e = .returned (.agg #[.int .u64 (fv x)]) ∧ Below w.heap.size w w' :=
  redP_of _ _ w (fv_ge x) (Int.tmod_eq_of_lt (fv_ge x) (fv_lt x))
theorem rd0 (w : World) : Calls Try.prog 13 #[.int .u64 0, .agg #[]] w fun e w' => e = .returned (.agg #[.int .u64 (fv 0)]) ∧ Below w.heap.size w w' := rdV 0 w
theorem rd1 (w : World) : Calls Try.prog 13 #[.int .u64 1, .agg #[]] w fun e w' => e = .returned (.agg #[.int .u64 (fv 1)]) ∧ Below w.heap.size w w' := rdV 1 w
theorem rd3 (w : World) : Calls Try.prog 13 #[.int .u64 3, .agg #[]] w fun e w' => e = .returned (.agg #[.int .u64 (fv 3)]) ∧ Below w.heap.size w w' := rdV 3 w
theorem rd111 (w : World) : Calls Try.prog 13 #[.int .u64 111, .agg #[]] w fun e w' => e = .returned (.agg #[.int .u64 (fv 111)]) ∧ Below w.heap.size w w' := rdV 111 w

theorem tmV (a b : Fp) (w : World) :
    Calls Try.prog 17 #[.agg #[.int .u64 (fv a)], .agg #[.int .u64 (fv b)]] w fun e w' => e = .returned (.agg #[.int .u64 (fv (a * b))]) ∧ Below w.heap.size w w' := by
  have := timP_any a.val b.val w (val_lt a) (val_lt b)
  rw [← Fin.val_mul] at this
  exact this
theorem fv_sub (a b : Fp) : fv (a - b) = if fv a < fv b then fv a - fv b + 2305843009213693951 else fv a - fv b := by
  have ha := val_lt a
  have hb := val_lt b
  unfold fv
  rw [Fin.val_sub]
  generalize a.val = A at *
  generalize b.val = B at *
  split <;> omega
theorem mnV (a b : Fp) (w : World) :
    Calls Try.prog 23 #[.agg #[.int .u64 (fv a)], .agg #[.int .u64 (fv b)]] w fun e w' => e = .returned (.agg #[.int .u64 (fv (a - b))]) ∧ Below w.heap.size w w' :=
  mnP_any (fv a) (fv b) (fv (a - b)) w (fv_ge a) (fv_lt a) (fv_ge b) (fv_lt b) (fv_sub a b)
theorem ngV (a : Fp) (w : World) :
    Calls Try.prog 16 #[.agg #[.int .u64 (fv a)]] w fun e w' => e = .returned (.agg #[.int .u64 (fv (0 - a))]) ∧ Below w.heap.size w w' :=
  ngP_of (fv a) (fv (0 - a)) w (fun w => mnV 0 a w)
theorem plV (a b : Fp) (w : World) :
    Calls Try.prog 18 #[.agg #[.int .u64 (fv a)], .agg #[.int .u64 (fv b)]] w fun e w' => e = .returned (.agg #[.int .u64 (fv (a + b))]) ∧ Below w.heap.size w w' := by
  have := plP_of (fv a) (fv b) (fv (0 - b)) (fv (a - (0 - b))) w (ngV b) (mnV a (0 - b))
  rwa [show a - (0 - b) = a + b by grobner] at this

set_option maxRecDepth 100000 in
set_option maxHeartbeats 2000000 in
theorem ivP_of (a c : Int) (w : World)
    (T : ∀ w, Calls Try.prog 26 #[.agg #[.int .u64 a], .int .u64 2305843009213693949] w fun e w' => e = .returned (.agg #[.int .u64 c]) ∧ Below w.heap.size w w') :
    Calls Try.prog 19 #[.agg #[.int .u64 a]] w fun e w' => e = .returned (.agg #[.int .u64 c]) ∧ Below w.heap.size w w' := by
  have hme := methP
  have V := valP
  have hp : ∀ w' : World, w'.heap[w.heap.size]? = some (.cells #[.int .u64 a] 39) → (partAt ⟨w.heap.size, 0, none⟩ 0 0).run Try.prog w' = .ok ⟨w.heap.size, 0, none⟩ w' := fun w' h => partP h
  obtain ⟨X, hX⟩ : ∃ X, X = ((w.alloc (Obj.cells #[.int .u64 a] 39)).alloc (Obj.cells #[.int .u64 0] 39)).drew := ⟨_, rfl⟩
  have hx : R1 X w.heap.size a := by rw [hX]; exact ((R1.new w a).alloc _).drew
  have hr : R1 X (w.heap.size + 1) 0 := by rw [hX]; exact ((R1.new _ 0).drew).at (by simp)
  have hbX : Below w.heap.size w X := by rw [hX]; exact (((Below.refl _ w).alloc (Nat.le_refl _) _).alloc (by simp) _).drew
  have hl : w.heap.size ≤ X.heap.size := hbX.size
  have hx1 := hx.alloc (Obj.cells #[] 37)
  have hr1 := hr.alloc (Obj.cells #[] 37)
  have hb1 := hbX.alloc hl (Obj.cells #[] 37)
  have c0 := hx.cell
  have c1 := hx1.cell
  have e0 := hx
  have e1 := hx1
  have hl1 : w.heap.size ≤ (X.alloc (Obj.cells #[] 37)).heap.size := hb1.size
  unfold R1 at e0 e1
  rw [hX] at hx hr hx1 hr1 hb1 c0 c1 e0 e1 hl1
  clear hX hbX hl
  go_enter Try.func19, Try.ntmps19
  go_wp2
  go_region_held3 (fun w' => w'.cell? ⟨w.heap.size, 0, none⟩ = some (.int .u64 a) ∧ w'.heap[w.heap.size]? = some (.cells #[.int .u64 a] 39)) (first | exact ⟨c0, e0⟩ | exact ⟨c1, e1⟩ | exact ⟨c2, e2⟩ | exact ⟨c3, e3⟩ | go_keep) ((go_simp; first
    | (go_at_call 47; refine (V _).mono ?_; rintro e w' ⟨rfl, rfl⟩)
    | (go_at_call 26; refine (T _).mono ?_; rintro e w2 ⟨rfl, b2⟩; have hx2 := hx1.keep b2; have hr2 := hr1.keep b2; have c2 := hx2.cell; have e2 := hx2; unfold R1 at e2; have cc := hr2.cell; have ff := hr2.frz; have hx3 : R1 (w2.setCell ⟨w.heap.size + 1, 0, none⟩ (.int .u64 c)) w.heap.size a := hx2.other (by simp) 0 _; have c3 := hx3.cell; have e3 := hx3; unfold R1 at e3)))
  go_wp2
  exact bodyPost_ret (v := .agg #[.int .u64 c]) (num_res (fn := Try.f19) (p := 2) Try.results19 _ rfl (hr2.set c)) rfl ⟨rfl, (keepB hb1 hl1 b2).setCell (p := ⟨w.heap.size + 1, 0, none⟩) (by simp) _⟩
theorem ivn_is (p a k : Nat) (hk : k = p - 2) : a ^ k % p = ivn p a := by subst hk; rfl
theorem pow_fi (a : Fp) (k : Nat) (hk : k = 2305843009213693951 - 2) : a.val ^ k % 2305843009213693951 = (fi a).val := (ivn_is _ _ _ hk).trans (fi_val a).symm
theorem ivV (a : Fp) (w : World) :
    Calls Try.prog 19 #[.agg #[.int .u64 (fv a)]] w fun e w' => e = .returned (.agg #[.int .u64 (fv (fi a))]) ∧ Below w.heap.size w w' := by
  refine ivP_of (fv a) (fv (fi a)) w fun w => ?_
  obtain ⟨k, hk⟩ : ∃ k : Nat, k = 2305843009213693949 := ⟨_, rfl⟩
  have := powP_any a.val k w (val_lt a) (by omega)
  rw [pow_fi a k (by omega)] at this
  rw [hk] at this
  exact this
end Go.Proofs.Ytenggagjgmonoaa
