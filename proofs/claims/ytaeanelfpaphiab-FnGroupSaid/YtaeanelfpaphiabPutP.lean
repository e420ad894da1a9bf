import Derived.Test.YtaeanelfpaphiabTopP
import Derived.Test.YtaeanelfpaphiabStrI
namespace Go.Proofs.Ytaeanelfpaphiab
open Go.RowKit M
set_option linter.unusedVariables false

set_option maxRecDepth 100000 in
set_option maxHeartbeats 2000000 in
theorem wrdP_none (w : World) :
    Calls Try.prog 63 #[.agg #[.int .u64 0, .int .u64 0, .bool true]] w fun e w' => e = .returned (.int .u64 0) ∧ Below w.heap.size w w' := by
  have hp := K3.new w 60 0 0 true
  have hb := (Below.refl _ w).alloc (Nat.le_refl _) (Obj.cells #[.int .u64 0, .int .u64 0, .bool true] 60)
  have c0 := hp.drew.c0
  have c1 := hp.drew.c1
  have c2 := hp.drew.c2
  go_enter Try.func63, Try.ntmps63
  go_wp2
  go_region_held3 (fun w' => w'.cell? ⟨w.heap.size, 0, none⟩ = some (.int .u64 0) ∧ w'.cell? ⟨w.heap.size, 1, none⟩ = some (.int .u64 0) ∧ w'.cell? ⟨w.heap.size, 2, none⟩ = some (.bool true)) (first | exact ⟨c0, c1, c2⟩ | exact ⟨keepC c0 b1, keepC c1 b1, keepC c2 b1⟩ | go_keep) ((go_at_call 45; refine (zpP _).mono ?_; rintro e w1 ⟨rfl, b1⟩))
  replace hb := keepB hb.drew hb.size b1
  go_wp2
  go_ret
  exact ⟨rfl, hb⟩
set_option maxRecDepth 100000 in
set_option maxHeartbeats 2000000 in
theorem wrdP_some (x y a b c n : Int) (w : World) (h1 : IntKind.u64.wrap (x + 4611686018427387904) = a) (h2 : y.tmod 2 = b) (h3 : IntKind.u64.wrap (2305843009213693952 * b) = c) (h4 : IntKind.u64.wrap (a + c) = n) :
    Calls Try.prog 63 #[.agg #[.int .u64 x, .int .u64 y, .bool false]] w fun e w' => e = .returned (.int .u64 n) ∧ Below w.heap.size w w' := by
  have hp := K3.new w 60 x y false
  have hb := (Below.refl _ w).alloc (Nat.le_refl _) (Obj.cells #[.int .u64 x, .int .u64 y, .bool false] 60)
  have c0 := hp.drew.c0
  have c1 := hp.drew.c1
  have c2 := hp.drew.c2
  go_enter Try.func63, Try.ntmps63
  go_wp2
  go_region_held3 (fun w' => w'.cell? ⟨w.heap.size, 0, none⟩ = some (.int .u64 x) ∧ w'.cell? ⟨w.heap.size, 1, none⟩ = some (.int .u64 y) ∧ w'.cell? ⟨w.heap.size, 2, none⟩ = some (.bool false)) (first | exact ⟨c0, c1, c2⟩ | exact ⟨keepC c0 b1, keepC c1 b1, keepC c2 b1⟩ | go_keep) ((go_at_call 45; refine (zpP _).mono ?_; rintro e w1 ⟨rfl, b1⟩))
  replace hb := keepB hb.drew hb.size b1
  replace hp := (hp.drew).keep b1
  clear c0 c1 c2
  have c0 := hp.c0
  have c1 := hp.c1
  go_wp2
  go_ret
  exact ⟨rfl, hb⟩
theorem wrdV : ∀ (p : Pt) (w : World), Calls Try.prog 63 #[ptW p] w fun e w' => e = .returned (.int .u64 (putN p : Nat)) ∧ Below w.heap.size w w'
  | none, w => wrdP_none w
  | some (x, y), w => by
    have hx := val_lt x
    have hy : (fv y).tmod 2 = ((y.val % 2 : Nat) : Int) := by
      unfold fv
      rw [Int.tmod_eq_emod_of_nonneg (by omega)]; omega
    have hz : y.val % 2 < 2 := Nat.mod_lt _ (by decide)
    refine wrdP_some (fv x) (fv y) (fv x + 4611686018427387904) _ (2305843009213693952 * ((y.val % 2 : Nat) : Int)) _ w ?_ hy ?_ ?_
    · unfold fv; rw [IntKind.wrap_u64]; omega
    · rw [IntKind.wrap_u64]; omega
    · rw [putN_some]; unfold fv; rw [IntKind.wrap_u64]
      generalize x.val = X at *
      generalize y.val % 2 = Z at *
      omega
set_option maxRecDepth 100000 in
set_option maxHeartbeats 2000000 in
theorem putP_of (x y p q n : Int) (c pb ok : Bool) (s : ByteArray) (w : World)
    (F1 : ∀ w, Calls Try.prog 40 #[.agg #[.int .u64 x, .int .u64 y, .bool c]] w fun e w' => e = .returned (.tuple #[.agg #[.int .u64 p, .int .u64 q, .bool pb], .bool ok]) ∧ Below w.heap.size w w')
    (Wd : ∀ w, Calls Try.prog 63 #[.agg #[.int .u64 p, .int .u64 q, .bool pb]] w fun e w' => e = .returned (.int .u64 n) ∧ Below w.heap.size w w')
    (Pw : ∀ w, Calls Try.prog 62 #[.int .u64 n] w fun e w' => e = .returned (.string s) ∧ Below w.heap.size w w') :
    Calls Try.prog 27 #[.agg #[.int .u64 x, .int .u64 y, .bool c]] w fun e w' => e = .returned (.string s) ∧ Below w.heap.size w w' := by
  have hb := (Below.refl _ w).alloc (Nat.le_refl _) (Obj.cells #[.int .u64 x, .int .u64 y, .bool c] 25)
  go_enter Try.func27, Try.ntmps27
  go_wp2_with fail
  refine (F1 _).mono ?_
  rintro e w1 ⟨rfl, b1⟩
  replace hb := keepB hb hb.size b1
  replace hb := hb.alloc hb.size (Obj.cells #[.int .u64 p, .int .u64 q, .bool pb] 60)
  clear b1 F1
  go_wp2_with fail
  refine (Wd _).mono ?_
  rintro e w3 ⟨rfl, b3⟩
  replace hb := keepB hb hb.size b3
  clear b3 Wd
  go_wp2_with fail
  refine (Pw _).mono ?_
  rintro e w4 ⟨rfl, b4⟩
  replace hb := keepB hb hb.size b4
  go_wp2
  go_ret
  exact ⟨rfl, hb⟩
theorem putI_pt (x y : Nat) (c : Bool) (w : World) :
    Calls Try.prog 27 #[.agg #[.int .u64 x, .int .u64 y, .bool c]] w fun e w' => e = .returned (.string (strOfNums (be8 (putN (asPt x y c) : Nat)))) ∧ Below w.heap.size w w' := by
  have Wd := wrdV (asPt x y c)
  rw [ptW_eq] at Wd
  exact putP_of _ _ _ _ _ _ _ _ _ w (fndW x y c) Wd (fun w => putI_any _ w (putN_lt _))
end Go.Proofs.Ytaeanelfpaphiab
