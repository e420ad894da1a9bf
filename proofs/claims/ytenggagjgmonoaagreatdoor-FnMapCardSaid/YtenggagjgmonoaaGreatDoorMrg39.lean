import Derived.Test.YtenggagjgmonoaaGreatDoorMrg30
import Derived.Test.YtenggagjgmonoaaGreatDoorMrg23
import Derived.Test.YtenggagjgmonoaaGreatDoorMrg20
namespace Go.Proofs.YtenggagjgmonoaaGreatDoor
open Go.RowKit M
set_option linter.unusedVariables false

set_option maxRecDepth 100000 in
theorem mapI_any (v : Nat) (w : World) :
    Calls Tryz.prog 5 #[.int .u64 v] w fun e w' => e = .returned (.agg #[.int .u64 (fv (mXX (toF v))), .int .u64 (fv (mYo (toF v))), .bool false]) ∧ Below w.heap.size w w' := by
  have R := fun w => redP_of (v : Int) (fv (toF v)) w (by omega) (toF_val v)
  have L := mapI_in (toF v)
  generalize fv (mXX (toF v)) = X at *
  generalize fv (mYo (toF v)) = Y at *
  generalize fv (toF v) = U at *
  have K0 := K3.new w 26 0 0 false
  have b0 : Below w.heap.size w (w.alloc (Obj.cells #[.int .u64 0, .int .u64 0, .bool false] 26)) := (Below.refl _ _).alloc (Nat.le_refl _) _
  go_enter Tryz.func5, Tryz.ntmps5
  go_wp2_with fail
  refine (R _).mono ?_
  rintro e w1 ⟨rfl, b1⟩
  go_wp2_with fail
  refine (L _).mono ?_
  rintro e w2 ⟨rfl, b2⟩
  have K2 := (K0.keep b1).keep b2
  have hb2 := keepB (keepB b0 b0.size b1) (keepB b0 b0.size b1).size b2
  clear K0 b0 b1 b2
  have k0 := K2.c0
  have k1 := K2.c1
  have k2 := K2.c2
  have kf := K2.frz
  have hfl := fldK
  go_wp2
  exact bodyPost_ret (v := .agg #[.int .u64 X, .int .u64 Y, .bool false]) (pt_res (fn := Tryz.f5) (p := 2) Tryz.results5 _ rfl (K2.set X Y false)) rfl ⟨rfl, set3_below hb2 (Nat.le_refl _)⟩
end Go.Proofs.YtenggagjgmonoaaGreatDoor

namespace Go.Proofs.YtenggagjgmonoaaGreatDoor
open Go.RowKit
set_option linter.unusedVariables false

set_option maxRecDepth 100000 in
theorem exP_less (x : Int) (w : World) (h1 : x < 2305843009213693951) :
    Calls Tryz.prog 44 #[.int .u64 x, .agg #[]] w fun e w' => e = .returned (.tuple #[.agg #[.int .u64 x], .bool true]) ∧ Below w.heap.size w w' := by
  have hm := methP
  have hbd := foldP
  go_enter Tryz.func44, Tryz.ntmps44
  go_wp2_with fail
  refine (valP _).mono ?_
  rintro e w' ⟨rfl, rfl⟩
  go_wp2
  refine bodyPost_ret (v := .tuple #[.agg #[.int .u64 x], .bool true]) (by simp [results, Tryz.results44, go_sem]) rfl ⟨rfl, ?_⟩
  exact (((Below.refl _ w).alloc (Nat.le_refl _) _).alloc (by simp) _).alloc (by simp; omega) _
set_option maxRecDepth 100000 in
theorem exP_more (x : Int) (w : World) (h1 : 2305843009213693951 ≤ x) :
    Calls Tryz.prog 44 #[.int .u64 x, .agg #[]] w fun e w' => e = .returned (.tuple #[.agg #[.int .u64 0], .bool false]) ∧ Below w.heap.size w w' := by
  have hm := methP
  go_enter Tryz.func44, Tryz.ntmps44
  go_wp2_with fail
  refine (valP _).mono ?_
  rintro e w' ⟨rfl, rfl⟩
  go_wp2
  refine bodyPost_ret (v := .tuple #[.agg #[.int .u64 0], .bool false]) (by simp [results, Tryz.results44, go_sem]) rfl ⟨rfl, ?_⟩
  exact (((Below.refl _ w).alloc (Nat.le_refl _) _).alloc (by simp) _).alloc (by simp; omega) _
end Go.Proofs.YtenggagjgmonoaaGreatDoor
