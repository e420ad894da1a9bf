import Derived.Test.YtenggagjgmonoaaCsqP
import Derived.Test.YtenggagjgmonoaaSqrE
import Derived.Test.YtenggagjgmonoaaK3P
import Derived.Test.YtenggagjgmonoaaHop
import Derived.Test.YtenggagjgmonoaaMapM
namespace Go.Proofs.Ytenggagjgmonoaa
open Go.RowKit M
set_option linter.unusedVariables false

theorem cf_negative (args : Array Value) (w : World) : (callFunc 16 args).run Try.prog w = .ok (.enter 16 args) w := by kernel_rfl
theorem K3.oth {W : World} {t : TypeId} {b b' : Nat} {x y : Int} {c : Bool} (h : K3 W t b x y c) (hne : b ≠ b') (i : Nat) (v : Value) : K3 (W.setCell ⟨b', i, none⟩ v) t b x y c := by
  unfold K3 at *
  rw [setCell_heap3 _ _ _ _ _ hne]; exact h
theorem cf_inverse (args : Array Value) (w : World) : (callFunc 19 args).run Try.prog w = .ok (.enter 19 args) w := by kernel_rfl
end Go.Proofs.Ytenggagjgmonoaa
