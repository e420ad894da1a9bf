import Derived.Test.YtagnikeaellbiaaStrI
import Derived.Laws.ResultCell
namespace Go.Proofs.Ytagnikeaellbiaa
open Go.RowKit
set_option linter.unusedVariables false

theorem methN (w : World) : (method 165 41 (.agg #[]) "loop.example/s02095/impl.value").run Try.prog w = .ok (34, .agg #[]) w := by kernel_rfl
set_option maxRecDepth 100000 in
theorem valN (w : World) :
    Calls Try.prog 34 #[.agg #[]] w fun e w' => e = .returned (.int .u64 2305843010818082053) ∧ w' = w.alloc (.cells #[] 41) := by
  go_enter Try.func34, Try.ntmps34
  go_wp2
  go_ret
  exact ⟨rfl, rfl⟩

theorem foldN : Array.foldl (fun (cs : Array Value) (x : Value × Nat) => cs.setIfInBounds x.snd x.fst) #[Value.int IntKind.u64 0] (#[] : Array Value).zipIdx 0 0 = #[Value.int .u64 0] := rfl
set_option maxRecDepth 100000 in
theorem exN_less (x : Int) (w : World) (h1 : x < 2305843010818082053) :
    Calls Try.prog 17 #[.int .u64 x, .agg #[]] w fun e w' => e = .returned (.tuple #[.agg #[.int .u64 x], .bool true]) ∧ Below w.heap.size w w' := by
  have hm := methN
  have hbd := foldN
  go_enter Try.func17, Try.ntmps17
  go_wp2_with fail
  refine (valN _).mono ?_
  rintro e w' ⟨rfl, rfl⟩
  go_wp2
  refine bodyPost_ret (v := .tuple #[.agg #[.int .u64 x], .bool true]) (by simp [results, Try.results17, go_sem]) rfl ⟨rfl, ?_⟩
  exact (((Below.refl _ w).alloc (Nat.le_refl _) _).alloc (by simp) _).alloc (by simp; omega) _
set_option maxRecDepth 100000 in
theorem exN_more (x : Int) (w : World) (h1 : 2305843010818082053 ≤ x) :
    Calls Try.prog 17 #[.int .u64 x, .agg #[]] w fun e w' => e = .returned (.tuple #[.agg #[.int .u64 0], .bool false]) ∧ Below w.heap.size w w' := by
  have hm := methN
  go_enter Try.func17, Try.ntmps17
  go_wp2_with fail
  refine (valN _).mono ?_
  rintro e w' ⟨rfl, rfl⟩
  go_wp2
  refine bodyPost_ret (v := .tuple #[.agg #[.int .u64 0], .bool false]) (by simp [results, Try.results17, go_sem]) rfl ⟨rfl, ?_⟩
  exact (((Below.refl _ w).alloc (Nat.le_refl _) _).alloc (by simp) _).alloc (by simp; omega) _

set_option maxRecDepth 100000 in
theorem scaI_bad (s : ByteArray) (w : World) (hs : s.size ≠ 8) :
    Calls Try.prog 14 #[.string s] w fun e w' => e = .returned (.tuple #[.int .u64 0, .bool false]) ∧ Below w.heap.size w w' := by
  have z : ((s.size : Int) == 8) = false := by simp; omega
  go_enter Try.func14, Try.ntmps14
  go_wp2
  go_ret2
  exact ⟨rfl, Below.refl _ _⟩
set_option maxRecDepth 100000 in
theorem scaI_two (s : ByteArray) (x y : Int) (b : Bool) (w : World) (z : (s.size : Int) = 8)
    (L : ∀ w, Calls Try.prog 18 #[.string s] w fun e w' => e = .returned (.int .u64 x) ∧ w = w')
    (M : ∀ w, Calls Try.prog 17 #[.int .u64 x, .agg #[]] w fun e w' => e = .returned (.tuple #[.agg #[.int .u64 y], .bool b]) ∧ Below w.heap.size w w') :
    Calls Try.prog 14 #[.string s] w fun e w' => e = .returned (.tuple #[.int .u64 y, .bool b]) ∧ Below w.heap.size w w' := by
  go_enter Try.func14, Try.ntmps14
  go_wp2_with fail
  refine (L _).mono ?_
  rintro e w' ⟨rfl, rfl⟩
  go_wp2_with fail
  refine (M _).mono ?_
  rintro e w' ⟨rfl, hb⟩
  go_wp2
  go_ret2
  exact ⟨rfl, hb.alloc hb.size _⟩
end Go.Proofs.Ytagnikeaellbiaa
