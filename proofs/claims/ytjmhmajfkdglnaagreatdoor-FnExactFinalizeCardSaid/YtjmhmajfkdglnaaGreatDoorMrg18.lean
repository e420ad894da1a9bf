import Derived.Test.YtjmhmajfkdglnaaGreatDoorMrg9
import Derived.Test.YtjmhmajfkdglnaaGreatDoorMrg12
import Derived.Test.YtjmhmajfkdglnaaGreatDoorMrg1
import Derived.Test.YtjmhmajfkdglnaaGreatDoorMrg17
import Derived.Laws.ResultCell
import Derived.Test.YtjmhmajfkdglnaaGreatDoorMrg4
import Derived.Test.YtjmhmajfkdglnaaGreatDoorMrg5
import Derived.Test.YtjmhmajfkdglnaaGreatDoorMrg11
set_option linter.unusedVariables false
set_option maxRecDepth 100000
set_option maxHeartbeats 16000000
namespace Go.Proofs.YtjmhmajfkdglnaaGreatDoor
open Go.RowKit
theorem putI_any (n : Nat) (w : World) (hn : n < 18446744073709551616) :
    Calls Tryz.prog 239 #[.int .u64 n] w fun e w' => e = .returned (.string (strOfNums (be8 n))) ∧ Below w.heap.size w w' := by
  have L := fun w => beI_any (n : Int) 8 w (by omega) (by omega) (by omega) (by omega)
  rw [beTo8] at L
  clear hn
  go_enter Tryz.func239, Tryz.ntmps239
  go_wp2_with fail
  refine (L _).mono ?_
  rintro e w' ⟨rfl, hb⟩
  go_wp2
  go_ret
  exact ⟨rfl, hb⟩
theorem methN (w : World) : (method 449 115 (.agg #[]) "loop.example/s02095/impl.value").run Tryz.prog w = .ok (241, .agg #[]) w := by kernel_rfl
theorem valN (w : World) :
    Calls Tryz.prog 241 #[.agg #[]] w fun e w' => e = .returned (.int .u64 2305843010818082053) ∧ w' = w.alloc (.cells #[] 115) := by
  go_enter Tryz.func241, Tryz.ntmps241
  go_wp2
  go_ret
  exact ⟨rfl, rfl⟩
theorem foldN : Array.foldl (fun (cs : Array Value) (x : Value × Nat) => cs.setIfInBounds x.snd x.fst) #[Value.int IntKind.u64 0] (#[] : Array Value).zipIdx 0 0 = #[Value.int .u64 0] := rfl
theorem exN_less (x : Int) (w : World) (h1 : x < 2305843010818082053) :
    Calls Tryz.prog 65 #[.int .u64 x, .agg #[]] w fun e w' => e = .returned (.tuple #[.agg #[.int .u64 x], .bool true]) ∧ Below w.heap.size w w' := by
  have hm := methN
  have hbd := foldN
  go_enter Tryz.func65, Tryz.ntmps65
  go_wp2_with fail
  refine (valN _).mono ?_
  rintro e w' ⟨rfl, rfl⟩
  go_wp2
  refine bodyPost_ret (v := .tuple #[.agg #[.int .u64 x], .bool true]) (by simp [results, Tryz.results65, go_sem]) rfl ⟨rfl, ?_⟩
  exact (((Below.refl _ w).alloc (Nat.le_refl _) _).alloc (by simp) _).alloc (by simp; omega) _
theorem exN_more (x : Int) (w : World) (h1 : 2305843010818082053 ≤ x) :
    Calls Tryz.prog 65 #[.int .u64 x, .agg #[]] w fun e w' => e = .returned (.tuple #[.agg #[.int .u64 0], .bool false]) ∧ Below w.heap.size w w' := by
  have hm := methN
  go_enter Tryz.func65, Tryz.ntmps65
  go_wp2_with fail
  refine (valN _).mono ?_
  rintro e w' ⟨rfl, rfl⟩
  go_wp2
  refine bodyPost_ret (v := .tuple #[.agg #[.int .u64 0], .bool false]) (by simp [results, Tryz.results65, go_sem]) rfl ⟨rfl, ?_⟩
  exact (((Below.refl _ w).alloc (Nat.le_refl _) _).alloc (by simp) _).alloc (by simp; omega) _
theorem exN_any (k : Nat) (w : World) :
    Calls Tryz.prog 65 #[.int .u64 k, .agg #[]] w fun e w' => e = .returned (.tuple #[.agg #[.int .u64 (if k < 2305843010818082053 then (k : Int) else 0)], .bool (decide (k < 2305843010818082053))]) ∧ Below w.heap.size w w' := by
  by_cases h : k < 2305843010818082053
  · rw [if_pos h, decide_eq_true h]
    exact exN_less k w (by omega)
  · rw [if_neg h, decide_eq_false h]
    exact exN_more k w (by omega)
theorem G.Sides.under {S : List Nat} {W0 w w' : World} {B : Nat} (h : G.Sides S W0 w') (hb : Below B w W0) (hS : ∀ b ∈ S, B ≤ b) (hB : B ≤ W0.heap.size) : Below B w w' :=
  hb.trans ⟨h.os, h.tape, h.output, h.size, fun k hk => h.block k (Nat.lt_of_lt_of_le hk hB) (fun hm => by have := hS k hm; omega)⟩
def scaT (k : Nat) : ByteArray := tagB ⟨#[72, 97, 115, 104, 84, 111, 83, 99, 97, 108, 97, 114, 45]⟩ k
def scaN (s : ByteArray) (k : Nat) : Nat := hNum s (scaT k) 2305843010818082053 1 0
theorem scaS_any (s : ByteArray) (k : Nat) (w : World) (hk : k < 3) (hs : s.size ≤ 65535) :
    Calls Tryz.prog 84 #[.string s, .int .i64 k] w fun e w' => e = .returned (.int .u64 (scaN s k)) ∧ Below w.heap.size w w' := by
  have T := tagS_any ⟨#[72, 97, 115, 104, 84, 111, 83, 99, 97, 108, 97, 114, 45]⟩ k w hk (by decide)
  have hz := tagB_size ⟨#[72, 97, 115, 104, 84, 111, 83, 99, 97, 108, 97, 114, 45]⟩ k hk
  have hz2 : (ByteArray.mk #[72, 97, 115, 104, 84, 111, 83, 99, 97, 108, 97, 114, 45]).size = 13 := rfl
  have H := fun w' => h2sS_yes s (scaT k) w' ⟨by unfold scaT; omega, by unfold scaT; omega, hs⟩
  change Calls _ _ _ _ (fun e w' => e = .returned (.string (scaT k)) ∧ _) at T
  unfold scaN
  generalize scaT k = t at *
  go_enter Tryz.func84, Tryz.ntmps84
  go_wp2_with fail
  refine T.mono ?_
  rintro e w1 ⟨rfl, b1⟩
  go_wp2_with fail
  refine (H w1).mono ?_
  rintro e w2 ⟨rfl, b2⟩
  go_wp2
  go_ret
  exact ⟨rfl, b1.trans (b2.mono b1.size)⟩
end Go.Proofs.YtjmhmajfkdglnaaGreatDoor
