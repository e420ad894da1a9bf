import Derived.Test.YtenggagjgmonoaaDoorBothS
namespace Go.Proofs.YtenggagjgmonoaaDoor
open Go.RowKit
set_option linter.unusedVariables false

def strN : Value → Nat
  | .string s => s.size
  | _ => 0
theorem zeros_app (m n : Nat) : strOfNums (List.replicate m 0) ++ strOfNums (List.replicate n 0) = strOfNums (List.replicate (m + n) 0) := by
  rw [← List.replicate_append_replicate]
  apply ByteArray.ext
  simp [strOfNums]

set_option maxRecDepth 100000 in
set_option maxHeartbeats 1000000 in
/-- n bytes of 0 -/
theorem lonZ_any : ∀ (n : Nat), n ≤ 65536 → ∀ (w : World),
    Calls Tryd.prog 20 #[.int .i64 n, .string ⟨#[0]⟩] w fun e w' => e = .returned (.string (strOfNums (List.replicate n 0))) ∧ w = w' := by
  intro n
  induction n using Nat.strongRecOn with
  | _ n ih =>
  intro hn w
  by_cases h0 : n = 0
  · subst h0
    go_enter Tryd.func20, Tryd.ntmps20
    go_wp2
    go_loop [5] (fun v => v = .string ByteArray.empty) (fun _ => 0)
    case atStart => rfl
    case round =>
      subst hrel
      go_wp2
      go_ret
      exact ⟨rfl, rfl⟩
  · have hpos : (0 : Int) < (n : Int) := by omega
    go_enter Tryd.func20, Tryd.ntmps20
    go_wp2
    go_loop [5] (fun v => ∃ (s : ByteArray) (m : Nat), v = .string s ∧ s = strOfNums (List.replicate m 0) ∧ s.size = m ∧ 1 ≤ m ∧ m ≤ n) (fun v => n + 2 - strN v)
    case atStart => exact ⟨⟨#[0]⟩, 1, rfl, rfl, rfl, by omega, by omega⟩
    case round =>
      obtain ⟨s, m, rfl, hs, hm, h1, h2⟩ := hrel
      have hsi : (s.size : Int) = (m : Int) := by omega
      by_cases hd : m * 2 ≤ n
      · have hmi : (m : Int) * 2 ≤ (n : Int) := by omega
        have hsz : (s ++ s).size = m + m := by simp; omega
        have hss : Hid (s ++ s = strOfNums (List.replicate (m + m) 0)) := by simp only [Hid]; rw [hs, zeros_app]
        clear hs
        go_wp2
        go_round
        case rel => exact ⟨s ++ s, m + m, rfl, hss.out, hsz, by omega, by omega⟩
        case measure => simp only [strN]; omega
      · have hmi : ¬ ((m : Int) * 2 ≤ (n : Int)) := by omega
        by_cases hl : m < n
        · have hli : (m : Int) < (n : Int) := by omega
          have I := ih (n - m) (by omega) (by omega)
          have e1 : ((n - m : Nat) : Int) = (n : Int) - (m : Int) := by omega
          rw [e1] at I
          have hss : Hid (s ++ strOfNums (List.replicate (n - m) 0) = strOfNums (List.replicate n 0)) := by simp only [Hid]; rw [hs, zeros_app]; congr 2; omega
          clear hs e1 ih
          have hrz : (strOfNums (List.replicate (n - m) 0)).size ≤ 65536 := by rw [strOfNums_size, List.length_replicate]; omega
          generalize strOfNums (List.replicate (n - m) 0) = r at *
          have hsz2 : s.size ≤ 65536 := by omega
          go_wp2_with fail
          refine (I _).mono ?_
          rintro e w' ⟨rfl, rfl⟩
          clear I
          go_wp2
          go_ret
          exact ⟨by rw [← hss.out]; rfl, rfl⟩
        · have hli : ¬ ((m : Int) < (n : Int)) := by omega
          obtain rfl : m = n := by omega
          have hss : Hid (s = strOfNums (List.replicate m 0)) := hs
          clear hs
          go_wp2
          go_ret
          exact ⟨by rw [← hss.out]; rfl, rfl⟩
end Go.Proofs.YtenggagjgmonoaaDoor
