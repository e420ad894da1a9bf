import Derived.Test.YtaeanelfpaphiabBytS
namespace Go.Proofs.Ytaeanelfpaphiab
open Go.RowKit
set_option linter.unusedVariables false

def strLen : Value → Nat
  | .string s => s.size
  | _ => 0
def inS : ByteArray := ⟨#[105, 110]⟩
theorem inS_size : inS.size = 2 := rfl

set_option maxRecDepth 100000 in
set_option maxHeartbeats 1000000 in
/-- a long text -/
theorem long_any (b : ByteArray) (hb : b.size = 2) : ∀ (n : Nat), n ≤ 65536 → ∀ (w : World),
    Calls Try.prog 81 #[.int .i64 n, .string b] w fun e w' => (∃ s : ByteArray, s.size ≤ n + 1 ∧ e = .returned (.string s)) ∧ w = w' := by
  intro n
  induction n using Nat.strongRecOn with
  | _ n ih =>
  intro hn w
  by_cases h0 : n = 0
  · subst h0
    go_enter Try.func81, Try.ntmps81
    go_wp2
    go_loop [5] (fun v => v = .string ByteArray.empty) (fun _ => 0)
    case atStart => rfl
    case round =>
      subst hrel
      go_wp2
      go_ret
      exact ⟨⟨_, by decide, rfl⟩, rfl⟩
  · have hpos : (0 : Int) < (n : Int) := by omega
    go_enter Try.func81, Try.ntmps81
    go_wp2
    go_loop [5] (fun v => ∃ s : ByteArray, v = .string s ∧ 2 ≤ s.size ∧ s.size ≤ n + 1) (fun v => n + 2 - strLen v)
    case atStart => exact ⟨b, rfl, by omega, by omega⟩
    case round =>
      obtain ⟨s, rfl, h2, h3⟩ := hrel
      by_cases hm : s.size * 2 ≤ n
      · have hmi : (s.size : Int) * 2 ≤ (n : Int) := by omega
        go_wp2
        have hsz : (s ++ s).size = s.size + s.size := by simp
        go_round
        case rel => exact ⟨s ++ s, rfl, by omega, by omega⟩
        case measure => simp [strLen]; omega
      · have hmi : ¬ ((s.size : Int) * 2 ≤ (n : Int)) := by omega
        by_cases hl : s.size < n
        · have hli : (s.size : Int) < (n : Int) := by omega
          have I := ih (n - s.size) (by omega) (by omega)
          have e1 : ((n - s.size : Nat) : Int) = (n : Int) - (s.size : Int) := by omega
          rw [e1] at I
          go_wp2_with fail
          refine (I _).mono ?_
          rintro e w' ⟨⟨r, hr, rfl⟩, rfl⟩
          clear I ih
          go_wp2
          go_ret
          exact ⟨⟨s ++ r, by simp; omega, rfl⟩, rfl⟩
        · have hli : ¬ ((s.size : Int) < (n : Int)) := by omega
          go_wp2
          go_ret
          exact ⟨⟨s, by omega, rfl⟩, rfl⟩
end Go.Proofs.Ytaeanelfpaphiab
