/-
  A scope through which the run goes by jumps: at each jump the walk goes on behind the label.
-/
import Derived.WalkKit
import Derived.Scope
import Derived.WalkMore
namespace Go.Proofs.Ytenggagjgmonoaa
open Go.RowKit

def hops (c : Code) (P : Program) (Q : Exit → Act → World → Prop) : Nat → Exit → Act → World → Prop
  | 0 => fun e a w => match e with
    | .goto _ => False
    | e => Q e a w
  | n + 1 => fun e a w => match e with
    | .goto l => ∃ rest, findLabel c l = some rest ∧ rest.wp P (hops c P Q n) a w
    | e => Q e a w
section
variable {P : Program} {Q : Exit → Act → World → Prop} {a : Act} {w : World} {c : Code}
@[go_sem] theorem hops_normal (n : Nat) : hops c P Q n .normal a w = Q .normal a w := by cases n <;> rfl
@[go_sem] theorem hops_exit (n id : Nat) : hops c P Q n (.exit id) a w = Q (.exit id) a w := by cases n <;> rfl
@[go_sem] theorem hops_ret (n : Nat) : hops c P Q n .ret a w = Q .ret a w := by cases n <;> rfl
@[go_sem] theorem hops_panic (n : Nat) (ch : List PanicEntry) : hops c P Q n (.panic ch) a w = Q (.panic ch) a w := by cases n <;> rfl
theorem hops_out (n : Nat) : hops c P Q n .outgrown a w = Q .outgrown a w := by cases n <;> rfl
theorem hops_goto {n l : Nat} {rest : Code} (hf : findLabel c l = some rest) (h : rest.wp P (hops c P Q n) a w) : hops c P Q (n + 1) (.goto l) a w := ⟨rest, hf, h⟩

theorem hops_key {b : Frame} {k : List Item} {cs : List Frame} : ∀ (n : Nat) (d : Code) (a : Act) (w : World), d.wp P (hops c P Q n) a w →
    ∃ e a' w', Q e a' w' ∧ Arrives P (lone (b.at a (.code d :: .inScope c :: k)) cs w) b k cs e a' w' := by
  intro n
  induction n with
  | zero =>
    intro d a w h
    obtain ⟨e, a₁, w₁, hq, harr⟩ := h b (.inScope c :: k) cs
    cases e with
    | normal => exact ⟨.normal, a₁, w₁, hq, Steps.trans harr (.one step_inScope)⟩
    | exit id => exact ⟨.exit id, a₁, w₁, hq, fun k' hk => harr k' (by simp [exitTo, hk])⟩
    | goto l => exact hq.elim
    | ret => exact ⟨_, a₁, w₁, hq, harr⟩
    | panic ch => exact ⟨_, a₁, w₁, hq, harr⟩
    | outgrown => exact ⟨_, a₁, w₁, hq, harr⟩
  | succ n ih =>
    intro d a w h
    obtain ⟨e, a₁, w₁, hq, harr⟩ := h b (.inScope c :: k) cs
    cases e with
    | normal => exact ⟨.normal, a₁, w₁, hq, Steps.trans harr (.one step_inScope)⟩
    | exit id => exact ⟨.exit id, a₁, w₁, hq, fun k' hk => harr k' (by simp [exitTo, hk])⟩
    | goto l =>
      obtain ⟨rest, hf, hw⟩ := hq
      obtain ⟨e₂, a₂, w₂, hq₂, harr₂⟩ := ih rest a₁ w₁ hw
      exact ⟨e₂, a₂, w₂, hq₂, .of_steps (harr _ (by simp [gotoIn, hf])) harr₂⟩
    | ret => exact ⟨_, a₁, w₁, hq, harr⟩
    | panic ch => exact ⟨_, a₁, w₁, hq, harr⟩
    | outgrown => exact ⟨_, a₁, w₁, hq, harr⟩
theorem wp_scope_hops (n : Nat) (h : c.wp P (hops c P Q n) a w) : (Code.scope c).wp P Q a w := by
  intro b k cs
  obtain ⟨e, a', w', hq, harr⟩ := hops_key n c a w h (b := b) (k := k) (cs := cs)
  exact ⟨e, a', w', hq, .of_steps (.one step_scope) harr⟩
/-- many ways through a piece of code that leave the same slots, walked on as one -/
theorem wp_join {d : Code} {A : Act} {S : World → Prop} (h : d.wp P (fun e a' w' => e = .normal ∧ a' = A ∧ S w') a w) (k : ∀ w', S w' → Q .normal A w') : d.wp P Q a w :=
  wp_mono h fun e a' w' ⟨he, ha, hs⟩ => by subst he ha; exact k w' hs
end
end Go.Proofs.Ytenggagjgmonoaa
