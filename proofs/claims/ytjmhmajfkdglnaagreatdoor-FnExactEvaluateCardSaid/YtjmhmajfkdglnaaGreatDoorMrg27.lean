import Derived.Test.YtjmhmajfkdglnaaGreatDoorChecked
import Derived.WalkKit
import Derived.Test.YtjmhmajfkdglnaaGreatDoorMrg23
import Derived.Test.YtjmhmajfkdglnaaGreatDoorMrg24
import Derived.Test.YtjmhmajfkdglnaaGreatDoorMrg26
import Derived.Test.YtjmhmajfkdglnaaGreatDoorMrg13
import Derived.Test.YtjmhmajfkdglnaaGreatDoorMrg19
set_option linter.unusedVariables false
set_option maxRecDepth 100000
set_option maxHeartbeats 16000000
namespace Go.Proofs.YtjmhmajfkdglnaaGreatDoor
open Go.RowKit
theorem cf_spec_l5Sized (args : Array Value) (w : World) : (callFunc 73 args).run Tryz.prog w = .ok (.enter 73 args) w := by kernel_rfl
theorem cf_spec_PutPoint (args : Array Value) (w : World) : (callFunc 75 args).run Tryz.prog w = .ok (.enter 75 args) w := by kernel_rfl
theorem cf_spec_l5Scalar (args : Array Value) (w : World) : (callFunc 84 args).run Tryz.prog w = .ok (.enter 84 args) w := by kernel_rfl
theorem cf_spec_Times (args : Array Value) (w : World) : (callFunc 37 args).run Tryz.prog w = .ok (.enter 37 args) w := by kernel_rfl
theorem cf_spec_l3Sum (args : Array Value) (w : World) : (callFunc 42 args).run Tryz.prog w = .ok (.enter 42 args) w := by kernel_rfl
theorem cf_spec_l5Challenge (args : Array Value) (w : World) : (callFunc 89 args).run Tryz.prog w = .ok (.enter 89 args) w := by kernel_rfl
theorem cf_impl_transcript_with (args : Array Value) (w : World) : (callFunc 123 args).run Tryz.prog w = .ok (.enter 123 args) w := by kernel_rfl
theorem cf_impl_context_scalar (args : Array Value) (w : World) : (callFunc 140 args).run Tryz.prog w = .ok (.enter 140 args) w := by kernel_rfl
theorem cf_impl_context_tag (args : Array Value) (w : World) : (callFunc 122 args).run Tryz.prog w = .ok (.enter 122 args) w := by kernel_rfl
theorem cf_impl_hashOf (args : Array Value) (w : World) : (callFunc 124 args).run Tryz.prog w = .ok (.enter 124 args) w := by kernel_rfl
theorem cf_impl_curvePoint_times (args : Array Value) (w : World) : (callFunc 68 args).run Tryz.prog w = .ok (.enter 68 args) w := by kernel_rfl
theorem cf_impl_curvePoint_triple (args : Array Value) (w : World) : (callFunc 109 args).run Tryz.prog w = .ok (.enter 109 args) w := by kernel_rfl
theorem cf_impl_triple_multiple (args : Array Value) (w : World) : (callFunc 110 args).run Tryz.prog w = .ok (.enter 110 args) w := by kernel_rfl
theorem cf_impl_triple_plus (args : Array Value) (w : World) : (callFunc 139 args).run Tryz.prog w = .ok (.enter 139 args) w := by kernel_rfl
theorem cf_impl_weighted (args : Array Value) (w : World) : (callFunc 138 args).run Tryz.prog w = .ok (.enter 138 args) w := by kernel_rfl
theorem cf_impl_batch_weights (args : Array Value) (w : World) : (callFunc 137 args).run Tryz.prog w = .ok (.enter 137 args) w := by kernel_rfl
theorem cf_impl_batch_challenge (args : Array Value) (w : World) : (callFunc 108 args).run Tryz.prog w = .ok (.enter 108 args) w := by kernel_rfl
theorem cf_impl_number_impl_primeN_times (args : Array Value) (w : World) : (callFunc 174 args).run Tryz.prog w = .ok (.enter 174 args) w := by kernel_rfl
theorem cf_impl_number_impl_primeN_minus (args : Array Value) (w : World) : (callFunc 192 args).run Tryz.prog w = .ok (.enter 192 args) w := by kernel_rfl
end Go.Proofs.YtjmhmajfkdglnaaGreatDoor
namespace Go.Proofs.YtjmhmajfkdglnaaGreatDoor
open Go.RowKit M
theorem Bk.sets {W : World} {t : TypeId} {b : Nat} {cs : Array Value} (h : Bk W t b cs) (ds : List Value) (hl : ds.length = cs.size) : Bk (W.setCells b 0 ds) t b ds.toArray := by
  have := setCells_full b t ds 0 W cs.toList (by unfold Bk at h; simpa using h) (by simp; omega)
  unfold Bk
  rw [this]
  simp [hl, List.drop_eq_nil_of_le]
theorem Bk.setsO {W : World} {t : TypeId} {b b' : Nat} {cs : Array Value} (h : Bk W t b cs) (hne : b ≠ b') (o : Nat) (ds : List Value) : Bk (W.setCells b' o ds) t b cs :=
  (World.heap_setCells_other W b' o ds h.lt hne).trans h
theorem cf_spec_Base (args : Array Value) (w : World) : (callFunc 44 args).run Tryz.prog w = .ok (.enter 44 args) w := by kernel_rfl
theorem bsG (w : World) : Calls Tryz.prog 44 #[] w fun e w' => e = .returned (.agg #[.int .u64 (px gG), .int .u64 (py gG), .bool (pb gG)]) ∧ Below w.heap.size w w' := by
  have := baseS w
  rwa [ptW_eq] at this
section
variable {W W' : World} {base base' : Nat} {e e' : TypeId} {s s' : Nat} {v v' : Value} {n n' : Nat} {xs xs' : List Value}
theorem own_ne_bk (h : W.ownsRow base e s v n xs) {t : TypeId} {b : Nat} {cs : Array Value} (hb : Bk W t b cs) (hne : e ≠ t) : some b ≠ v.ownBlock := by
  rcases h.2 with ⟨rfl, _⟩ | ⟨g, cap, cur, rfl, -, hg, -⟩
  · simp [Value.ownBlock]
  · intro e1
    have : b = g := by simpa [Value.ownBlock] using e1
    subst this
    unfold Bk at hb
    rw [hb] at hg
    injection hg with hg
    injection hg with _ h2
    exact hne h2.symm
theorem own_ne_own (h : W.ownsRow base e s v n xs) (h' : W.ownsRow base' e' s' v' n' xs') (hne : e ≠ e') : v.ownBlock = none ∨ v.ownBlock ≠ v'.ownBlock := by
  rcases h.2 with ⟨rfl, _⟩ | ⟨g, cap, cur, rfl, -, hg, -⟩
  · exact .inl rfl
  · exact .inr (own_ne_bk h' (show Bk W e g cur from hg) (fun e => hne e.symm))
theorem Bk.grown {t : TypeId} {b : Nat} {cs : Array Value} {row : Option Nat} (h : Bk W t b cs) (hg : W.grownBy W' row) (hne : some b ≠ row) : Bk W' t b cs := (hg.block b h.lt hne).trans h
theorem grown_set (W : World) (b i : Nat) (x : Value) : W.grownBy (W.setCell ⟨b, i, none⟩ x) (some b) := ⟨rfl, rfl, rfl, by simp, fun k _ hk => heap_setCell_other W ⟨b, i, none⟩ k x (fun e => hk (by simp [e]))⟩
theorem own_set (h : W.ownsRow base e s v n xs) {b : Nat} (hne : some b ≠ v.ownBlock) (i : Nat) (x : Value) : (W.setCell ⟨b, i, none⟩ x).ownsRow base e s v n xs :=
  h.kept (grown_set W b i x) (.inr (fun e => hne e.symm))
theorem onev (h : W.ownsRow base e s v n xs) (a b : Int) : (#[v, .int .u64 a, .int .u64 b] : Array Value).all (·.oneCell') = true := by
  rcases h.2 with ⟨rfl, _⟩ | ⟨g, cap, cur, rfl, -⟩ <;> simp [Value.oneCell']
theorem grown_sets (W : World) (b o : Nat) (ds : List Value) : W.grownBy (W.setCells b o ds) (some b) :=
  ⟨World.os_setCells W b o ds, setCells_tape b ds o W, World.output_setCells W b o ds, by rw [setCells_size]; exact Nat.le_refl _, fun k hk hne => World.heap_setCells_other W b o ds hk (fun e => hne (by rw [e]))⟩
theorem own_sets (h : W.ownsRow base e s v n xs) {b : Nat} (hne : some b ≠ v.ownBlock) (o : Nat) (ds : List Value) : (W.setCells b o ds).ownsRow base e s v n xs :=
  h.kept (grown_sets W b o ds) (.inr (fun e => hne e.symm))
end
section
variable {P : Program} {ops : Array Oper} {Q : Exit → Act → World → Prop} {md : Region.Mode}
theorem last_do3 {fuel : Nat} {l : Array Bool} {A : Act} {w : World} (p q r : Nat) {op oq or' : Oper} (hf : 3 ≤ fuel)
    (hr : Region.ready md ops l = [p]) (hrp : Region.ready md ops (l.setIfInBounds p true) = [q])
    (hpq : Region.ready md ops ((l.setIfInBounds p true).setIfInBounds q true) = [r])
    (hpr : Region.ready md ops (((l.setIfInBounds p true).setIfInBounds q true).setIfInBounds r true) = [])
    (hop : ops[p]? = some op) (hgp : op.guard = none) (hoq : ops[q]? = some oq) (hgq : oq.guard = none) (hor : ops[r]? = some or') (hgr : or'.guard = none) {R : Value → World → Prop} {R2 : Value → World → Value → World → Prop}
    (dp : Does P op A w R) (fq : ∀ v w', R v w' → Does P oq (A.put op.dst v) w' (R2 v w'))
    (fr : ∀ v w' v2 w2, R v w' → R2 v w' v2 w2 → Does P or' ((A.put op.dst v).put oq.dst v2) w2 fun v3 w3 => Q .normal (((A.put op.dst v).put oq.dst v2).put or'.dst v3) w3) : wpAny P md ops Q fuel l A w := by
  obtain ⟨n, rfl⟩ : ∃ n, fuel = n + 1 + 1 + 1 := ⟨fuel - 3, by omega⟩
  refine ⟨fun h => (by rw [hr] at h; cases h), fun i hi => ?_⟩
  rw [hr] at hi
  obtain rfl := List.mem_singleton.1 hi
  refine op_go hop hgp dp ?_
  intro v w' hv
  refine ⟨fun h => (by rw [hrp] at h; cases h), fun i hi => ?_⟩
  rw [hrp] at hi
  obtain rfl := List.mem_singleton.1 hi
  refine op_go hoq hgq (fq v w' hv) ?_
  intro v2 w2 h2
  refine ⟨fun h => (by rw [hpq] at h; cases h), fun i hi => ?_⟩
  rw [hpq] at hi
  obtain rfl := List.mem_singleton.1 hi
  refine op_go hor hgr (fr v w' v2 w2 hv h2) ?_
  intro v3 w3 h3
  cases n with
  | zero => exact ⟨hpr, h3⟩
  | succ n => exact ⟨fun _ => h3, fun i hi => by rw [hpr] at hi; cases hi⟩
end
end Go.Proofs.YtjmhmajfkdglnaaGreatDoor
namespace Go.Proofs.YtjmhmajfkdglnaaGreatDoor
open Go.RowKit
theorem exP_less (x : Int) (w : World) (h1 : x < 2305843009213693951) :
    Calls Tryz.prog 103 #[.int .u64 x, .agg #[]] w fun e w' => e = .returned (.tuple #[.agg #[.int .u64 x], .bool true]) ∧ Below w.heap.size w w' := by
  have hm := methP
  have hbd := foldP
  go_enter Tryz.func103, Tryz.ntmps103
  go_wp2_with fail
  refine (valP _).mono ?_
  rintro e w' ⟨rfl, rfl⟩
  go_wp2
  refine bodyPost_ret (v := .tuple #[.agg #[.int .u64 x], .bool true]) (by simp [results, Tryz.results103, go_sem]) rfl ⟨rfl, ?_⟩
  exact (((Below.refl _ w).alloc (Nat.le_refl _) _).alloc (by simp) _).alloc (by simp; omega) _
theorem exP_more (x : Int) (w : World) (h1 : 2305843009213693951 ≤ x) :
    Calls Tryz.prog 103 #[.int .u64 x, .agg #[]] w fun e w' => e = .returned (.tuple #[.agg #[.int .u64 0], .bool false]) ∧ Below w.heap.size w w' := by
  have hm := methP
  go_enter Tryz.func103, Tryz.ntmps103
  go_wp2_with fail
  refine (valP _).mono ?_
  rintro e w' ⟨rfl, rfl⟩
  go_wp2
  refine bodyPost_ret (v := .tuple #[.agg #[.int .u64 0], .bool false]) (by simp [results, Tryz.results103, go_sem]) rfl ⟨rfl, ?_⟩
  exact (((Below.refl _ w).alloc (Nat.le_refl _) _).alloc (by simp) _).alloc (by simp; omega) _
end Go.Proofs.YtjmhmajfkdglnaaGreatDoor
