import Derived.Test.YtjmhmajfkdglnaaGreatDoorMrg26
import Derived.Test.YtjmhmajfkdglnaaGreatDoorMrg39
import Derived.Test.YtjmhmajfkdglnaaGreatDoorMrg32
import Derived.Test.YtjmhmajfkdglnaaGreatDoorMrg23
import Derived.Test.YtjmhmajfkdglnaaGreatDoorMrg29
import Derived.Test.YtjmhmajfkdglnaaGreatDoorMrg36
import Derived.Deep.QuietTactic
import Derived.BigQuiet
set_option linter.unusedVariables false
set_option maxRecDepth 100000
set_option maxHeartbeats 16000000
namespace Go.Proofs.YtjmhmajfkdglnaaGreatDoor
open Go.RowKit
section
variable {A : Act} {w : World} {dst : Option Tmp} {ty : TypeId} {ps : String} {af : Array Edge} {gd : Option (Nat × Bool)} {x y : Operand} {b i : Nat}
theorem fa_evd0 (hx : A.eval x = .pointer (some ⟨b, i, none⟩)) :
    Does Tryz.prog { dst := dst, op := .fieldAddr 42 x 0, type := ty, pos := ps, after := af, guard := gd } A w fun v' w' => v' = .pointer (some ⟨b, i, none⟩) ∧ Below w.heap.size w w' := by
  have h : (execOp A.eval { dst := dst, op := .fieldAddr 42 x 0, type := ty, pos := ps, after := af, guard := gd }).run Tryz.prog w = .ok (.value (.pointer (some ⟨b, i, none⟩))) w := by generalize A.eval = ev at *; simp [execOp, hx, go_sem]
  exact does_value h ⟨rfl, Below.refl _ _⟩
theorem ld_evd {v0 v1 v2 : Value} (hx : A.eval x = .pointer (some ⟨b, i, none⟩)) (h0 : w.cell? ⟨b, i, none⟩ = some v0) (h1 : w.cell? ⟨b, i + 1, none⟩ = some v1) (h2 : w.cell? ⟨b, i + 2, none⟩ = some v2) :
    Does Tryz.prog { dst := dst, op := .load 42 x, type := ty, pos := ps, after := af, guard := gd } A w fun v' w' => v' = .agg #[v0, v1, v2] ∧ Below w.heap.size w w' := by
  have h : (execOp A.eval { dst := dst, op := .load 42 x, type := ty, pos := ps, after := af, guard := gd }).run Tryz.prog w = .ok (.value (.agg #[v0, v1, v2])) w := by generalize A.eval = ev at *; simp [execOp, hx, h0, h1, h2, go_sem]
  exact does_value h ⟨rfl, Below.refl _ _⟩
theorem ld_ptsl {v0 : Value} (hx : A.eval x = .pointer (some ⟨b, i, none⟩)) (h0 : w.cell? ⟨b, i, none⟩ = some v0) :
    Does Tryz.prog { dst := dst, op := .load 38 x, type := ty, pos := ps, after := af, guard := gd } A w fun v' w' => v' = v0 ∧ Below w.heap.size w w' := by
  have h : (execOp A.eval { dst := dst, op := .load 38 x, type := ty, pos := ps, after := af, guard := gd }).run Tryz.prog w = .ok (.value (v0)) w := by generalize A.eval = ev at *; simp [execOp, hx, h0, go_sem]
  exact does_value h ⟨rfl, Below.refl _ _⟩
end
section
variable {A : Act} {w : World} {dst : Option Tmp} {ty : TypeId} {ps : String} {af : Array Edge} {gd : Option (Nat × Bool)} {x y : Operand} {b i : Nat}
theorem al_bat : Does Tryz.prog { dst := dst, op := .alloc 109, type := ty, pos := ps, after := af, guard := gd } A w fun v w' => v = .pointer (some ⟨w.heap.size, 0, none⟩) ∧ w' = w.alloc (.cells #[.string ⟨#[]⟩, .int .u64 0, .int .u64 0, .bool false, .slice none 0 0, .slice none 0 0] 109) := by
  have h : (execOp A.eval { dst := dst, op := .alloc 109, type := ty, pos := ps, after := af, guard := gd }).run Tryz.prog w = .ok (.value (.pointer (some ⟨w.heap.size, 0, none⟩))) (w.alloc (.cells #[.string ⟨#[]⟩, .int .u64 0, .int .u64 0, .bool false, .slice none 0 0, .slice none 0 0] 109)) := by simp [execOp, go_sem]
  exact does_value h ⟨rfl, rfl⟩
theorem size_bat : (Tryz.prog.info? 109).map (·.size) = some 6 := by kernel_rfl
theorem pu_bat {cx : ByteArray} {x1 y1 : Int} {c1 : Bool} {s1 s2 : Option Addr} {n1 k1 n2 k2 : Nat} (hx : A.eval x = .pointer (some ⟨b, 0, none⟩)) (hy : A.eval y = .agg #[.string cx, .int .u64 x1, .int .u64 y1, .bool c1, .slice s1 n1 k1, .slice s2 n2 k2]) (hr : w.heap[b]? = some (.cells #[.string ⟨#[]⟩, .int .u64 0, .int .u64 0, .bool false, .slice none 0 0, .slice none 0 0] 109)) :
    Does Tryz.prog { dst := dst, op := .store 109 x y, type := ty, pos := ps, after := af, guard := gd } A w fun _ w' => Turned b (.cells #[.string cx, .int .u64 x1, .int .u64 y1, .bool c1, .slice s1 n1 k1, .slice s2 n2 k2] 109) w w' := pu_any hx hy hr rfl size_bat (by kernel_rfl)
theorem bu0_evd : Does Tryz.prog { dst := dst, op := .build 42 #[], type := ty, pos := ps, after := af, guard := gd } A w fun v' w' => v' = .agg #[.slice none 0 0, .int .u64 0, .int .u64 0] ∧ Below w.heap.size w w' := by
  have h : (execOp A.eval { dst := dst, op := .build 42 #[], type := ty, pos := ps, after := af, guard := gd }).run Tryz.prog w = .ok (.value (.agg #[.slice none 0 0, .int .u64 0, .int .u64 0])) w := by generalize A.eval = ev at *; simp [execOp, go_sem]
  exact does_value h ⟨rfl, Below.refl _ _⟩
theorem size_evd : (Tryz.prog.info? 42).map (·.size) = some 3 := by kernel_rfl
end
theorem cf_impl_batch_prove (args : Array Value) (w : World) : (callFunc 172 args).run Tryz.prog w = .ok (.enter 172 args) w := by kernel_rfl
end Go.Proofs.YtjmhmajfkdglnaaGreatDoor
namespace Go.Proofs.YtjmhmajfkdglnaaGreatDoor
open Go.RowKit M
theorem eleI_of (x y : Int) (c ok : Bool) (p : Pt) (a0 a1 a2 a3 : Addr) (w : World) (hs : Sn w a0 a1 a2 a3)
    (F : ∀ w, Calls Tryz.prog 64 #[.agg #[.int .u64 x, .int .u64 y, .bool c]] w fun e w' => e = .returned (.tuple #[.agg #[.int .u64 (px p), .int .u64 (py p), .bool (pb p)], .bool ok]) ∧ Below w.heap.size w w') :
    Calls Tryz.prog 85 #[.agg #[.int .u64 x, .int .u64 y, .bool c]] w fun e w' => e = .returned (if ok = true ∧ pb p = false then .tuple #[.agg #[.int .u64 (px p), .int .u64 (py p), .bool (pb p)], .nilIface] else .tuple #[.agg #[.int .u64 0, .int .u64 0, .bool true], sen a0]) ∧ Below w.heap.size w w' := by
  obtain ⟨V, hV⟩ : ∃ V, Hid (V = (if ok = true ∧ pb p = false then .tuple #[.agg #[.int .u64 (px p), .int .u64 (py p), .bool (pb p)], .nilIface] else .tuple #[.agg #[.int .u64 0, .int .u64 0, .bool true], sen a0] : Value)) := ⟨_, rfl⟩
  rw [← hV.out]
  have hg0 : 0 < w.heap.size := World.block_lt_of_cell? w _ hs.c0
  obtain ⟨X, hX⟩ : ∃ X, X = (w.alloc (Obj.cells #[.int .u64 x, .int .u64 y, .bool c] 28)).alloc (Obj.cells #[.int .u64 0, .int .u64 0, .bool false] 106) := ⟨_, rfl⟩
  have hr : K3 X 106 (w.heap.size + 1) 0 0 false := by rw [hX]; exact (K3.new _ _ _ _ _).at (by simp)
  have r1 : K3 X 28 w.heap.size x y c := by rw [hX]; exact (K3.new _ _ _ _ _).alloc _
  have hb : Below w.heap.size w X := by rw [hX]; exact ((Below.refl _ w).alloc (Nat.le_refl _) _).alloc (by simp) _
  rw [hX] at hr r1 hb
  clear hX
  have p0 := r1.c0
  have p1 := r1.c1
  have p2 := r1.c2
  go_enter Tryz.func85, Tryz.ntmps85
  go_wp2_with fail
  refine (F _).mono ?_
  rintro e w2 ⟨rfl, b2⟩
  obtain ⟨W2, hW2⟩ : ∃ W2, W2 = w2.alloc (Obj.cells #[.int .u64 (px p), .int .u64 (py p), .bool (pb p)] 106) := ⟨_, rfl⟩
  have hal : Below w2.heap.size w2 W2 := by rw [hW2]; exact (Below.refl _ w2).alloc (Nat.le_refl _) _
  have hr2 : K3 W2 106 w2.heap.size (px p) (py p) (pb p) := by rw [hW2]; exact K3.new _ _ _ _ _
  have hlt : w.heap.size + 1 < w2.heap.size := (hr.keep b2).lt
  replace hr := (hr.keep b2).keep hal
  replace hb := hb.trans (b2.mono hb.size)
  replace hb := hb.trans (hal.mono hb.size)
  replace hs := hs.keep hb
  clear F b2 hal p0 p1 p2 r1
  go_wp2
  rw [← hW2]
  clear hW2
  generalize w2.heap.size = H2 at *
  cases ok with
  | false =>
    have hV' : V = .tuple #[.agg #[.int .u64 0, .int .u64 0, .bool true], sen a0] := by rw [hV.out, if_neg (by simp)]
    go_quiet (fail)
    have hr3 : K3 (W2.drewN nq) 106 (w.heap.size + 1) 0 0 false := hr
    have hs3 : Sn (W2.drewN nq) a0 a1 a2 a3 := ⟨hs.c0, hs.c1, hs.c2, hs.c3, hs.b0, hs.b1, hs.b2, hs.b3, hs.n01, hs.n02, hs.n03, hs.n12, hs.n13, hs.n23⟩
    have hb3 : Below w.heap.size w (W2.drewN nq) := ⟨hb.os, hb.tape, hb.output, hb.size, hb.block⟩
    clear hr hs hb
    generalize W2.drewN nq = W3 at *
    go_wp2
    have g0 : W3.drew.cell? ⟨0, 0, none⟩ = _ := hs3.c0
    have n0 : 0 ∉ [w.heap.size + 1] := fun h => absurd (List.mem_singleton.1 h) (by omega)
    have l1 : w.heap.size + 1 < W3.drew.heap.size := hr3.lt
    refine G.pool_list (W := W3) [w.heap.size + 1] [.val (.agg #[.int .u64 0, .int .u64 0, .bool true]),
        .val (sen a0),
        .set (w.heap.size + 1) (.cells #[.int .u64 0, .int .u64 0, .bool false] 106) (.cells #[.int .u64 0, .int .u64 0, .bool true] 106),
        .val (sen a0)] [[], [], [2, 18], [19]] (fun f => [(some 18, .agg #[.int .u64 0, .int .u64 0, .bool true]), (some 19, sen a0), (none, undef), (some 3, sen a0)]) (by kernel_rfl) (by kernel_rfl) (by kernel_rfl) (by kernel_rfl) (fun _ => by kernel_rfl) (G.last_of [.cells #[.int .u64 0, .int .u64 0, .bool false] 106] (fun F R hm => by simp at hm) (fun ob ob' k hm => by simp at hm) (fun b ob ob' hm => by simp at hm; simp [hm])) (fun b ob ob' hm => by simp at hm; obtain ⟨rfl, rfl, -⟩ := hm; exact hr3) ?_ ?_
    · intro ix hix
      match ix, hix with
      | 0, _ => exact G.ob_val [] rfl rfl (fun _ => by kernel_rfl) (fun A w _ hB => cl0 cf_impl_zeroPoint  (zpP w))
      | 1, _ => exact G.ob_val [] rfl rfl (fun _ => by kernel_rfl) (fun A w _ hB => ld_err rfl (hB.cell g0 n0))
      | 2, _ => exact G.ob_set (fun f => [(2, .pointer (some ⟨w.heap.size + 1, 0, none⟩)), (18, .agg #[.int .u64 0, .int .u64 0, .bool true])]) rfl rfl rfl (by simp) l1 (fun j ob1 ob2 h => by (rcases j with _ | _ | _ | _ | j) <;> simp [G.kindOf] at h ⊢ <;> omega) (fun _ => by kernel_rfl) (fun f A w ⟨e0, e1, _⟩ hh hr => pu_cp e0 e1 hr)
      | 3, _ => exact G.ob_val [(19, sen a0)] rfl rfl (fun _ => by kernel_rfl) (fun A w ⟨e0, _⟩ hB => doV_assign e0)
      | ix + 4, h => exact absurd h (by simp)
    intro f W4 hS _ _ _ hset
    have q1 : K3 W4 106 (w.heap.size + 1) 0 0 true := hset 2 _ _ _ rfl (by decide)
    have hb4 : Below w.heap.size w W4 := hS.under hb3.drew (by intro b h; rw [List.mem_singleton.1 h]; omega) hb3.size
    clear hset hS g0
    simp only [puts, List.foldl, Act.put, List.setIfInBounds_toArray, List.set_cons_zero, List.set_cons_succ]
    go_wp2
    exact bodyPost_ret (v := .tuple #[.agg #[.int .u64 0, .int .u64 0, .bool true], sen a0]) (cpt_res (fn := Tryz.f85) (p := 2) (u := 3) Tryz.results85 _ rfl q1) rfl ⟨by rw [hV'], hb4⟩
  | true =>
    have k0 : W2.drew.cell? ⟨H2, 0, none⟩ = _ := hr2.c0
    have k1 : W2.drew.cell? ⟨H2, 1, none⟩ = _ := hr2.c1
    have k2 : W2.drew.cell? ⟨H2, 2, none⟩ = _ := hr2.c2
    refine G.pool_list (W := W2) [] [.val (.bool true),
        .val (.bool false),
        .val (.bool false),
        .val (.agg #[.int .u64 (px p), .int .u64 (py p), .bool (pb p)]),
        .val (.agg #[.int .u64 0, .int .u64 0, .bool true]),
        .val (.bool (pb p)),
        .val (.bool (pb p))] [[5], [11], [12], [4], [], [14, 15], [13, 16]] (fun f => [(some 11, .bool true), (some 12, .bool false), (some 13, .bool false), (some 14, .agg #[.int .u64 (px p), .int .u64 (py p), .bool (pb p)]), (some 15, .agg #[.int .u64 0, .int .u64 0, .bool true]), (some 16, .bool (pb p)), (some 17, .bool (pb p))]) (by kernel_rfl) (by kernel_rfl) (by kernel_rfl) (by kernel_rfl) (fun _ => by kernel_rfl) (G.last_of [] (fun F R hm => by simp at hm) (fun ob ob' k hm => by simp at hm) (fun b ob ob' hm => by simp at hm)) (fun b ob ob' hm => by simp at hm) ?_ ?_
    · intro ix hix
      match ix, hix with
      | 0, _ => exact G.ob_val [(5, .bool true)] rfl rfl (fun _ => by kernel_rfl) (fun A w ⟨e0, _⟩ hB => doV_move e0)
      | 1, _ => exact G.ob_val [(11, .bool true)] rfl rfl (fun _ => by kernel_rfl) (fun A w ⟨e0, _⟩ hB => Z.notT e0)
      | 2, _ => exact G.ob_val [(12, .bool false)] rfl rfl (fun _ => by kernel_rfl) (fun A w ⟨e0, _⟩ hB => doV_move e0)
      | 3, _ => exact G.ob_val [(4, .pointer (some ⟨H2, 0, none⟩))] rfl rfl (fun _ => by kernel_rfl) (fun A w ⟨e0, _⟩ hB => ld_cp e0 (hB.cell k0 (by simp)) (hB.cell k1 (by simp)) (hB.cell k2 (by simp)))
      | 4, _ => exact G.ob_val [] rfl rfl (fun _ => by kernel_rfl) (fun A w _ hB => cl0 cf_impl_zeroPoint  (zpP w))
      | 5, _ => exact G.ob_val [(14, .agg #[.int .u64 (px p), .int .u64 (py p), .bool (pb p)]), (15, .agg #[.int .u64 0, .int .u64 0, .bool true])] rfl rfl (fun _ => by kernel_rfl) (fun A w ⟨e0, e1, _⟩ hB => eq_cpz e0 e1)
      | 6, _ => exact G.ob_val [(13, .bool false), (16, .bool (pb p))] rfl rfl (fun _ => by kernel_rfl) (fun A w ⟨e0, e1, _⟩ hB => Z.pkF e0 e1)
      | ix + 7, h => exact absurd h (by simp)
    intro f W3 hS _ _ _ _
    have b3 : Below W2.heap.size W2 W3 := (Below.refl _ W2).drew.trans hS.below
    replace hr := hr.keep b3
    replace hr2 := hr2.keep b3
    replace hs := hs.keep b3
    replace hb := hb.trans (b3.mono hb.size)
    clear hS b3 k0 k1 k2
    simp only [puts, List.foldl, Act.put, List.setIfInBounds_toArray, List.set_cons_zero, List.set_cons_succ]
    cases hz : pb p with
    | true =>
      have hV' : V = .tuple #[.agg #[.int .u64 0, .int .u64 0, .bool true], sen a0] := by rw [hV.out, if_neg (by simp [hz])]
      go_wp2
      have g0 : W3.drew.cell? ⟨0, 0, none⟩ = _ := hs.c0
      have n0 : 0 ∉ [w.heap.size + 1] := fun h => absurd (List.mem_singleton.1 h) (by omega)
      have l1 : w.heap.size + 1 < W3.drew.heap.size := hr.lt
      refine G.pool_list (W := W3) [w.heap.size + 1] [.val (.agg #[.int .u64 0, .int .u64 0, .bool true]),
          .val (sen a0),
          .set (w.heap.size + 1) (.cells #[.int .u64 0, .int .u64 0, .bool false] 106) (.cells #[.int .u64 0, .int .u64 0, .bool true] 106),
          .val (sen a0)] [[], [], [2, 18], [19]] (fun f => [(some 18, .agg #[.int .u64 0, .int .u64 0, .bool true]), (some 19, sen a0), (none, undef), (some 3, sen a0)]) (by kernel_rfl) (by kernel_rfl) (by kernel_rfl) (by kernel_rfl) (fun _ => by kernel_rfl) (G.last_of [.cells #[.int .u64 0, .int .u64 0, .bool false] 106] (fun F R hm => by simp at hm) (fun ob ob' k hm => by simp at hm) (fun b ob ob' hm => by simp at hm; simp [hm])) (fun b ob ob' hm => by simp at hm; obtain ⟨rfl, rfl, -⟩ := hm; exact hr) ?_ ?_
      · intro ix hix
        match ix, hix with
        | 0, _ => exact G.ob_val [] rfl rfl (fun _ => by kernel_rfl) (fun A w _ hB => cl0 cf_impl_zeroPoint  (zpP w))
        | 1, _ => exact G.ob_val [] rfl rfl (fun _ => by kernel_rfl) (fun A w _ hB => ld_err rfl (hB.cell g0 n0))
        | 2, _ => exact G.ob_set (fun f => [(2, .pointer (some ⟨w.heap.size + 1, 0, none⟩)), (18, .agg #[.int .u64 0, .int .u64 0, .bool true])]) rfl rfl rfl (by simp) l1 (fun j ob1 ob2 h => by (rcases j with _ | _ | _ | _ | j) <;> simp [G.kindOf] at h ⊢ <;> omega) (fun _ => by kernel_rfl) (fun f A w ⟨e0, e1, _⟩ hh hr => pu_cp e0 e1 hr)
        | 3, _ => exact G.ob_val [(19, sen a0)] rfl rfl (fun _ => by kernel_rfl) (fun A w ⟨e0, _⟩ hB => doV_assign e0)
        | ix + 4, h => exact absurd h (by simp)
      intro f W4 hS _ _ _ hset
      have q1 : K3 W4 106 (w.heap.size + 1) 0 0 true := hset 2 _ _ _ rfl (by decide)
      have hb3 : Below w.heap.size w W4 := hS.under hb.drew (by intro b h; rw [List.mem_singleton.1 h]; omega) hb.size
      clear hset hS g0
      simp only [puts, List.foldl, Act.put, List.setIfInBounds_toArray, List.set_cons_zero, List.set_cons_succ]
      go_wp2
      exact bodyPost_ret (v := .tuple #[.agg #[.int .u64 0, .int .u64 0, .bool true], sen a0]) (cpt_res (fn := Tryz.f85) (p := 2) (u := 3) Tryz.results85 _ rfl q1) rfl ⟨by rw [hV'], hb3⟩
    | false =>
      have hV' : V = .tuple #[.agg #[.int .u64 (px p), .int .u64 (py p), .bool (pb p)], .nilIface] := by rw [hV.out, if_pos (by simp [hz])]
      rw [hz] at hr2
      have c0 := hr.c0
      have c1 := hr.c1
      have c2 := hr.c2
      have cf := hr.frz
      have k0 := hr2.c0
      have k1 := hr2.c1
      have k2 := hr2.c2
      go_wp2
      exact bodyPost_ret (v := .tuple #[.agg #[.int .u64 (px p), .int .u64 (py p), .bool false], .nilIface]) (cpt_res (fn := Tryz.f85) (p := 2) (u := 3) Tryz.results85 _ rfl (hr.set (px p) (py p) false)) rfl ⟨rfl, set3_below hb (by omega)⟩
theorem eleI_any (t : Tri) (a0 a1 a2 a3 : Addr) (w : World) (hs : Sn w a0 a1 a2 a3) :
    Calls Tryz.prog 85 #[.agg #[.int .u64 (t.1 : Int), .int .u64 (t.2.1 : Int), .bool t.2.2]] w fun e w' => e = .returned (if elT t = true then .tuple #[.agg #[.int .u64 (px (asT t)), .int .u64 (py (asT t)), .bool (pb (asT t))], .nilIface] else .tuple #[.agg #[.int .u64 0, .int .u64 0, .bool true], sen a0]) ∧ Below w.heap.size w w' := by
  have h := eleI_of _ _ _ _ (asT t) a0 a1 a2 a3 w hs (fun w => fndW t.1 t.2.1 t.2.2 w)
  have e : ((toPt t.1 t.2.1 t.2.2).isSome = true ∧ pb (asT t) = false) ↔ elT t = true := by
    constructor
    · rintro ⟨h1, h2⟩
      have h3 := (triW_px (t := t) h1).2.2
      unfold elT
      rw [show onT t = true from h1, h3, h2]
      rfl
    · intro h
      refine ⟨elT_on h, ?_⟩
      cases hp : pb (asT t) with
      | false => rfl
      | true => exact absurd ((pb_none _).1 hp) (elT_nz h)
  simp only [e] at h
  exact h
end Go.Proofs.YtjmhmajfkdglnaaGreatDoor
