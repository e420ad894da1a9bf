import Derived.Test.YtjmhmajfkdglnaaGreatDoorMrg11
import Derived.Test.YtjmhmajfkdglnaaGreatDoorMrg0
import Derived.Deep.RegionHeld3
import Derived.Test.YtjmhmajfkdglnaaGreatDoorMrg4
import Derived.Test.YtjmhmajfkdglnaaGreatDoorMrg12
import Derived.Test.YtjmhmajfkdglnaaGreatDoorMrg29
set_option linter.unusedVariables false
set_option maxRecDepth 100000
set_option maxHeartbeats 16000000
namespace Go.Proofs.YtjmhmajfkdglnaaGreatDoor
open Go.RowKit
theorem mthN (w : World) : (method 449 115 (.agg #[]) "loop.example/s02095/impl.value").run Tryz.prog w = .ok (241, .agg #[]) w := by kernel_rfl
theorem vluN (w : World) :
    Calls Tryz.prog 241 #[.agg #[]] w fun e w' => e = .returned (.int .u64 2305843010818082053) ∧ w' = w.alloc (.cells #[] 115) := by
  go_enter Tryz.func241, Tryz.ntmps241
  go_wp2
  go_ret
  exact ⟨rfl, rfl⟩
theorem fldN : Array.foldl (fun (cs : Array Value) (x : Value × Nat) => cs.setIfInBounds x.snd x.fst) #[Value.int IntKind.u64 0] (#[] : Array Value).zipIdx 0 0 = #[Value.int .u64 0] := rfl
theorem celN : Tryz.prog.cellsOf 117 = 1 := by kernel_rfl
theorem bytN : byteOfCell Tryz.prog Tryz.prog.depth 117 0 = some 0 := by kernel_rfl
theorem prtN {W : World} {b : Nat} {cs : Array Value} (hW : W.heap[b]? = some (.cells cs 117)) : (partAt ⟨b, 0, none⟩ 0 0).run Tryz.prog W = .ok ⟨b, 0, none⟩ W := by
  have h : (byteOf ⟨b, 0, none⟩).run Tryz.prog W = .ok 0 W := by
    have hs : W.shape? b = some (117, cs.size) := by simp [World.shape?, hW]
    simp [byteOf, noView, viewAt, shape, program, Sem.run, hs, celN, bytN, go_sem]
  simp [partAt, h, go_sem]
theorem timN_any (a b : Nat) (w : World) (ha : a < 2305843010818082053) (hb : b < 2305843010818082053) :
    Calls Tryz.prog 174 #[.agg #[.int .u64 a], .agg #[.int .u64 b]] w fun e w' => e = .returned (.agg #[.int .u64 (a * b % 2305843010818082053 : Nat)]) ∧ Below w.heap.size w w' := by
  have hme := mthN
  have hf := fldN
  have M := mul64_any a b (by omega) (by omega)
  have D := fun w => div_any (a * b / 18446744073709551616) (a * b % 18446744073709551616) 2305843010818082053 w (by
    rw [Nat.div_lt_iff_lt_mul (by decide)]
    have : a * b ≤ 2305843010818082052 * 2305843010818082052 := Nat.mul_le_mul (by omega) (by omega)
    omega) (by decide) (Nat.mod_lt _ (by decide))
  have e : a * b / 18446744073709551616 * 18446744073709551616 + a * b % 18446744073709551616 = a * b := by omega
  rw [e] at D
  clear e
  generalize a * b / 18446744073709551616 = hi at *
  generalize a * b % 18446744073709551616 = lo at *
  obtain ⟨c, hc⟩ : ∃ c, c = a * b % 2305843010818082053 := ⟨_, rfl⟩
  rw [← hc] at D ⊢
  clear hc ha hb
  obtain ⟨X, hX⟩ : ∃ X, X = ((w.alloc (Obj.cells #[.int .u64 (a : Int)] 117)).alloc (Obj.cells #[.int .u64 (b : Int)] 117)).alloc (Obj.cells #[.int .u64 0] 117) := ⟨_, rfl⟩
  have hX0 : X.heap[w.heap.size]? = some (.cells #[.int .u64 (a : Int)] 117) := by
    rw [hX]
    exact (Below.heap_alloc _ _ _ (by simp; omega)).trans ((Below.heap_alloc _ _ _ (by simp)).trans (heap_alloc_new w _))
  have hp1 := prtN hX0
  have hX1 : (X.alloc (Obj.cells #[] 115)).heap[w.heap.size]? = some (.cells #[.int .u64 (a : Int)] 117) := (Below.heap_alloc _ _ _ (Array.getElem?_eq_some_iff.1 hX0).1).trans hX0
  have hp2 := prtN hX1
  have hp3 := prtN (W := (X.alloc (Obj.cells #[] 115)).drew) hX1
  rw [hX] at hp1 hp2 hp3
  clear hX hX0 hX1
  go_enter Tryz.func174, Tryz.ntmps174
  go_wp2_with fail
  refine (M _).mono ?_
  rintro e w' ⟨rfl, rfl⟩
  go_wp2_with fail
  refine (vluN _).mono ?_
  rintro e w' ⟨rfl, rfl⟩
  go_wp2_with fail
  refine (D _).mono ?_
  rintro e w' ⟨⟨z, rfl⟩, rfl | rfl⟩
  · go_wp2
    refine bodyPost_ret (v := .agg #[.int .u64 c]) (by simp [results, Tryz.results174, go_sem]) rfl ⟨rfl, ?_⟩
    exact ((((Below.refl _ _).alloc (Nat.le_refl _) _).alloc (by simp) _).alloc (by simp; omega) _).alloc (by simp; omega) _
  · go_wp2
    refine bodyPost_ret (v := .agg #[.int .u64 c]) (by simp [results, Tryz.results174, go_sem]) rfl ⟨rfl, ?_⟩
    exact (((((Below.refl _ _).alloc (Nat.le_refl _) _).alloc (by simp) _).alloc (by simp; omega) _).alloc (by simp; omega) _).drew
theorem mnN_lt (a b d c : Int) (w : World) (h : a < b) (hd : IntKind.u64.wrap (a - b) = d) (hc : IntKind.u64.wrap (d + 2305843010818082053) = c) :
    Calls Tryz.prog 192 #[.agg #[.int .u64 a], .agg #[.int .u64 b]] w fun e w' => e = .returned (.agg #[.int .u64 c]) ∧ Below w.heap.size w w' := by
  have hme := mthN
  have hf := fldN
  obtain ⟨X, hX⟩ : ∃ X, X = ((w.alloc (Obj.cells #[.int .u64 a] 117)).alloc (Obj.cells #[.int .u64 b] 117)).alloc (Obj.cells #[.int .u64 0] 117) := ⟨_, rfl⟩
  have hX0 : X.heap[w.heap.size]? = some (.cells #[.int .u64 a] 117) := by
    rw [hX]
    exact (Below.heap_alloc _ _ _ (by simp; omega)).trans ((Below.heap_alloc _ _ _ (by simp)).trans (heap_alloc_new w _))
  have hp1 := prtN hX0
  have hX1 : (X.alloc (Obj.cells #[] 115)).heap[w.heap.size]? = some (.cells #[.int .u64 a] 117) := (Below.heap_alloc _ _ _ (Array.getElem?_eq_some_iff.1 hX0).1).trans hX0
  have hp2 := prtN hX1
  rw [hX] at hp1 hp2
  clear hX hX0 hX1
  go_enter Tryz.func192, Tryz.ntmps192
  go_wp2_with fail
  refine (vluN _).mono ?_
  rintro e w' ⟨rfl, rfl⟩
  go_wp2
  refine bodyPost_ret (v := .agg #[.int .u64 c]) (by simp [results, Tryz.results192, go_sem]) rfl ⟨rfl, ?_⟩
  exact ((((Below.refl _ _).alloc (Nat.le_refl _) _).alloc (by simp) _).alloc (by simp; omega) _).alloc (by simp; omega) _
theorem mnN_ge (a b d : Int) (w : World) (h : b ≤ a) (hd : IntKind.u64.wrap (a - b) = d) :
    Calls Tryz.prog 192 #[.agg #[.int .u64 a], .agg #[.int .u64 b]] w fun e w' => e = .returned (.agg #[.int .u64 d]) ∧ Below w.heap.size w w' := by
  have hme := mthN
  have hf := fldN
  have hlt : ¬ a < b := by omega
  clear h
  obtain ⟨X, hX⟩ : ∃ X, X = ((w.alloc (Obj.cells #[.int .u64 a] 117)).alloc (Obj.cells #[.int .u64 b] 117)).alloc (Obj.cells #[.int .u64 0] 117) := ⟨_, rfl⟩
  have hX0 : X.heap[w.heap.size]? = some (.cells #[.int .u64 a] 117) := by
    rw [hX]
    exact (Below.heap_alloc _ _ _ (by simp; omega)).trans ((Below.heap_alloc _ _ _ (by simp)).trans (heap_alloc_new w _))
  have hp1 := prtN hX0
  rw [hX] at hp1
  clear hX hX0
  go_enter Tryz.func192, Tryz.ntmps192
  go_wp2
  refine bodyPost_ret (v := .agg #[.int .u64 d]) (by simp [results, Tryz.results192, go_sem]) rfl ⟨rfl, ?_⟩
  exact (((Below.refl _ _).alloc (Nat.le_refl _) _).alloc (by simp) _).alloc (by simp; omega) _
theorem mnN_any (a b : Nat) (w : World) (ha : a < 2305843010818082053) (hb : b < 2305843010818082053) :
    Calls Tryz.prog 192 #[.agg #[.int .u64 a], .agg #[.int .u64 b]] w fun e w' => e = .returned (.agg #[.int .u64 ((a + (2305843010818082053 - b) % 2305843010818082053) % 2305843010818082053 : Nat)]) ∧ Below w.heap.size w w' := by
  by_cases h : a < b
  · have e : ((a + (2305843010818082053 - b) % 2305843010818082053) % 2305843010818082053 : Nat) = a + 2305843010818082053 - b := by
      rw [Nat.mod_eq_of_lt (show 2305843010818082053 - b < 2305843010818082053 by omega), Nat.mod_eq_of_lt (by omega)]; omega
    rw [e]
    refine mnN_lt a b ((a : Int) - b + 18446744073709551616) _ w (by omega) ?_ ?_
    · rw [IntKind.wrap_u64]; omega
    · rw [IntKind.wrap_u64]; omega
  · have e : ((a + (2305843010818082053 - b) % 2305843010818082053) % 2305843010818082053 : Nat) = a - b := by
      by_cases hb0 : b = 0
      · subst hb0
        rw [Nat.sub_zero, Nat.mod_self, Nat.add_zero, Nat.mod_eq_of_lt ha, Nat.sub_zero]
      · rw [Nat.mod_eq_of_lt (show 2305843010818082053 - b < 2305843010818082053 by omega)]
        have : a + (2305843010818082053 - b) = (a - b) + 2305843010818082053 := by omega
        rw [this, Nat.add_mod_right, Nat.mod_eq_of_lt (by omega)]
    rw [e]
    refine mnN_ge a b _ w (by omega) ?_
    rw [IntKind.wrap_u64]; omega
def ctxB (k : Nat) : ByteArray := ⟨#[84, 79, 89, 80, 82, 70, 45]⟩ ++ (⟨#[48, 49, 50]⟩ : ByteArray).extract k (k + 1) ++ ⟨#[45, 77, 54, 49]⟩
theorem tagB_ctx (word : ByteArray) (k : Nat) : tagB word k = word ++ ctxB k := by
  unfold tagB ctxB
  rw [← ByteArray.append_assoc, ← ByteArray.append_assoc]
theorem ctxB_size (k : Nat) (h : k < 3) : (ctxB k).size = 12 := by
  rcases (show k = 0 ∨ k = 1 ∨ k = 2 by omega) with rfl | rfl | rfl <;> rfl
theorem smlI (k : Nat) (w : World) (hk : k < 3) :
    Calls Tryz.prog 199 #[.int .i64 k] w fun e w' => e = .returned (.string ((⟨#[48, 49, 50]⟩ : ByteArray).extract k (k + 1))) ∧ w = w' := by
  rcases (show k = 0 ∨ k = 1 ∨ k = 2 by omega) with rfl | rfl | rfl
  · go_enter Tryz.func199, Tryz.ntmps199
    go_wp2
    go_ret
    exact ⟨congrArg (fun s => Ending.returned (Value.string s)) (by kernel_rfl), rfl⟩
  · go_enter Tryz.func199, Tryz.ntmps199
    go_wp2
    go_ret
    exact ⟨congrArg (fun s => Ending.returned (Value.string s)) (by kernel_rfl), rfl⟩
  · go_enter Tryz.func199, Tryz.ntmps199
    go_wp2
    go_ret
    exact ⟨congrArg (fun s => Ending.returned (Value.string s)) (by kernel_rfl), rfl⟩
theorem fmtI_of (k : Int) (s : ByteArray) (w : World) (h0 : 0 ≤ k) (h1 : k < 100)
    (L : ∀ w, Calls Tryz.prog 199 #[.int .i64 k] w fun e w' => e = .returned (.string s) ∧ w = w') :
    Calls Tryz.prog 193 #[.int .i64 k, .int .i64 10] w fun e w' => e = .returned (.string s) ∧ w = w' := by
  go_enter Tryz.func193, Tryz.ntmps193
  go_wp2_with fail
  refine (L _).mono ?_
  rintro e w1 ⟨rfl, rfl⟩
  go_wp2
  go_ret
  exact ⟨rfl, rfl⟩
theorem itoI_of (k : Int) (s : ByteArray) (w : World)
    (L : ∀ w, Calls Tryz.prog 193 #[.int .i64 k, .int .i64 10] w fun e w' => e = .returned (.string s) ∧ w = w') :
    Calls Tryz.prog 175 #[.int .i64 k] w fun e w' => e = .returned (.string s) ∧ w = w' := by
  go_enter Tryz.func175, Tryz.ntmps175
  go_wp2_with fail
  refine (L _).mono ?_
  rintro e w1 ⟨rfl, rfl⟩
  go_wp2
  go_ret
  exact ⟨rfl, rfl⟩
theorem itoP_of (k : Int) (s : ByteArray) (w : World)
    (L : ∀ w, Calls Tryz.prog 175 #[.int .i64 k] w fun e w' => e = .returned (.string s) ∧ w = w') :
    Calls Tryz.prog 131 #[.int .i64 k] w fun e w' => e = .returned (.string s) ∧ w = w' := by
  go_enter Tryz.func131, Tryz.ntmps131
  go_wp2_with fail
  refine (L _).mono ?_
  rintro e w1 ⟨rfl, rfl⟩
  go_wp2
  go_ret
  exact ⟨rfl, rfl⟩
theorem ctxI_yes (k : Nat) (w : World) (hk : k < 3) :
    Calls Tryz.prog 100 #[.int .i64 k] w fun e w' => e = .returned (.tuple #[.string (ctxB k), .bool true]) ∧ w = w' := by
  have L := fun w => itoP_of k _ w (fun w => itoI_of k _ w (fun w => fmtI_of k _ w (by omega) (by omega) (fun w => smlI k w hk)))
  have hs : ((⟨#[48, 49, 50]⟩ : ByteArray).extract k (k + 1)).size = 1 := by
    rcases (show k = 0 ∨ k = 1 ∨ k = 2 by omega) with rfl | rfl | rfl <;> rfl
  unfold ctxB
  generalize (⟨#[48, 49, 50]⟩ : ByteArray).extract k (k + 1) = D at *
  have g1 : ¬ (k : Int) < 0 := by omega
  have g2 : ¬ (3 : Int) ≤ (k : Int) := by omega
  have q1 : ¬ (9223372036854775807 < (ByteArray.mk #[84, 79, 89, 80, 82, 70, 45]).size + D.size) := by rw [hs]; decide
  have q2 : ¬ (9223372036854775807 < (ByteArray.mk #[84, 79, 89, 80, 82, 70, 45] ++ D).size + (ByteArray.mk #[45, 77, 54, 49]).size) := by rw [ByteArray.size_append, hs]; decide
  go_enter Tryz.func100, Tryz.ntmps100
  go_wp2_with fail
  refine (L _).mono ?_
  rintro e w1 ⟨rfl, rfl⟩
  clear L hk
  go_wp2
  go_ret2
  exact ⟨rfl, rfl⟩
theorem ctxI_no (k : Int) (w : World) (hk : ¬ (0 ≤ k ∧ k ≤ 2)) :
    Calls Tryz.prog 100 #[.int .i64 k] w fun e w' => e = .returned (.tuple #[.string ⟨#[]⟩, .bool false]) ∧ w = w' := by
  by_cases h0 : k < 0
  · clear hk
    go_enter Tryz.func100, Tryz.ntmps100
    go_wp2
    go_ret2
    exact ⟨rfl, rfl⟩
  · have g2 : (3 : Int) ≤ k := by omega
    clear hk
    go_enter Tryz.func100, Tryz.ntmps100
    go_wp2
    go_ret2
    exact ⟨rfl, rfl⟩
theorem tagI_any (c word : ByteArray) (w : World) (h1 : c.size ≤ 1000) (h2 : word.size ≤ 1000) :
    Calls Tryz.prog 122 #[.string c, .string word] w fun e w' => e = .returned (.string (word ++ c)) ∧ Below w.heap.size w w' := by
  go_enter Tryz.func122, Tryz.ntmps122
  go_wp2
  go_ret
  exact ⟨rfl, Below.refl _ _⟩
end Go.Proofs.YtjmhmajfkdglnaaGreatDoor
namespace Go.Proofs.YtjmhmajfkdglnaaGreatDoor
open Go.RowKit M
theorem rep_point {X Y Z : Fp} : ∀ {p : Pt}, rep X Y Z p → (p = none ∧ Z = 0) ∨ (Z ≠ 0 ∧ p = some (X * fi Z, Y * fi Z))
  | none, ⟨l, _, _, _, hZ⟩ => .inl ⟨rfl, by rw [hZ]; show l * 0 = 0; grobner⟩
  | some (x, y), ⟨l, hl, hX, hY, hZ⟩ => by
    have e : Z = l := by rw [hZ]; show l * 1 = l; grobner
    subst e
    have hf := fi_mul hl
    refine .inr ⟨hl, ?_⟩
    have h1 : X * fi Z = x := by
      have : X = Z * x := hX
      grobner
    have h2 : Y * fi Z = y := by
      have : Y = Z * y := hY
      grobner
    rw [h1, h2]
theorem pntV {X Y Z : Fp} {p : Pt} (h : rep X Y Z p) (w : World) :
    Calls Tryz.prog 111 #[.agg #[.int .u64 (fv X), .int .u64 (fv Y), .int .u64 (fv Z)]] w fun e w' => e = .returned (ptW p) ∧ Below w.heap.size w w' := by
  rcases rep_point h with ⟨rfl, hz⟩ | ⟨hz, rfl⟩
  · exact pntP_no X Y Z w (by rw [fv_zero]; simp [hz])
  · exact pntP_yes X Y Z w (by rw [fv_zero]; simp [hz])
def tstep (t u : Fp × Fp × Fp) : Fp × Fp × Fp := (cX t.1 t.2.1 t.2.2 u.1 u.2.1 u.2.2, cY t.1 t.2.1 t.2.2 u.1 u.2.1 u.2.2, cZ t.1 t.2.1 t.2.2 u.1 u.2.1 u.2.2)
def trB (t : Fp × Fp × Fp) (l : List Bool) : Fp × Fp × Fp := l.foldl (fun v b => if b then tstep (tstep v v) t else tstep v v) (0, 1, 0)
theorem trB_0 (t : Fp × Fp × Fp) (l : List Bool) : trB t (l ++ [false]) = tstep (trB t l) (trB t l) := by simp [trB]
theorem trB_1 (t : Fp × Fp × Fp) (l : List Bool) : trB t (l ++ [true]) = tstep (tstep (trB t l) (trB t l)) t := by simp [trB]
def rept (t : Fp × Fp × Fp) (p : Pt) : Prop := rep t.1 t.2.1 t.2.2 p
theorem rept_step {t u : Fp × Fp × Fp} {p q : Pt} (hp : on p) (hq : on q) (h : rept t p) (k : rept u q) : rept (tstep t u) (ad p q) := rep_c hp hq h k
theorem trB_rep {t : Fp × Fp × Fp} {p : Pt} (hp : on p) (h : rept t p) (l : List Bool) : rept (trB t l) (nt (valB l) p) := by
  suffices ∀ r : List Bool, rept (trB t r.reverse) (nt (valB r.reverse) p) by simpa using this l.reverse
  intro r
  induction r with
  | nil => exact rep_self none
  | cons b r ih =>
    have h2 := rept_step (nt_on hp _) (nt_on hp _) ih ih
    rw [← nt_add hp, ← Nat.two_mul] at h2
    rw [List.reverse_cons]
    cases b with
    | false => rw [trB_0, valB_snoc]; exact h2
    | true =>
      rw [trB_1, valB_snoc]
      have h3 := rept_step (nt_on hp _) hp h2 h
      exact h3
theorem T3.own {β : Type} (B : Nat) (b : Nat) (g1 g2 g3 : β → Int) : OwnFrom B (fun s W => T3 W b (g1 s) (g2 s) (g3 s)) := fun s W W' row hs hg hr => by
  refine (hg.block b hs.lt (fun e => ?_)).trans hs
  obtain ⟨-, o, ho, hc⟩ := hr b e.symm
  rw [show W.heap[b]? = _ from hs] at ho
  cases ho; cases hc
end Go.Proofs.YtjmhmajfkdglnaaGreatDoor
namespace Go.Proofs.YtjmhmajfkdglnaaGreatDoor
open Go.RowKit Go.Shelf M
attribute [local go_sem] Oper.semAt_some
theorem setT_cell (W : World) (b : Nat) (x y z : Int) {k : Nat} (hne : k ≠ b) : (setT W b x y z).cell? ⟨k, 0, none⟩ = W.cell? ⟨k, 0, none⟩ := by
  unfold setT
  refine World.cell?_of_block ?_
  rw [setCell_heap _ _ _ _ _ hne, setCell_heap _ _ _ _ _ hne, setCell_heap _ _ _ _ _ hne]
theorem mulP (X Y Z : Fp) (k : Nat) (w : World) (hk : k < 18446744073709551616) (t : Fp × Fp × Fp) (ht : t = trB (X, Y, Z) (bitsF k (Lib.bitLen k) (Lib.bitLen k))) :
    Calls Tryz.prog 110 #[.agg #[.int .u64 (fv X), .int .u64 (fv Y), .int .u64 (fv Z)], .int .u64 k] w fun r w' => r = .returned (.agg #[.int .u64 (fv t.1), .int .u64 (fv t.2.1), .int .u64 (fv t.2.2)]) ∧ Below w.heap.size w w' := by
  have B := bits_of k
  refine (callsIn_wide (n := 5)).1 ?_
  refine callsIn_of_wp_marks Tryz.func110 rfl trivial ?_ rfl
  simp only [Tryz.ntmps110, List.size_toArray, List.length_cons, List.length_nil, Nat.reduceAdd, Nat.reduceSub, Array.replicate_succ, Array.replicate_zero, List.push_toArray, List.append_toArray, List.nil_append, List.cons_append]
  gi_wp2_with (first
    | (refine ⟨trivial, ?_⟩; gi_at_call 102; refine (callsIn_wide.2 (zpP _)).mono ?_; rintro e w1 ⟨rfl, b1⟩)
    | (refine ⟨trivial, ?_⟩; gi_at_call 109; refine (callsIn_wide.2 (triP_none _)).mono ?_; rintro e w2 ⟨rfl, b2⟩)
    | (refine ⟨trivial, ?_⟩; gi_at_call 141; refine (callsIn_wide.2 (B _)).mono ?_; rintro e w' ⟨rfl, rfl⟩))
  clear B
  have tA0 := ((T3.new w (fv X) (fv Y) (fv Z)).alloc (Obj.cells #[.int .u64 0, .int .u64 0, .int .u64 0] 189)).keep b1 |>.keep b2
  have tR0 := (((T3.new (w.alloc (Obj.cells #[.int .u64 (fv X), .int .u64 (fv Y), .int .u64 (fv Z)] 189)) 0 0 0).at (b' := w.heap.size + 1) (by simp)).keep b1).keep b2
  have hB0 := keepB (keepB (((Below.refl _ w).alloc (Nat.le_refl _) _).alloc (by simp) _) (by simp; omega) b1) (by have := b1.size; simp at this; omega) b2
  have hO1 : w.heap.size + 2 ≤ w2.heap.size := by have h1 := b1.size; have h2 := b2.size; simp at h1; omega
  obtain ⟨W0, hW0⟩ : ∃ W0, (w2.alloc (Obj.cells #[.int .u64 (fv 0), .int .u64 (fv 1), .int .u64 (fv 0)] 189)).alloc (Obj.cells #[.int .u64 (k : Int)] 22) = W0 := ⟨_, rfl⟩
  rw [hW0]
  have hsz : W0.heap.size = w2.heap.size + 2 := by rw [← hW0]; simp
  have hA : T3 W0 w.heap.size (fv X) (fv Y) (fv Z) := by rw [← hW0]; exact (tA0.alloc _).alloc _
  have hR : T3 W0 (w.heap.size + 1) 0 0 0 := by rw [← hW0]; exact (tR0.alloc _).alloc _
  have hO : T3 W0 w2.heap.size (fv 0) (fv 1) (fv 0) := by rw [← hW0]; exact (T3.new w2 _ _ _).alloc _
  have hE : W0.cell? ⟨w2.heap.size + 1, 0, none⟩ = some (.int .u64 k) := by
    rw [← hW0]
    exact (cell_new1 _ _ _ (by simp))
  have hB : Below w.heap.size w W0 := by
    rw [← hW0]
    exact (hB0.alloc hB0.size _).alloc (by simp; omega) _
  clear hW0 tA0 tR0 hB0 b1 b2
  generalize w2.heap.size = O at *
  refine wpIn_rangeFunc_ownF (F := Fence.wide) (n := 5) rfl (by omega) (gf := 180) (lb := #[.pointer (some ⟨O + 1, 0, none⟩)]) rfl trivial (enters_of Tryz.func180 (by kernel_rfl) rfl)
    (bit_stops (5 - 1) (by omega) k (O + 1) hk W0 hE (by omega)) (fun h k x => k (h x)) ?hKb (Below.refl _ _) (fun _ => rfl)
    (fun pre W => (T3 W O (fv (trB (X, Y, Z) pre).1) (fv (trB (X, Y, Z) pre).2.1) (fv (trB (X, Y, Z) pre).2.2) ∧ T3 W w.heap.size (fv X) (fv Y) (fv Z) ∧ T3 W (w.heap.size + 1) 0 0 0) ∧ Below w.heap.size w W)
    (fun _ _ _ => False)
    (OwnFrom.and (OwnFrom.and (T3.own _ _ _ _ _) (OwnFrom.and (T3.own _ _ (fun _ => fv X) (fun _ => fv Y) (fun _ => fv Z)) (T3.own _ _ (fun _ => 0) (fun _ => 0) (fun _ => 0)))) (ownFrom_below (Nat.le_refl _) (by omega)))
    (fun _ _ _ _ _ hs _ _ => hs)
    ⟨⟨hO, hA, hR⟩, hB⟩
    (fun x => { tmps := #[.agg #[.int .u64 (fv X), .int .u64 (fv Y), .int .u64 (fv Z)], .int .u64 k,
          .pointer (some ⟨w.heap.size, 0, none⟩), undef, .pointer (some ⟨w.heap.size + 1, 0, none⟩),
          .pointer (some ⟨O, 0, none⟩), .bool x, .agg #[.int .u64 0, .int .u64 0, .bool true],
          .agg #[.int .u64 (fv 0), .int .u64 (fv 1), .int .u64 (fv 0)], .int .u64 k,
          .func (Fn.func 180) #[] #[.pointer (some ⟨O + 1, 0, none⟩)], .bool x, undef, undef, undef, undef, undef, undef, undef, undef], defers := [] }) ?assign ?body ?done ?stop
  case hKb =>
    intro W l o o' hl ho hc _ hcell
    have hne : O + 1 ≠ l := by omega
    refine (World.cell?_of_block ?_).trans hcell
    exact (grownBy_putObj' W l o').block _ (World.block_lt_of_cell? W _ hcell) (fun e => hne (Option.some.inj e))
  case assign =>
    intro l x W K hK
    gi_wp2
    exact hK
  case body =>
    rintro l pre x W ⟨⟨rO, rA, rR⟩, rB⟩ _
    have e0 := trB_0 (X, Y, Z) pre
    have e1 := trB_1 (X, Y, Z) pre
    obtain ⟨⟨C1, C2, C3⟩, hc⟩ : ∃ c, c = trB (X, Y, Z) pre := ⟨_, rfl⟩
    rw [← hc] at rO e0 e1
    have T1 := trV C1 C2 C3 C1 C2 C3
    have T2 := trV (cX C1 C2 C3 C1 C2 C3) (cY C1 C2 C3 C1 C2 C3) (cZ C1 C2 C3 C1 C2 C3) X Y Z
    obtain ⟨D1, hD1⟩ : ∃ d, d = cX C1 C2 C3 C1 C2 C3 := ⟨_, rfl⟩
    obtain ⟨D2, hD2⟩ : ∃ d, d = cY C1 C2 C3 C1 C2 C3 := ⟨_, rfl⟩
    obtain ⟨D3, hD3⟩ : ∃ d, d = cZ C1 C2 C3 C1 C2 C3 := ⟨_, rfl⟩
    unfold tstep at e0 e1
    simp only at e0 e1
    rw [← hD1, ← hD2, ← hD3] at T1 T2 e0 e1
    obtain ⟨E1, hE1⟩ : ∃ d, d = cX D1 D2 D3 X Y Z := ⟨_, rfl⟩
    obtain ⟨E2, hE2⟩ : ∃ d, d = cY D1 D2 D3 X Y Z := ⟨_, rfl⟩
    obtain ⟨E3, hE3⟩ : ∃ d, d = cZ D1 D2 D3 X Y Z := ⟨_, rfl⟩
    rw [← hE1, ← hE2, ← hE3] at T2 e1
    have e0 : Hid _ := e0
    have e1 : Hid _ := e1
    clear hc hD1 hD2 hD3 hE1 hE2 hE3 hk ht
    have o0 := rO.c0
    have o1 := rO.c1
    have o2 := rO.c2
    cases x
    · gi_wp2_with fail
      refine ⟨trivial, ?_⟩
      gi_at_call 139
      refine (CallsIn.inRound l (callsIn_wide.2 (T1 _))).mono ?_
      rintro e' W1 ⟨rfl, b1⟩
      have rO1 := rO.keep b1
      have f0 := rO1.frz 0
      have f1 := rO1.frz 1
      have f2 := rO1.frz 2
      have p0 := rO1.c0
      have p1 := rO1.c1
      have p2 := rO1.c2
      gi_wp2
      refine ⟨(keeps_below b1).trans (((KeepsOthers.setCell _ _ _).trans (KeepsOthers.setCell _ _ _)).trans (KeepsOthers.setCell _ _ _)), fun hkc => ?_, ⟨⟨?_, ?_, ?_⟩, ?_⟩⟩
      · exact (setT_cell W1 O _ _ _ (by omega)).trans (keepC hkc b1)
      · rw [e0.out]; exact rO1.set _ _ _
      · exact (rA.keep b1).other (by omega) _ _ _
      · exact (rR.keep b1).other (by omega) _ _ _
      · exact setT_below (rB.trans (b1.mono rB.size)) (by omega)
    · gi_wp2_with fail
      refine ⟨trivial, ?_⟩
      gi_at_call 139
      refine (CallsIn.inRound l (callsIn_wide.2 (T1 _))).mono ?_
      rintro e' W1 ⟨rfl, b1⟩
      have rO1 := rO.keep b1
      have f0 := rO1.frz 0
      have f1 := rO1.frz 1
      have f2 := rO1.frz 2
      have p0 := rO1.c0
      have p1 := rO1.c1
      have p2 := rO1.c2
      have rO2 := rO1.set (fv D1) (fv D2) (fv D3)
      have rA2 := (rA.keep b1).other (b' := O) (by omega) (fv D1) (fv D2) (fv D3)
      have rR2 := (rR.keep b1).other (b' := O) (by omega) (fv D1) (fv D2) (fv D3)
      have rB2 := setT_below (b := O) (x := fv D1) (y := fv D2) (z := fv D3) (rB.trans (b1.mono rB.size)) (by omega)
      have k2 : KeepsOthers W (setT W1 O (fv D1) (fv D2) (fv D3)) := (keeps_below b1).trans (((KeepsOthers.setCell _ _ _).trans (KeepsOthers.setCell _ _ _)).trans (KeepsOthers.setCell _ _ _))
      have c2 : W.cell? ⟨O + 1, 0, none⟩ = some (.int .u64 k) → (setT W1 O (fv D1) (fv D2) (fv D3)).cell? ⟨O + 1, 0, none⟩ = some (.int .u64 k) := fun hkc => (setT_cell W1 O _ _ _ (by omega)).trans (keepC hkc b1)
      have q0 := rO2.c0
      have q1 := rO2.c1
      have q2 := rO2.c2
      have q3 := rA2.c0
      have q4 := rA2.c1
      have q5 := rA2.c2
      unfold setT at q0 q1 q2 q3 q4 q5
      gi_wp2_with fail
      refine ⟨trivial, ?_⟩
      gi_at_call 139
      refine (CallsIn.inRound l (callsIn_wide.2 (T2 (setT W1 O (fv D1) (fv D2) (fv D3))))).mono ?_
      rintro e' W3 ⟨rfl, b3⟩
      clear q0 q1 q2 q3 q4 q5 f0 f1 f2 p0 p1 p2 o0 o1 o2
      generalize setT W1 O (fv D1) (fv D2) (fv D3) = W2 at *
      have rO3 := rO2.keep b3
      have f0 := rO3.frz 0
      have f1 := rO3.frz 1
      have f2 := rO3.frz 2
      have p0 := rO3.c0
      have p1 := rO3.c1
      have p2 := rO3.c2
      gi_wp2
      refine ⟨k2.trans ((keeps_below b3).trans (((KeepsOthers.setCell _ _ _).trans (KeepsOthers.setCell _ _ _)).trans (KeepsOthers.setCell _ _ _))), fun hkc => ?_, ⟨⟨?_, ?_, ?_⟩, ?_⟩⟩
      · exact (setT_cell W3 O _ _ _ (by omega)).trans (keepC (c2 hkc) b3)
      · rw [e1.out]; exact rO3.set _ _ _
      · exact (rA2.keep b3).other (by omega) _ _ _
      · exact (rR2.keep b3).other (by omega) _ _ _
      · exact setT_below (rB2.trans (b3.mono rB2.size)) (by omega)
  case done =>
    rintro D xs W hD rfl ⟨⟨rO, rA, rR⟩, rB⟩ hK
    rw [← ht] at rO
    have o0 := rO.c0
    have o1 := rO.c1
    have o2 := rO.c2
    have r0 := rR.c0
    have r1 := rR.c1
    have r2 := rR.c2
    have f0 := rR.frz 0
    have f1 := rR.frz 1
    have f2 := rR.frz 2
    clear ht
    gi_wp2
    refine ⟨by simp, .inl ⟨_, _, rfl, run_takeDeferred ((((KeepsOthers.setCell W ⟨w.heap.size + 1, 0, none⟩ (.int .u64 (fv t.1))).trans (KeepsOthers.setCell _ ⟨w.heap.size + 1, 1, none⟩ (.int .u64 (fv t.2.1)))).trans (KeepsOthers.setCell _ ⟨w.heap.size + 1, 2, none⟩ (.int .u64 (fv t.2.2)))).same D _ hK rfl), ?_⟩⟩
    have rF := rR.set (fv t.1) (fv t.2.1) (fv t.2.2)
    refine ⟨.agg #[.int .u64 (fv t.1), .int .u64 (fv t.2.1), .int .u64 (fv t.2.2)], ?_, rfl, ?_⟩
    · have hne : D ≠ w.heap.size + 1 := by omega
      have rG : T3 ((setT W (w.heap.size + 1) (fv t.1) (fv t.2.1) (fv t.2.2)).putObj D (Obj.deferred none)) (w.heap.size + 1) (fv t.1) (fv t.2.1) (fv t.2.2) :=
        ((grownBy_putObj' _ D (Obj.deferred none)).block _ rF.lt (fun e => hne (Option.some.inj e).symm)).trans rF
      exact trip_res (fn := Tryz.f110) (p := 4) Tryz.results110 _ rfl rG
    · have hB3 := setT_below (b := w.heap.size + 1) (x := fv t.1) (y := fv t.2.1) (z := fv t.2.2) rB (by omega)
      exact hB3.grown (grownBy_putObj' _ D (Obj.deferred none)) hB3.size (fun k e => by cases e; omega)
  case stop =>
    rintro D c pre W _ _ h _
    exact h.elim
end Go.Proofs.YtjmhmajfkdglnaaGreatDoor
