import Derived.Test.YtjmhmajfkdglnaaGreatDoorMrg19
import Derived.Test.YtjmhmajfkdglnaaGreatDoorMrg33
import Derived.Test.YtjmhmajfkdglnaaGreatDoorMrg34
import Derived.Test.YtjmhmajfkdglnaaGreatDoorMrg32
import Derived.Test.YtjmhmajfkdglnaaGreatDoorMrg1
import Derived.Test.YtjmhmajfkdglnaaGreatDoorMrg13
import Derived.Test.YtjmhmajfkdglnaaGreatDoorMrg11
import Derived.Test.YtjmhmajfkdglnaaGreatDoorMrg9
import Derived.Test.YtjmhmajfkdglnaaGreatDoorMrg12
import Derived.Test.YtjmhmajfkdglnaaGreatDoorMrg20
import Derived.Deep.RegionHeld3
set_option linter.unusedVariables false
set_option maxRecDepth 100000
set_option maxHeartbeats 16000000
namespace Go.Proofs.YtjmhmajfkdglnaaGreatDoor
open Go.RowKit Go.Shelf
section
attribute [local go_sem] Oper.semAt_some
def R1n (W : World) (b : Nat) (y : Int) : Prop := W.heap[b]? = some (.cells #[.int .u64 y] 117)
section
variable {W W' : World} {b : Nat} {y : Int}
theorem R1n.cell (h : R1n W b y) : W.cell? ⟨b, 0, none⟩ = some (.int .u64 y) := by unfold R1n at h; simp [World.cell?, h]
theorem R1n.frz (h : R1n W b y) : W.frozen? ⟨b, 0, none⟩ = false := by unfold R1n at h; simp [World.frozen?, h]
theorem R1n.lt (h : R1n W b y) : b < W.heap.size := (Array.getElem?_eq_some_iff.1 h).1
theorem R1n.below {N : Nat} (h : R1n W b y) (hb : Below N W W') (hl : b < N) : R1n W' b y := (hb.block b hl).trans h
theorem R1n.keep (h : R1n W b y) (hb : Below W.heap.size W W') : R1n W' b y := h.below hb h.lt
theorem R1n.new (w : World) (y : Int) : R1n (w.alloc (.cells #[.int .u64 y] 117)) w.heap.size y := heap_alloc_new w _
theorem R1n.alloc (h : R1n W b y) (o : Obj) : R1n (W.alloc o) b y := (Below.heap_alloc W o b h.lt).trans h
theorem R1n.drew (h : R1n W b y) : R1n W.drew b y := h
theorem R1n.range (h : R1n W b y) : W.rangeAt b 0 [.int .u64 y] := fun j v hj => by
  match j, hj with
  | 0, hj => cases hj; exact h.cell
theorem R1n.at {b' : Nat} (h : R1n W b y) (e : b = b') : R1n W b' y := e ▸ h
theorem R1n.set (h : R1n W b y) (y' : Int) : R1n (W.setCell ⟨b, 0, none⟩ (.int .u64 y')) b y' := by
  unfold R1n at *
  simp [World.setCell, Array.getElem?_modify, h]
theorem R1n.other (h : R1n W b y) {b' : Nat} (hne : b ≠ b') (i : Nat) (v : Value) : R1n (W.setCell ⟨b', i, none⟩ v) b y := by
  unfold R1n at *
  rw [← h]
  simp [World.setCell, Array.getElem?_modify, Ne.symm hne]
theorem num_resN {fn : Func} {p : Tmp} (h : fn.results = #[.cell p 117]) (tmps : Array Value) (hp : tmps.getD p undef = .pointer (some ⟨b, 0, none⟩)) (hc : R1n W b y) :
    (results fn tmps).run Tryz.prog W = .ok (.agg #[.int .u64 y]) W :=
  results_mid h tmps W b 0 [.int .u64 y] _ hp hc.range Tryz.underlying117 rfl (by kernel_rfl)
end
theorem redN_one (w : World) :
    Calls Tryz.prog 173 #[.int .u64 1, .agg #[]] w fun e w' => e = .returned (.agg #[.int .u64 1]) ∧ w' = (((w.alloc (.cells #[] 115)).alloc (.cells #[.int .u64 1] 117)).alloc (.cells #[] 115)).drew := by
  have hm := mthN
  have hf := fldN
  have V := vluN
  go_enter Tryz.func173, Tryz.ntmps173
  go_wp2
  go_region_held3 (fun _ => True) (trivial) ((go_simp; go_at_call 241; refine (V _).mono ?_; rintro e w' ⟨rfl, rfl⟩))
  go_wp2
  refine bodyPost_ret (v := .agg #[.int .u64 1]) (by simp [results, Tryz.results173, go_sem]) rfl ⟨rfl, rfl⟩
theorem ngN_of (a c : Int) (w : World)
    (M : ∀ w, Calls Tryz.prog 192 #[.agg #[.int .u64 0], .agg #[.int .u64 a]] w fun e w' => e = .returned (.agg #[.int .u64 c]) ∧ Below w.heap.size w w') :
    Calls Tryz.prog 195 #[.agg #[.int .u64 a]] w fun e w' => e = .returned (.agg #[.int .u64 c]) ∧ Below w.heap.size w w' := by
  have hf := fldN
  obtain ⟨X, hX⟩ : ∃ X, X = (w.alloc (Obj.cells #[.int .u64 a] 117)).alloc (Obj.cells #[.int .u64 0] 117) := ⟨_, rfl⟩
  have hX0 : X.heap[w.heap.size]? = some (.cells #[.int .u64 a] 117) := by
    rw [hX]
    exact (Below.heap_alloc _ _ _ (by simp)).trans (heap_alloc_new w _)
  have hp1 := prtN hX0
  have hr : R1n X (w.heap.size + 1) 0 := by rw [hX]; exact (R1n.new _ 0).at (by simp)
  have hbX : Below w.heap.size w X := by rw [hX]; exact ((Below.refl _ w).alloc (Nat.le_refl _) _).alloc (by simp) _
  rw [hX] at hp1 hr hbX
  clear hX hX0
  go_enter Tryz.func195, Tryz.ntmps195
  go_wp2_with fail
  refine (M _).mono ?_
  rintro e w' ⟨rfl, hb⟩
  have hr1 := hr.keep hb
  have cc := hr1.cell
  have ff := hr1.frz
  have hb2 := keepB hbX (by simp; omega) hb
  clear hb hbX hr hp1
  go_wp2
  exact bodyPost_ret (v := .agg #[.int .u64 c]) (num_resN (fn := Tryz.f195) (p := 2) Tryz.results195 _ rfl (hr1.set c)) rfl ⟨rfl, hb2.setCell (p := ⟨w.heap.size + 1, 0, none⟩) (by simp) _⟩
theorem plN_of (a b d c : Int) (w : World)
    (N : ∀ w, Calls Tryz.prog 195 #[.agg #[.int .u64 b]] w fun e w' => e = .returned (.agg #[.int .u64 d]) ∧ Below w.heap.size w w')
    (M : ∀ w, Calls Tryz.prog 192 #[.agg #[.int .u64 a], .agg #[.int .u64 d]] w fun e w' => e = .returned (.agg #[.int .u64 c]) ∧ Below w.heap.size w w') :
    Calls Tryz.prog 184 #[.agg #[.int .u64 a], .agg #[.int .u64 b]] w fun e w' => e = .returned (.agg #[.int .u64 c]) ∧ Below w.heap.size w w' := by
  obtain ⟨X, hX⟩ : ∃ X, X = (((w.alloc (Obj.cells #[.int .u64 a] 117)).alloc (Obj.cells #[.int .u64 b] 117)).alloc (Obj.cells #[.int .u64 0] 117)).drew := ⟨_, rfl⟩
  have hr : R1n X (w.heap.size + 1 + 1) 0 := by rw [hX]; exact ((R1n.new _ 0).drew).at (by simp)
  have hbX : Below w.heap.size w X := by rw [hX]; exact ((((Below.refl _ w).alloc (Nat.le_refl _) _).alloc (by simp) _).alloc (by simp; omega) _).drew
  have hl : w.heap.size ≤ X.heap.size := hbX.size
  rw [hX] at hr hbX hl
  clear hX
  go_enter Tryz.func184, Tryz.ntmps184
  go_wp2
  go_region_held3 (fun w' => w'.cell? ⟨w.heap.size, 0, none⟩ = some (.int .u64 a) ∧ w'.cell? ⟨w.heap.size + 1, 0, none⟩ = some (.int .u64 b)) (first | exact ⟨keepC (keepC (by simp [go_sem]) b1) b2, keepC (keepC (by simp [go_sem]) b1) b2⟩ | exact ⟨keepC (by simp [go_sem]) b1, keepC (by simp [go_sem]) b1⟩ | exact ⟨keepS (keepC (keepC (by simp [go_sem]) b1) b2) (by simp; omega), keepS (keepC (keepC (by simp [go_sem]) b1) b2) (by simp)⟩ | go_keep) (first
    | (go_at_call 195; refine (N _).mono ?_; rintro e w1 ⟨rfl, b1⟩)
    | (go_at_call 192; refine (M _).mono ?_; rintro e w2 ⟨rfl, b2⟩; have hr2 := (hr.keep b1).keep b2; have cc := hr2.cell; have ff := hr2.frz))
  go_wp2
  have hb2 := keepB (keepB hbX hl b1) (Nat.le_trans hl b1.size) b2
  exact bodyPost_ret (v := .agg #[.int .u64 c]) (num_resN (fn := Tryz.f184) (p := 4) Tryz.results184 _ rfl (hr2.set c)) rfl ⟨rfl, hb2.setCell (p := ⟨w.heap.size + 1 + 1, 0, none⟩) (by simp; omega) _⟩
theorem powN_any (a e : Nat) (w : World) (ha : a < 2305843010818082053) (he : e < 18446744073709551616) :
    Calls Tryz.prog 127 #[.agg #[.int .u64 a], .int .u64 e] w fun r w' => r = .returned (.agg #[.int .u64 (a ^ e % 2305843010818082053 : Nat)]) ∧ Below w.heap.size w w' := by
  obtain ⟨res, hres⟩ : ∃ res, Hid (res = a ^ e % 2305843010818082053) := ⟨_, rfl⟩
  rw [← hres.out]
  have R := redN_one
  have B := bits_of e
  have rA0 : Rp ((w.alloc (.cells #[.int .u64 (a : Int)] 117)).alloc (.cells #[.int .u64 0] 117)) 117 w.heap.size a := (Rp.new w _ a).alloc _
  have hp1 := prtN rA0
  refine (callsIn_wide (n := 5)).1 ?_
  refine callsIn_of_wp_marks Tryz.func127 rfl trivial ?_ rfl
  simp only [Tryz.ntmps127, List.size_toArray, List.length_cons, List.length_nil, Nat.reduceAdd, Nat.reduceSub, Array.replicate_succ, Array.replicate_zero, List.push_toArray, List.append_toArray, List.nil_append, List.cons_append]
  gi_wp2_with (first
    | (refine ⟨trivial, ?_⟩; gi_at_call 173; refine (callsIn_wide.2 (R _)).mono ?_; rintro e w' ⟨rfl, rfl⟩)
    | (refine ⟨trivial, ?_⟩; gi_at_call 141; refine (callsIn_wide.2 (B _)).mono ?_; rintro e w' ⟨rfl, rfl⟩))
  clear R B hp1 rA0
  obtain ⟨W0, hW0⟩ : ∃ W0, (((((((w.alloc (Obj.cells #[Value.int IntKind.u64 (a : Int)] 117)).alloc (Obj.cells #[Value.int IntKind.u64 0] 117)).alloc
                        (Obj.cells #[] 115)).alloc
                    (Obj.cells #[Value.int IntKind.u64 1] 117)).alloc
                (Obj.cells #[] 115)).alloc
            (Obj.cells #[Value.int IntKind.u64 1] 117)).alloc
        (Obj.cells #[Value.int IntKind.u64 (e : Int)] 22)).drew = W0 := ⟨_, rfl⟩
  rw [hW0]
  have hsz : W0.heap.size = w.heap.size + 7 := by rw [← hW0]; simp
  have hA : Rp W0 117 w.heap.size a := by rw [← hW0]; exact (((((((Rp.new w _ a).alloc _).alloc _).alloc _).alloc _).alloc _).alloc _).drew
  have hR : Rp W0 117 (w.heap.size + 1) 0 := by rw [← hW0]; exact (((((((Rp.new _ _ 0).alloc _).alloc _).alloc _).alloc _).alloc _).drew).at (by simp)
  have hO : Rp W0 117 (w.heap.size + 1 + 1 + 1 + 1 + 1) 1 := by rw [← hW0]; exact (((Rp.new _ _ 1).alloc _).drew).at (by simp)
  have hE : W0.cell? ⟨w.heap.size + 1 + 1 + 1 + 1 + 1 + 1, 0, none⟩ = some (.int .u64 e) := by
    rw [← hW0]
    exact (cell_new1 _ _ _ (by simp))
  have hB : Below w.heap.size w W0 := by
    rw [← hW0]
    exact ((((((((Below.refl _ w).alloc (Nat.le_refl _) _).alloc (by simp) _).alloc (by simp; omega) _).alloc (by simp; omega) _).alloc (by simp; omega) _).alloc (by simp; omega) _).alloc (by simp; omega) _).drew
  clear hW0
  refine wpIn_rangeFunc_ownF (F := Fence.wide) (n := 5) rfl (by omega) (gf := 180) (lb := #[.pointer (some ⟨w.heap.size + 1 + 1 + 1 + 1 + 1 + 1, 0, none⟩)]) rfl trivial (enters_of Tryz.func180 (by kernel_rfl) rfl)
    (bit_stops (5 - 1) (by omega) e (w.heap.size + 1 + 1 + 1 + 1 + 1 + 1) he W0 hE (by omega)) (fun h k x => k (h x)) ?hKb (Below.refl _ _) (fun _ => rfl)
    (fun pre W => (Rp W 117 (w.heap.size + 1 + 1 + 1 + 1 + 1) (a ^ valB pre % 2305843010818082053) ∧ Rp W 117 w.heap.size a ∧ Rp W 117 (w.heap.size + 1) 0) ∧ Below w.heap.size w W)
    (fun _ _ _ => False)
    (OwnFrom.and (OwnFrom.and (Rp.own _ _ _ _) (OwnFrom.and (Rp.own _ _ _ (fun _ => a)) (Rp.own _ _ _ (fun _ => 0)))) (ownFrom_below (Nat.le_refl _) (by omega)))
    (fun _ _ _ _ _ hs _ _ => hs)
    ⟨⟨by simpa [valB] using hO, hA, hR⟩, hB⟩
    (fun x => { tmps := #[Value.agg #[Value.int IntKind.u64 (a : Int)], Value.int IntKind.u64 (e : Int),
          Value.pointer (some { block := w.heap.size, off := 0 }), undef,
          Value.pointer (some { block := w.heap.size + 1, off := 0 }),
          Value.pointer (some { block := w.heap.size + 1 + 1 + 1 + 1 + 1, off := 0 }), .bool x,
          Value.pointer (some { block := w.heap.size, off := 0 }), Value.agg #[],
          Value.agg #[Value.int IntKind.u64 1], Value.int IntKind.u64 (e : Int),
          Value.func (Fn.func 180) #[] #[Value.pointer (some { block := w.heap.size + 1 + 1 + 1 + 1 + 1 + 1, off := 0 })], .bool x,
          undef, undef, undef, undef, undef, undef, undef, undef], defers := [] }) ?assign ?body ?done ?stop
  case hKb =>
    intro W l o o' hl ho hc _ hcell
    have hne : w.heap.size + 1 + 1 + 1 + 1 + 1 + 1 ≠ l := by omega
    refine (World.cell?_of_block ?_).trans hcell
    exact (grownBy_putObj' W l o').block _ (World.block_lt_of_cell? W _ hcell) (fun e => hne (Option.some.inj e))
  case assign =>
    intro l x W K hK
    gi_wp2
    exact hK
  case body =>
    rintro l pre x W ⟨⟨rO, rA, rR⟩, rB⟩ _
    obtain ⟨c, hc⟩ : ∃ c, Hid (c = a ^ valB pre % 2305843010818082053) := ⟨_, rfl⟩
    rw [← hc.out] at rO
    have hcm : c < 2305843010818082053 := by rw [hc.out]; exact Nat.mod_lt _ (by omega)
    have T1 := fun w => timN_any c c w hcm hcm
    have hdm : c * c % 2305843010818082053 < 2305843010818082053 := Nat.mod_lt _ (by omega)
    have T2 := fun w => timN_any (c * c % 2305843010818082053) a w hdm ha
    obtain ⟨d, hd⟩ : ∃ d, Hid (d = c * c % 2305843010818082053) := ⟨_, rfl⟩
    rw [← hd.out] at T1 T2
    obtain ⟨d2, hd2⟩ : ∃ d2, Hid (d2 = d * a % 2305843010818082053) := ⟨_, rfl⟩
    rw [← hd2.out] at T2
    have o0 := rO.cell
    clear hdm hcm ha he
    cases x
    · gi_wp2_with fail
      refine ⟨trivial, ?_⟩
      gi_at_call 174
      refine (CallsIn.inRound l (callsIn_wide.2 (T1 _))).mono ?_
      rintro e' W1 ⟨rfl, b1⟩
      have rO1 := rO.below b1 rO.lt
      have f0 := rO1.frz
      have p0 := rO1.cell
      gi_wp2
      have ev : valB (pre ++ [false]) = 2 * valB pre := by rw [valB_snoc]; rfl
      refine ⟨(keeps_below b1).trans (KeepsOthers.setCell _ _ _), fun hk => ?_, ⟨⟨?_, ?_, ?_⟩, ?_⟩⟩
      · exact (set_cell W1 (w.heap.size + 1 + 1 + 1 + 1 + 1) _ (by omega)).trans ((b1.cell (p := ⟨w.heap.size + 1 + 1 + 1 + 1 + 1 + 1, 0, none⟩) (World.block_lt_of_cell? W _ hk)).trans hk)
      · rw [ev, ← pow_step0 a 2305843010818082053 c d _ hc.out hd.out]; exact rO1.set d
      · exact (rA.below b1 rA.lt).other (by omega) _
      · exact (rR.below b1 rR.lt).other (by omega) _
      · exact (rB.trans (b1.mono rB.size)).setCell (p := ⟨w.heap.size + 1 + 1 + 1 + 1 + 1, 0, none⟩) (by simp; omega) _
    · gi_wp2_with fail
      refine ⟨trivial, ?_⟩
      gi_at_call 174
      refine (CallsIn.inRound l (callsIn_wide.2 (T1 _))).mono ?_
      rintro e' W1 ⟨rfl, b1⟩
      have rO1 := rO.below b1 rO.lt
      have f0 := rO1.frz
      have p0 := rO1.cell
      have rO2 := rO1.set d
      have rA2 : Rp (W1.setCell ⟨w.heap.size + 1 + 1 + 1 + 1 + 1, 0, none⟩ (.int .u64 d)) _ _ _ := (rA.below b1 rA.lt).other (by omega) _
      have rR2 : Rp (W1.setCell ⟨w.heap.size + 1 + 1 + 1 + 1 + 1, 0, none⟩ (.int .u64 d)) _ _ _ := (rR.below b1 rR.lt).other (by omega) _
      have rB2 := (rB.trans (b1.mono rB.size)).setCell (p := ⟨w.heap.size + 1 + 1 + 1 + 1 + 1, 0, none⟩) (by simp; omega) (.int .u64 d)
      have k2 := (keeps_below b1).trans (KeepsOthers.setCell W1 ⟨w.heap.size + 1 + 1 + 1 + 1 + 1, 0, none⟩ (.int .u64 d))
      have c2 : W.cell? ⟨w.heap.size + 1 + 1 + 1 + 1 + 1 + 1, 0, none⟩ = some (.int .u64 e) → (W1.setCell ⟨w.heap.size + 1 + 1 + 1 + 1 + 1, 0, none⟩ (.int .u64 d)).cell? ⟨w.heap.size + 1 + 1 + 1 + 1 + 1 + 1, 0, none⟩ = some (.int .u64 e) := fun hk =>
        (set_cell W1 (w.heap.size + 1 + 1 + 1 + 1 + 1) _ (by omega)).trans ((b1.cell (p := ⟨w.heap.size + 1 + 1 + 1 + 1 + 1 + 1, 0, none⟩) (World.block_lt_of_cell? W _ hk)).trans hk)
      have q1 := rO2.cell
      have q3 := rA2.cell
      gi_wp2_with fail
      refine ⟨trivial, ?_⟩
      gi_at_call 174
      refine (CallsIn.inRound l (callsIn_wide.2 (T2 (W1.setCell ⟨w.heap.size + 1 + 1 + 1 + 1 + 1, 0, none⟩ (.int .u64 d))))).mono ?_
      rintro e' W3 ⟨rfl, b3⟩
      clear q1 q3 f0 p0 o0
      generalize W1.setCell ⟨w.heap.size + 1 + 1 + 1 + 1 + 1, 0, none⟩ (.int .u64 d) = W2 at *
      have rO3 := rO2.below b3 rO2.lt
      have f0 := rO3.frz
      have p0 := rO3.cell
      gi_wp2
      have ev : valB (pre ++ [true]) = 2 * valB pre + 1 := by rw [valB_snoc]; rfl
      refine ⟨k2.trans ((keeps_below b3).trans (KeepsOthers.setCell _ _ _)), fun hk => ?_, ⟨⟨?_, ?_, ?_⟩, ?_⟩⟩
      · exact (set_cell W3 (w.heap.size + 1 + 1 + 1 + 1 + 1) _ (by omega)).trans ((b3.cell (p := ⟨w.heap.size + 1 + 1 + 1 + 1 + 1 + 1, 0, none⟩) (World.block_lt_of_cell? W2 _ (c2 hk))).trans (c2 hk))
      · rw [ev, ← pow_step1 a 2305843010818082053 c d d2 _ hc.out hd.out hd2.out]; exact rO3.set d2
      · exact (rA2.below b3 rA2.lt).other (by omega) _
      · exact (rR2.below b3 rR2.lt).other (by omega) _
      · exact (rB2.trans (b3.mono rB2.size)).setCell (p := ⟨w.heap.size + 1 + 1 + 1 + 1 + 1, 0, none⟩) (by simp; omega) _
  case done =>
    rintro D xs W hD rfl ⟨⟨rO, rA, rR⟩, rB⟩ hK
    rw [valB_all e (by omega), ← hres.out] at rO
    have o0 := rO.cell
    have r0 := rR.cell
    have f0 := rR.frz
    gi_wp2
    refine ⟨by simp, .inl ⟨_, _, rfl, run_takeDeferred ((KeepsOthers.setCell W ⟨w.heap.size + 1, 0, none⟩ (.int .u64 res)).same D _ hK rfl), ?_⟩⟩
    have rF := rR.set res
    refine ⟨.agg #[.int .u64 res], ?_, rfl, ?_⟩
    · have hne : D ≠ w.heap.size + 1 := by omega
      have rG : Rp ((W.setCell ⟨w.heap.size + 1, 0, none⟩ (.int .u64 res)).putObj D (Obj.deferred none)) 117 (w.heap.size + 1) res :=
        ((grownBy_putObj' _ D (Obj.deferred none)).block _ rF.lt (fun e => hne (Option.some.inj e).symm)).trans rF
      exact results_mid (fn := Tryz.f127) (p := 4) (ty := 117) Tryz.results127 _ _ (w.heap.size + 1) 0 [.int .u64 res] _ rfl rG.range Tryz.underlying117 rfl (by kernel_rfl)
    · have hB3 := rB.setCell (p := ⟨w.heap.size + 1, 0, none⟩) (by simp) (.int .u64 res)
      exact hB3.grown (grownBy_putObj' _ D (Obj.deferred none)) hB3.size (fun k e => by cases e; omega)
  case stop =>
    rintro D c pre W _ _ h _
    exact h.elim
theorem ivN_of (a c : Int) (w : World)
    (T : ∀ w, Calls Tryz.prog 127 #[.agg #[.int .u64 a], .int .u64 2305843010818082051] w fun e w' => e = .returned (.agg #[.int .u64 c]) ∧ Below w.heap.size w w') :
    Calls Tryz.prog 97 #[.agg #[.int .u64 a]] w fun e w' => e = .returned (.agg #[.int .u64 c]) ∧ Below w.heap.size w w' := by
  have hme := mthN
  have V := vluN
  have hp : ∀ w' : World, w'.heap[w.heap.size]? = some (.cells #[.int .u64 a] 117) → (partAt ⟨w.heap.size, 0, none⟩ 0 0).run Tryz.prog w' = .ok ⟨w.heap.size, 0, none⟩ w' := fun w' h => prtN h
  obtain ⟨X, hX⟩ : ∃ X, X = ((w.alloc (Obj.cells #[.int .u64 a] 117)).alloc (Obj.cells #[.int .u64 0] 117)).drew := ⟨_, rfl⟩
  have hx : R1n X w.heap.size a := by rw [hX]; exact ((R1n.new w a).alloc _).drew
  have hr : R1n X (w.heap.size + 1) 0 := by rw [hX]; exact ((R1n.new _ 0).drew).at (by simp)
  have hbX : Below w.heap.size w X := by rw [hX]; exact (((Below.refl _ w).alloc (Nat.le_refl _) _).alloc (by simp) _).drew
  have hl : w.heap.size ≤ X.heap.size := hbX.size
  have hx1 := hx.alloc (Obj.cells #[] 115)
  have hr1 := hr.alloc (Obj.cells #[] 115)
  have hb1 := hbX.alloc hl (Obj.cells #[] 115)
  have c0 := hx.cell
  have c1 := hx1.cell
  have e0 := hx
  have e1 := hx1
  have hl1 : w.heap.size ≤ (X.alloc (Obj.cells #[] 115)).heap.size := hb1.size
  unfold R1n at e0 e1
  rw [hX] at hx hr hx1 hr1 hb1 c0 c1 e0 e1 hl1
  clear hX hbX hl
  go_enter Tryz.func97, Tryz.ntmps97
  go_wp2
  go_region_held3 (fun w' => w'.cell? ⟨w.heap.size, 0, none⟩ = some (.int .u64 a) ∧ w'.heap[w.heap.size]? = some (.cells #[.int .u64 a] 117)) (first | exact ⟨c0, e0⟩ | exact ⟨c1, e1⟩ | exact ⟨c2, e2⟩ | exact ⟨c3, e3⟩ | go_keep) ((go_simp; first
    | (go_at_call 241; refine (V _).mono ?_; rintro e w' ⟨rfl, rfl⟩)
    | (go_at_call 127; refine (T _).mono ?_; rintro e w2 ⟨rfl, b2⟩; have hx2 := hx1.keep b2; have hr2 := hr1.keep b2; have c2 := hx2.cell; have e2 := hx2; unfold R1n at e2; have cc := hr2.cell; have ff := hr2.frz; have hx3 : R1n (w2.setCell ⟨w.heap.size + 1, 0, none⟩ (.int .u64 c)) w.heap.size a := hx2.other (by simp) 0 _; have c3 := hx3.cell; have e3 := hx3; unfold R1n at e3)))
  go_wp2
  exact bodyPost_ret (v := .agg #[.int .u64 c]) (num_resN (fn := Tryz.f97) (p := 2) Tryz.results97 _ rfl (hr2.set c)) rfl ⟨rfl, (keepB hb1 hl1 b2).setCell (p := ⟨w.heap.size + 1, 0, none⟩) (by simp) _⟩
end
theorem ngN_any (b : Nat) (w : World) (hb : b < 2305843010818082053) :
    Calls Tryz.prog 195 #[.agg #[.int .u64 b]] w fun e w' => e = .returned (.agg #[.int .u64 ((0 + (2305843010818082053 - b) % 2305843010818082053) % 2305843010818082053 : Nat)]) ∧ Below w.heap.size w w' :=
  ngN_of _ _ w (fun w => mnN_any 0 b w (by decide) hb)
theorem plN_any (a b : Nat) (w : World) (ha : a < 2305843010818082053) (hb : b < 2305843010818082053) :
    Calls Tryz.prog 184 #[.agg #[.int .u64 a], .agg #[.int .u64 b]] w fun e w' => e = .returned (.agg #[.int .u64 ((a + b) % 2305843010818082053 : Nat)]) ∧ Below w.heap.size w w' := by
  have e : (a + (2305843010818082053 - (0 + (2305843010818082053 - b) % 2305843010818082053) % 2305843010818082053) % 2305843010818082053) % 2305843010818082053 = (a + b) % 2305843010818082053 := by omega
  have := plN_of (a : Int) (b : Int) _ _ w (fun w => ngN_any b w hb) (fun w => mnN_any a ((0 + (2305843010818082053 - b) % 2305843010818082053) % 2305843010818082053) w ha (Nat.mod_lt _ (by decide)))
  rwa [e] at this
theorem ivn_is' (p a k : Nat) (hk : k = p - 2) : a ^ k % p = M.ivn p a := by subst hk; rfl
theorem ivN_any (a : Nat) (w : World) (ha : a < 2305843010818082053) :
    Calls Tryz.prog 97 #[.agg #[.int .u64 a]] w fun e w' => e = .returned (.agg #[.int .u64 (M.ivn 2305843010818082053 a : Nat)]) ∧ Below w.heap.size w w' := by
  refine ivN_of (a : Int) _ w fun w => ?_
  obtain ⟨k, hk⟩ : ∃ k : Nat, k = 2305843010818082051 := ⟨_, rfl⟩
  have := powN_any a k w ha (by omega)
  rw [ivn_is' _ _ _ (by omega), show (k : Int) = 2305843010818082051 by omega] at this
  exact this
end Go.Proofs.YtjmhmajfkdglnaaGreatDoor
namespace Go.Proofs.YtjmhmajfkdglnaaGreatDoor
open Go.RowKit M
def rul0 : List Value := [.func (.func 150) #[] #[], .func (.func 151) #[] #[], .func (.func 152) #[] #[], .func (.func 153) #[] #[], .func (.func 154) #[] #[], .func (.func 155) #[] #[], .func (.func 156) #[] #[]]
def rul1 : List Value := [.func (.func 150) #[] #[], .func (.func 151) #[] #[], .func (.func 152) #[] #[], .func (.func 153) #[] #[], .func (.func 154) #[] #[], .func (.func 157) #[] #[], .func (.func 156) #[] #[]]
def rul2 : List Value := [.func (.func 158) #[] #[], .func (.func 159) #[] #[], .func (.func 160) #[] #[], .func (.func 161) #[] #[], .func (.func 162) #[] #[], .func (.func 163) #[] #[], .func (.func 164) #[] #[]]
def rulL : List Value := rul0 ++ rul1 ++ rul2
theorem rulL_len : rulL.length = 21 := by decide
theorem rulL_one : ∀ v ∈ rulL, v.oneCell' = true := by
  intro v hv
  simp only [rulL, rul0, rul1, rul2, List.mem_append, List.mem_cons, List.not_mem_nil, or_false] at hv
  rcases hv with (h | h) | h <;> rcases h with rfl | rfl | rfl | rfl | rfl | rfl | rfl <;> rfl
theorem sizeRul : (Tryz.prog.info? 203).map (·.size) = some 21 := by kernel_rfl
theorem zeroRul (w : World) : (zeroValue 203).run Tryz.prog w = .ok (.agg (List.replicate 21 Value.nilFunc).toArray) w := by kernel_rfl
theorem bldRul0 (w : World) : (Instr.build 142 #[(0, .func (.func 150) #[] #[]), (1, .func (.func 151) #[] #[]), (2, .func (.func 152) #[] #[]), (3, .func (.func 153) #[] #[]), (4, .func (.func 154) #[] #[]), (5, .func (.func 155) #[] #[]), (6, .func (.func 156) #[] #[])]).run Tryz.prog w = .ok (.agg rul0.toArray) w := run_build w _ _ _ (by kernel_rfl)
theorem bldRul1 (w : World) : (Instr.build 142 #[(0, .func (.func 150) #[] #[]), (1, .func (.func 151) #[] #[]), (2, .func (.func 152) #[] #[]), (3, .func (.func 153) #[] #[]), (4, .func (.func 154) #[] #[]), (5, .func (.func 157) #[] #[]), (6, .func (.func 156) #[] #[])]).run Tryz.prog w = .ok (.agg rul1.toArray) w := run_build w _ _ _ (by kernel_rfl)
theorem bldRul2 (w : World) : (Instr.build 142 #[(0, .func (.func 158) #[] #[]), (1, .func (.func 159) #[] #[]), (2, .func (.func 160) #[] #[]), (3, .func (.func 161) #[] #[]), (4, .func (.func 162) #[] #[]), (5, .func (.func 163) #[] #[]), (6, .func (.func 164) #[] #[])]).run Tryz.prog w = .ok (.agg rul2.toArray) w := run_build w _ _ _ (by kernel_rfl)
theorem bldRul (w : World) : (Instr.build 203 #[(0, .agg rul0.toArray), (1, .agg rul1.toArray), (2, .agg rul2.toArray)]).run Tryz.prog w = .ok (.agg rulL.toArray) w := run_build w _ _ _ (by kernel_rfl)
section
attribute [local go_sem ↓] Go.wp_at_zero Go.wp_at_succ
theorem rulI (w : World) :
    Calls Tryz.prog 120 #[] w fun e w' => e = .returned (.agg rulL.toArray) ∧ Below w.heap.size w w' := by
  have hz := zeroRul
  have h0 := bldRul0
  have h1 := bldRul1
  have h2 := bldRul2
  have h3 := bldRul
  have hr := results_mid (P := Tryz.prog) (fn := Tryz.f120) (p := 0) (ty := 203) Tryz.results120
  have hth : (w.alloc (.cells (List.replicate 21 Value.nilFunc).toArray 203)).there w.heap.size 0 21 := there_new w _ _ 21 (by simp)
  go_enter Tryz.func120, Tryz.ntmps120
  go_wp2_with (refine wpList_store_mid rfl 203 _ _ rfl w.heap.size 0 rulL.toArray rfl rfl (by simpa [rulL_len] using hth) (by rw [sizeRul]; simp [rulL_len]) (all_oneCell_toArray rulL_one) ?_)
  refine bodyPost_ret (v := .agg rulL.toArray) (hr _ _ w.heap.size 0 rulL _ rfl (World.rangeAt_setCells_same _ _ _ _ (by rw [rulL_len]; exact hth)) Tryz.underlying203 rfl (by rw [sizeRul, rulL_len])) rfl ⟨rfl, ?_⟩
  exact below_setCells ((Below.refl _ _).alloc (Nat.le_refl _) _) (Nat.le_refl _) _ _
end
theorem noInf (s : ByteArray) (w : World) :
    Calls Tryz.prog 150 #[.string s] w fun e w' => e = .returned (.bool (decide (s.size = 0))) ∧ w = w' := by
  by_cases h : s.size = 0
  · obtain rfl : s = ⟨#[]⟩ := by
      obtain ⟨a⟩ := s
      have : a = #[] := Array.eq_empty_of_size_eq_zero h
      rw [this]
    go_enter Tryz.func150, Tryz.ntmps150
    go_wp2
    go_ret
    exact ⟨rfl, rfl⟩
  · have h' : s.toList.isEmpty = false := by
      obtain ⟨a⟩ := s
      rw [ByteArray.toList_eq]
      cases ha : a.toList with
      | nil => exact absurd (by have := congrArg List.length ha; simpa [ByteArray.size] using this) h
      | cons x l => rfl
    rw [decide_eq_false h]
    clear h
    go_enter Tryz.func150, Tryz.ntmps150
    go_wp2
    go_ret
    exact ⟨rfl, rfl⟩
theorem shoInf (s : ByteArray) (w : World) :
    Calls Tryz.prog 158 #[.string s] w fun e w' => e = .returned (.bool (decide (s.size ≤ 60000))) ∧ w = w' := by
  by_cases h : (s.size : Int) ≤ 60000
  · rw [decide_eq_true (by omega)]
    go_enter Tryz.func158, Tryz.ntmps158
    go_wp2
    go_ret
    exact ⟨rfl, rfl⟩
  · rw [decide_eq_false (by omega)]
    go_enter Tryz.func158, Tryz.ntmps158
    go_wp2
    go_ret
    exact ⟨rfl, rfl⟩
theorem sizePro : (Tryz.prog.info? 144).map (·.size) = some 9 := by kernel_rfl
theorem bldPro (c s : ByteArray) (f0 f1 f2 f3 f4 f5 f6 : FuncId) (w : World) : (Instr.build 144 #[(0, .agg #[.string c, .string s]), (1, .agg #[.func (.func f0) #[] #[], .func (.func f1) #[] #[], .func (.func f2) #[] #[], .func (.func f3) #[] #[], .func (.func f4) #[] #[], .func (.func f5) #[] #[], .func (.func f6) #[] #[]])]).run Tryz.prog w = .ok (.agg #[.string c, .string s, .func (.func f0) #[] #[], .func (.func f1) #[] #[], .func (.func f2) #[] #[], .func (.func f3) #[] #[], .func (.func f4) #[] #[], .func (.func f5) #[] #[], .func (.func f6) #[] #[]]) w := run_build w _ _ _ (by kernel_rfl)
theorem pro_res {W : World} {b : Nat} {cs : Array Value} {fn : Func} {p u : Tmp} (h : fn.results = #[.cell p 144, .tmp u]) (tmps : Array Value) (hp : tmps.getD p undef = .pointer (some ⟨b, 0, none⟩)) (hc : W.rangeAt b 0 cs.toList) (hz : cs.size = 9 := by rfl) :
    (results fn tmps).run Tryz.prog W = .ok (.tuple #[.agg cs, tmps.getD u undef]) W := by
  have hp' : tmps[p]?.getD undef = .pointer (some ⟨b, 0, none⟩) := by simpa using hp
  have hl := run_loadVar_mid (P := Tryz.prog) W b 0 144 cs.toList _ hc Tryz.underlying144 rfl (by rw [sizePro, Array.length_toList, hz])
  simp [results, h, hp', asAddr, hl]
def zPro : Array Value := #[.string ⟨#[]⟩, .string ⟨#[]⟩, .nilFunc, .nilFunc, .nilFunc, .nilFunc, .nilFunc, .nilFunc, .nilFunc]
theorem proI_no (k : Int) (c info : ByteArray) (a0 a1 a2 a3 : Addr) (w : World) (hs : Sn w a0 a1 a2 a3)
    (C : ∀ w, Calls Tryz.prog 100 #[.int .i64 k] w fun e w' => e = .returned (.tuple #[.string c, .bool false]) ∧ w = w') :
    Calls Tryz.prog 78 #[.int .i64 k, .string info] w fun e w' => e = .returned (.tuple #[.agg zPro, flt ⟨#[109, 111, 100, 101]⟩ (sen a0)]) ∧ Below w.heap.size w w' := by
  have hg0 : 0 < w.heap.size := World.block_lt_of_cell? w _ hs.c0
  obtain ⟨W2, hW2⟩ : ∃ W2, W2 = w.alloc (Obj.cells #[.string ⟨#[]⟩, .string ⟨#[]⟩, .nilFunc, .nilFunc, .nilFunc, .nilFunc, .nilFunc, .nilFunc, .nilFunc] 144) := ⟨_, rfl⟩
  have hr : Bk W2 144 w.heap.size #[.string ⟨#[]⟩, .string ⟨#[]⟩, .nilFunc, .nilFunc, .nilFunc, .nilFunc, .nilFunc, .nilFunc, .nilFunc] := by rw [hW2]; exact Bk.new _ _ _
  have hb : Below w.heap.size w W2 := by rw [hW2]; exact (Below.refl _ w).alloc (Nat.le_refl _) _
  go_enter Tryz.func78, Tryz.ntmps78
  go_wp2_with fail
  refine (C _).mono ?_
  rintro e w1 ⟨rfl, rfl⟩
  go_wp2
  rw [← hW2]
  clear hW2 C
  replace hs := hs.keep hb
  have g0 : W2.drew.cell? ⟨0, 0, none⟩ = _ := hs.c0
  have n0 : 0 ∉ [w.heap.size] := fun h => absurd (List.mem_singleton.1 h) (by omega)
  have l1 : w.heap.size < W2.drew.heap.size := hr.lt
  refine G.pool_list (W := W2) [w.heap.size] [.val (.agg #[.string ⟨#[]⟩, .string ⟨#[]⟩, .nilFunc, .nilFunc, .nilFunc, .nilFunc, .nilFunc, .nilFunc, .nilFunc]),
      .val (sen a0),
      .val (.agg #[.string ⟨#[109, 111, 100, 101]⟩, sen a0]),
      .val (.iface 150 (.agg #[.string ⟨#[109, 111, 100, 101]⟩, sen a0])),
      .set (w.heap.size) (.cells #[.string ⟨#[]⟩, .string ⟨#[]⟩, .nilFunc, .nilFunc, .nilFunc, .nilFunc, .nilFunc, .nilFunc, .nilFunc] 144) (.cells #[.string ⟨#[]⟩, .string ⟨#[]⟩, .nilFunc, .nilFunc, .nilFunc, .nilFunc, .nilFunc, .nilFunc, .nilFunc] 144),
      .val (.iface 150 (.agg #[.string ⟨#[109, 111, 100, 101]⟩, sen a0]))] [[], [], [17], [18], [4, 16], [19]] (fun f => [(some 16, .agg #[.string ⟨#[]⟩, .string ⟨#[]⟩, .nilFunc, .nilFunc, .nilFunc, .nilFunc, .nilFunc, .nilFunc, .nilFunc]), (some 17, sen a0), (some 18, .agg #[.string ⟨#[109, 111, 100, 101]⟩, sen a0]), (some 19, .iface 150 (.agg #[.string ⟨#[109, 111, 100, 101]⟩, sen a0])), (none, undef), (some 5, .iface 150 (.agg #[.string ⟨#[109, 111, 100, 101]⟩, sen a0]))]) (by kernel_rfl) (by kernel_rfl) (by kernel_rfl) (by kernel_rfl) (fun _ => by kernel_rfl) (G.last_of [.cells #[.string ⟨#[]⟩, .string ⟨#[]⟩, .nilFunc, .nilFunc, .nilFunc, .nilFunc, .nilFunc, .nilFunc, .nilFunc] 144] (fun F R hm => by simp at hm) (fun ob ob' k hm => by simp at hm) (fun b ob ob' hm => by simp at hm; simp [hm])) (fun b ob ob' hm => by simp at hm; obtain ⟨rfl, rfl, -⟩ := hm; exact hr) ?_ ?_
  · intro ix hix
    match ix, hix with
    | 0, _ => exact G.ob_val [] rfl rfl (fun _ => by kernel_rfl) (fun A w _ hB => bu0_pro)
    | 1, _ => exact G.ob_val [] rfl rfl (fun _ => by kernel_rfl) (fun A w _ hB => ld_err rfl (hB.cell g0 n0))
    | 2, _ => exact G.ob_val [(17, sen a0)] rfl rfl (fun _ => by kernel_rfl) (fun A w ⟨e0, _⟩ hB => bu_flt rfl e0)
    | 3, _ => exact G.ob_val [(18, .agg #[.string ⟨#[109, 111, 100, 101]⟩, sen a0])] rfl rfl (fun _ => by kernel_rfl) (fun A w ⟨e0, _⟩ hB => mi_flt e0)
    | 4, _ => exact G.ob_set (fun f => [(4, .pointer (some ⟨w.heap.size, 0, none⟩)), (16, .agg #[.string ⟨#[]⟩, .string ⟨#[]⟩, .nilFunc, .nilFunc, .nilFunc, .nilFunc, .nilFunc, .nilFunc, .nilFunc])]) rfl rfl rfl (by simp) l1 (fun j ob1 ob2 h => by (rcases j with _ | _ | _ | _ | _ | _ | j) <;> simp [G.kindOf] at h ⊢ <;> omega) (fun _ => by kernel_rfl) (fun f A w ⟨e0, e1, _⟩ hh hr => pu_any e0 e1 hr rfl size_pro (by kernel_rfl))
    | 5, _ => exact G.ob_val [(19, .iface 150 (.agg #[.string ⟨#[109, 111, 100, 101]⟩, sen a0]))] rfl rfl (fun _ => by kernel_rfl) (fun A w ⟨e0, _⟩ hB => doV_assign e0)
    | ix + 6, h => exact absurd h (by simp)
  intro f W3 hS _ _ _ hset
  have q1 : Bk W3 144 w.heap.size zPro := hset 4 _ _ _ rfl (by decide)
  have hb3 : Below w.heap.size w W3 := hS.under hb.drew (by simp <;> omega) hb.size
  clear hset hS g0
  simp only [puts, List.foldl, Act.put, List.setIfInBounds_toArray, List.set_cons_zero, List.set_cons_succ]
  go_wp2
  exact bodyPost_ret (v := .tuple #[.agg zPro, flt ⟨#[109, 111, 100, 101]⟩ (sen a0)]) (bk_res2 (fn := Tryz.f78) (p := 4) (u := 5) Tryz.results78 _ rfl q1 Tryz.underlying144 rfl sizePro) rfl ⟨rfl, hb3⟩
section
variable (k : Int) (c info : ByteArray) (RL : Array Value) (F0 F1 F2 F3 F4 F5 F6 : FuncId) (a0 a1 a2 a3 : Addr) (w : World) (hs : Sn w a0 a1 a2 a3)
    (C : ∀ w, Calls Tryz.prog 100 #[.int .i64 k] w fun e w' => e = .returned (.tuple #[.string c, .bool true]) ∧ w = w')
    (R : ∀ w, Calls Tryz.prog 120 #[] w fun e w' => e = .returned (.agg RL) ∧ Below w.heap.size w w')
    (IX : ∀ w, (Instr.index 203 (.agg RL) (.int .i64 k)).run Tryz.prog w = .ok (.agg #[.func (.func F0) #[] #[], .func (.func F1) #[] #[], .func (.func F2) #[] #[], .func (.func F3) #[] #[], .func (.func F4) #[] #[], .func (.func F5) #[] #[], .func (.func F6) #[] #[]]) w)
    (E0 : ∀ (args : Array Value) (w : World), (callFunc F0 args).run Tryz.prog w = .ok (.enter F0 args) w)
include hs C R IX E0
theorem proI_ok (AL : ∀ w, Calls Tryz.prog F0 #[.string info] w fun e w' => e = .returned (.bool true) ∧ w = w') :
    Calls Tryz.prog 78 #[.int .i64 k, .string info] w fun e w' => e = .returned (.tuple #[.agg #[.string c, .string info, .func (.func F0) #[] #[], .func (.func F1) #[] #[], .func (.func F2) #[] #[], .func (.func F3) #[] #[], .func (.func F4) #[] #[], .func (.func F5) #[] #[], .func (.func F6) #[] #[]], .nilIface]) ∧ Below w.heap.size w w' := by
  have hg0 : 0 < w.heap.size := World.block_lt_of_cell? w _ hs.c0
  clear hs hg0
  have hB := bldPro c info F0 F1 F2 F3 F4 F5 F6
  have hr := Bk.new w 144 #[.string ⟨#[]⟩, .string ⟨#[]⟩, .nilFunc, .nilFunc, .nilFunc, .nilFunc, .nilFunc, .nilFunc, .nilFunc]
  have hb := (Below.refl _ w).alloc (Nat.le_refl _) (Obj.cells #[.string ⟨#[]⟩, .string ⟨#[]⟩, .nilFunc, .nilFunc, .nilFunc, .nilFunc, .nilFunc, .nilFunc, .nilFunc] 144)
  go_enter Tryz.func78, Tryz.ntmps78
  go_wp2_with fail
  refine (C _).mono ?_
  rintro e w1 ⟨rfl, rfl⟩
  go_wp2_with fail
  refine (R _).mono ?_
  rintro e w1 ⟨rfl, b1⟩
  have hal := (Below.refl _ w1).alloc (Nat.le_refl _) (Obj.cells #[.string c, .string info, .func (.func F0) #[] #[], .func (.func F1) #[] #[], .func (.func F2) #[] #[], .func (.func F3) #[] #[], .func (.func F4) #[] #[], .func (.func F5) #[] #[], .func (.func F6) #[] #[]] 144)
  have hr2 := Bk.new w1 144 #[.string c, .string info, .func (.func F0) #[] #[], .func (.func F1) #[] #[], .func (.func F2) #[] #[], .func (.func F3) #[] #[], .func (.func F4) #[] #[], .func (.func F5) #[] #[], .func (.func F6) #[] #[]]
  replace hr := (hr.keep b1).keep hal
  replace hb := hb.trans (b1.mono hb.size)
  replace hb := hb.trans (hal.mono hb.size)
  clear C R b1 hal
  have d2 := hr2.cell (k := 2) rfl
  go_wp2_with fail
  refine (AL _).mono ?_
  rintro e w2 ⟨rfl, rfl⟩
  clear AL d2
  have d0 := hr2.cell (k := 0) rfl
  have d1 := hr2.cell (k := 1) rfl
  have d2 := hr2.cell (k := 2) rfl
  have d3 := hr2.cell (k := 3) rfl
  have d4 := hr2.cell (k := 4) rfl
  have d5 := hr2.cell (k := 5) rfl
  have d6 := hr2.cell (k := 6) rfl
  have d7 := hr2.cell (k := 7) rfl
  have d8 := hr2.cell (k := 8) rfl
  have hth := hr.there 9 (by decide)
  go_wp2_with (refine wpList_store_mid rfl 144 _ _ rfl w.heap.size 0 #[.string c, .string info, .func (.func F0) #[] #[], .func (.func F1) #[] #[], .func (.func F2) #[] #[], .func (.func F3) #[] #[], .func (.func F4) #[] #[], .func (.func F5) #[] #[], .func (.func F6) #[] #[]] rfl rfl hth sizePro (by kernel_rfl) ?_)
  refine bodyPost_ret (v := .tuple #[.agg #[.string c, .string info, .func (.func F0) #[] #[], .func (.func F1) #[] #[], .func (.func F2) #[] #[], .func (.func F3) #[] #[], .func (.func F4) #[] #[], .func (.func F5) #[] #[], .func (.func F6) #[] #[]], .nilIface]) ?_ rfl ⟨rfl, below_setCells hb (Nat.le_refl _) _ _⟩
  exact pro_res (fn := Tryz.f78) (p := 4) (u := 5) Tryz.results78 _ rfl (World.rangeAt_setCells_same _ _ _ _ hth)
theorem proI_bad (AL : ∀ w, Calls Tryz.prog F0 #[.string info] w fun e w' => e = .returned (.bool false) ∧ w = w') :
    Calls Tryz.prog 78 #[.int .i64 k, .string info] w fun e w' => e = .returned (.tuple #[.agg zPro, flt ⟨#[105, 110, 102, 111]⟩ (sen a0)]) ∧ Below w.heap.size w w' := by
  have hg0 : 0 < w.heap.size := World.block_lt_of_cell? w _ hs.c0
  have hB := bldPro c info F0 F1 F2 F3 F4 F5 F6
  have hr := Bk.new w 144 #[.string ⟨#[]⟩, .string ⟨#[]⟩, .nilFunc, .nilFunc, .nilFunc, .nilFunc, .nilFunc, .nilFunc, .nilFunc]
  have hb := (Below.refl _ w).alloc (Nat.le_refl _) (Obj.cells #[.string ⟨#[]⟩, .string ⟨#[]⟩, .nilFunc, .nilFunc, .nilFunc, .nilFunc, .nilFunc, .nilFunc, .nilFunc] 144)
  go_enter Tryz.func78, Tryz.ntmps78
  go_wp2_with fail
  refine (C _).mono ?_
  rintro e w1 ⟨rfl, rfl⟩
  go_wp2_with fail
  refine (R _).mono ?_
  rintro e w1 ⟨rfl, b1⟩
  have hal := (Below.refl _ w1).alloc (Nat.le_refl _) (Obj.cells #[.string c, .string info, .func (.func F0) #[] #[], .func (.func F1) #[] #[], .func (.func F2) #[] #[], .func (.func F3) #[] #[], .func (.func F4) #[] #[], .func (.func F5) #[] #[], .func (.func F6) #[] #[]] 144)
  have hr2 := Bk.new w1 144 #[.string c, .string info, .func (.func F0) #[] #[], .func (.func F1) #[] #[], .func (.func F2) #[] #[], .func (.func F3) #[] #[], .func (.func F4) #[] #[], .func (.func F5) #[] #[], .func (.func F6) #[] #[]]
  replace hr := (hr.keep b1).keep hal
  replace hb := hb.trans (b1.mono hb.size)
  replace hb := hb.trans (hal.mono hb.size)
  clear C R b1 hal
  have d2 := hr2.cell (k := 2) rfl
  go_wp2_with fail
  refine (AL _).mono ?_
  rintro e w2 ⟨rfl, rfl⟩
  clear AL d2 hr2
  go_wp2
  generalize w1.alloc _ = W2 at *
  replace hs := hs.keep hb
  have g0 : W2.drew.cell? ⟨0, 0, none⟩ = _ := hs.c0
  have n0 : 0 ∉ [w.heap.size] := fun h => absurd (List.mem_singleton.1 h) (by omega)
  have l1 : w.heap.size < W2.drew.heap.size := hr.lt
  refine G.pool_list (W := W2) [w.heap.size] [.val (.agg #[.string ⟨#[]⟩, .string ⟨#[]⟩, .nilFunc, .nilFunc, .nilFunc, .nilFunc, .nilFunc, .nilFunc, .nilFunc]),
      .val (sen a0),
      .val (.agg #[.string ⟨#[105, 110, 102, 111]⟩, sen a0]),
      .val (.iface 150 (.agg #[.string ⟨#[105, 110, 102, 111]⟩, sen a0])),
      .set (w.heap.size) (.cells #[.string ⟨#[]⟩, .string ⟨#[]⟩, .nilFunc, .nilFunc, .nilFunc, .nilFunc, .nilFunc, .nilFunc, .nilFunc] 144) (.cells #[.string ⟨#[]⟩, .string ⟨#[]⟩, .nilFunc, .nilFunc, .nilFunc, .nilFunc, .nilFunc, .nilFunc, .nilFunc] 144),
      .val (.iface 150 (.agg #[.string ⟨#[105, 110, 102, 111]⟩, sen a0]))] [[], [], [34], [35], [4, 33], [36]] (fun f => [(some 33, .agg #[.string ⟨#[]⟩, .string ⟨#[]⟩, .nilFunc, .nilFunc, .nilFunc, .nilFunc, .nilFunc, .nilFunc, .nilFunc]), (some 34, sen a0), (some 35, .agg #[.string ⟨#[105, 110, 102, 111]⟩, sen a0]), (some 36, .iface 150 (.agg #[.string ⟨#[105, 110, 102, 111]⟩, sen a0])), (none, undef), (some 5, .iface 150 (.agg #[.string ⟨#[105, 110, 102, 111]⟩, sen a0]))]) (by kernel_rfl) (by kernel_rfl) (by kernel_rfl) (by kernel_rfl) (fun _ => by kernel_rfl) (G.last_of [.cells #[.string ⟨#[]⟩, .string ⟨#[]⟩, .nilFunc, .nilFunc, .nilFunc, .nilFunc, .nilFunc, .nilFunc, .nilFunc] 144] (fun F R hm => by simp at hm) (fun ob ob' k hm => by simp at hm) (fun b ob ob' hm => by simp at hm; simp [hm])) (fun b ob ob' hm => by simp at hm; obtain ⟨rfl, rfl, -⟩ := hm; exact hr) ?_ ?_
  · intro ix hix
    match ix, hix with
    | 0, _ => exact G.ob_val [] rfl rfl (fun _ => by kernel_rfl) (fun A w _ hB => bu0_pro)
    | 1, _ => exact G.ob_val [] rfl rfl (fun _ => by kernel_rfl) (fun A w _ hB => ld_err rfl (hB.cell g0 n0))
    | 2, _ => exact G.ob_val [(34, sen a0)] rfl rfl (fun _ => by kernel_rfl) (fun A w ⟨e0, _⟩ hB => bu_flt rfl e0)
    | 3, _ => exact G.ob_val [(35, .agg #[.string ⟨#[105, 110, 102, 111]⟩, sen a0])] rfl rfl (fun _ => by kernel_rfl) (fun A w ⟨e0, _⟩ hB => mi_flt e0)
    | 4, _ => exact G.ob_set (fun f => [(4, .pointer (some ⟨w.heap.size, 0, none⟩)), (33, .agg #[.string ⟨#[]⟩, .string ⟨#[]⟩, .nilFunc, .nilFunc, .nilFunc, .nilFunc, .nilFunc, .nilFunc, .nilFunc])]) rfl rfl rfl (by simp) l1 (fun j ob1 ob2 h => by (rcases j with _ | _ | _ | _ | _ | _ | j) <;> simp [G.kindOf] at h ⊢ <;> omega) (fun _ => by kernel_rfl) (fun f A w ⟨e0, e1, _⟩ hh hr => pu_any e0 e1 hr rfl size_pro (by kernel_rfl))
    | 5, _ => exact G.ob_val [(36, .iface 150 (.agg #[.string ⟨#[105, 110, 102, 111]⟩, sen a0]))] rfl rfl (fun _ => by kernel_rfl) (fun A w ⟨e0, _⟩ hB => doV_assign e0)
    | ix + 6, h => exact absurd h (by simp)
  intro f W3 hS _ _ _ hset
  have q1 : Bk W3 144 w.heap.size zPro := hset 4 _ _ _ rfl (by decide)
  have hb3 : Below w.heap.size w W3 := hS.under hb.drew (by simp <;> omega) hb.size
  clear hset hS g0
  simp only [puts, List.foldl, Act.put, List.setIfInBounds_toArray, List.set_cons_zero, List.set_cons_succ]
  go_wp2
  exact bodyPost_ret (v := .tuple #[.agg zPro, flt ⟨#[105, 110, 102, 111]⟩ (sen a0)]) (bk_res2 (fn := Tryz.f78) (p := 4) (u := 5) Tryz.results78 _ rfl q1 Tryz.underlying144 rfl sizePro) rfl ⟨rfl, hb3⟩
end
end Go.Proofs.YtjmhmajfkdglnaaGreatDoor
namespace Go.Proofs.YtjmhmajfkdglnaaGreatDoor
open Go.RowKit
end Go.Proofs.YtjmhmajfkdglnaaGreatDoor
