import Derived.Test.YtjmhmajfkdglnaaGreatDoorMrg23
import Derived.Test.YtjmhmajfkdglnaaGreatDoorMrg31
import Derived.Test.YtjmhmajfkdglnaaGreatDoorMrg18
import Derived.Test.YtjmhmajfkdglnaaGreatDoorMrg26
set_option linter.unusedVariables false
set_option maxRecDepth 100000
set_option maxHeartbeats 16000000
namespace Go.Proofs.YtjmhmajfkdglnaaGreatDoor
open Go.RowKit M
def gT : Tri := (1, 509478702933351334, false)
theorem toT_g : toPt gT.1 gT.2.1 gT.2.2 = some gG := toPt_self (X := (1 : Fp)) (Y := (509478702933351334 : Fp)) gG_on
theorem asT_g : asT gT = gG := by
  unfold asT asPt
  rw [toT_g]
  rfl
theorem onT_g : onT gT = true := by
  unfold onT
  rw [toT_g]
  rfl
noncomputable def ptT (p : Pt) : Tri := ((px p).toNat, (py p).toNat, pb p)
theorem ptT_of {p : Pt} (hp : on p) : asT (ptT p) = p ∧ px p = ((ptT p).1 : Int) ∧ py p = ((ptT p).2.1 : Int) ∧ pb p = (ptT p).2.2 ∧ onT (ptT p) = true := by
  obtain ⟨t, h1, h2, h3, h4, h5⟩ := pt_nat hp
  have e : ptT p = t := by
    obtain ⟨x, y, z⟩ := t
    unfold ptT
    rw [h2, h3, h4]
    simp
  rw [e]
  exact ⟨h1, h2, h3, h4, h5⟩
noncomputable def evaC (mode : Int) (key : Nat) (info : ByteArray) (es : List Tri) (r : Nat) : Int :=
  if txtB mode 0 info.size = true ∧ keyB key = true ∧ r < 2305843010818082053 ∧ (1 ≤ es.length ∧ es.length ≤ 200) ∧ es.all elT = true then facC mode key info else 1
noncomputable def evaE (mode : Int) (key : Nat) (info : ByteArray) (es : List Tri) : List Pt := es.map fun t => nt (facB mode key info) (asT t)
noncomputable def evaG (mode : Int) (key : Nat) (info : ByteArray) (es : List Tri) (r : Nat) : List Pt := if evaC mode key info es r = 0 then evaE mode key info es else []
noncomputable def evaL (mode : Int) (key : Nat) (info : ByteArray) (es : List Tri) (r : Nat) : List Tri := (evaG mode key info es r).map ptT
noncomputable def evaU (mode : Int) (key : Nat) (info : ByteArray) : Tri := ptT (nt (facT mode key info) gG)
noncomputable def evaK (mode : Int) (key : Nat) (info : ByteArray) (es : List Tri) (r : Nat) : Nat × Nat :=
  if evaC mode key info es r = 0 then
    (if mode = 1 then (prvC 1 (facT mode key info) r gT (evaU mode key info) es ((evaE mode key info es).map ptT), prvN 1 (facT mode key info) r gT (evaU mode key info) es ((evaE mode key info es).map ptT))
    else if mode = 2 then (prvC 2 (facT mode key info) r gT (evaU mode key info) ((evaE mode key info es).map ptT) es, prvN 2 (facT mode key info) r gT (evaU mode key info) ((evaE mode key info es).map ptT) es)
    else (0, 0))
  else (0, 0)
theorem evaE_on (mode : Int) (key : Nat) (info : ByteArray) (es : List Tri) : ∀ p ∈ evaE mode key info es, on p := fun p hp => by
  obtain ⟨t, -, rfl⟩ := List.mem_map.1 hp
  exact nt_on (asT_on t) _
theorem evaG_on (mode : Int) (key : Nat) (info : ByteArray) (es : List Tri) (r : Nat) : ∀ p ∈ evaG mode key info es r, on p := fun p hp => by
  unfold evaG at hp
  split at hp
  · exact evaE_on _ _ _ _ p hp
  · simp at hp
theorem evaE_length (mode : Int) (key : Nat) (info : ByteArray) (es : List Tri) : (evaE mode key info es).length = es.length := by simp [evaE]
theorem evaU_of (mode : Int) (key : Nat) (info : ByteArray) : asT (evaU mode key info) = nt (facT mode key info) gG ∧ onT (evaU mode key info) = true := by
  have := ptT_of (nt_on gG_on (facT mode key info))
  exact ⟨this.1, this.2.2.2.2⟩
theorem map_asT_ptT {ps : List Pt} (h : ∀ p ∈ ps, on p) : (ps.map ptT).map asT = ps := by
  rw [List.map_map]
  conv => rhs; rw [← List.map_id ps]
  exact List.map_congr_left fun p hp => (ptT_of (h p hp)).1
theorem evaC_no {mode : Int} {key : Nat} {info : ByteArray} {es : List Tri} {r : Nat} (h : ¬ (txtB mode 0 info.size = true ∧ keyB key = true ∧ r < 2305843010818082053 ∧ (1 ≤ es.length ∧ es.length ≤ 200) ∧ es.all elT = true)) : evaC mode key info es r = 1 := if_neg h
theorem evaC_yes {mode : Int} {key : Nat} {info : ByteArray} {es : List Tri} {r : Nat} (h : txtB mode 0 info.size = true ∧ keyB key = true ∧ r < 2305843010818082053 ∧ (1 ≤ es.length ∧ es.length ≤ 200) ∧ es.all elT = true) : evaC mode key info es r = facC mode key info := if_pos h
theorem eva_none {mode : Int} {key : Nat} {info : ByteArray} {es : List Tri} {r : Nat} (h : ¬ evaC mode key info es r = 0) : evaG mode key info es r = [] ∧ evaK mode key info es r = (0, 0) := ⟨if_neg h, if_neg h⟩
theorem eva_bat {mode : Int} {key : Nat} {info : ByteArray} {es : List Tri} (h : 1 ≤ es.length ∧ es.length ≤ 200) (he : es.all elT = true) :
    batB 1 gT (evaU mode key info) es ((evaE mode key info es).map ptT) = true ∧ batB 2 gT (evaU mode key info) ((evaE mode key info es).map ptT) es = true := by
  have h1 : ∀ t ∈ es, onT t = true := fun t ht => elT_on (List.all_eq_true.1 he t ht)
  have h2 : ∀ t ∈ (evaE mode key info es).map ptT, onT t = true := fun t ht => by
    obtain ⟨p, hp, rfl⟩ := List.mem_map.1 ht
    exact (ptT_of (evaE_on _ _ _ _ p hp)).2.2.2.2
  have hl : ((evaE mode key info es).map ptT).length = es.length := by rw [List.length_map, evaE_length]
  refine ⟨(batB_iff _ _ _ _ _).2 ⟨by omega, onT_g, (evaU_of mode key info).2, h, hl.symm, h1, h2⟩, (batB_iff _ _ _ _ _).2 ⟨by omega, onT_g, (evaU_of mode key info).2, by rw [hl]; exact h, hl, h2, h1⟩⟩
theorem facI_of (k z : Int) (b : Bool) (a0 a1 a2 a3 : Addr) (w : World) (hs : Sn w a0 a1 a2 a3) (hk : b = true → z = k)
    (E : ∀ w, Calls Tryz.prog 65 #[.int .u64 k, .agg #[]] w fun e w' => e = .returned (.tuple #[.agg #[.int .u64 z], .bool b]) ∧ Below w.heap.size w w') :
    Calls Tryz.prog 79 #[.int .u64 k] w fun e w' => e = .returned (.tuple #[.agg #[.int .u64 (if b = true ∧ ¬ k = 0 then k else 0)], if b = true ∧ ¬ k = 0 then .nilIface else sen a0]) ∧ Below w.heap.size w w' := by
  have hr : RN (w.alloc (.cells #[.int .u64 0] 117)) w.heap.size 0 := heap_alloc_new w _
  have hb := (Below.refl _ w).alloc (Nat.le_refl _) (Obj.cells #[.int .u64 0] 117)
  have hs1 := hs.keep hb
  by_cases h : b = true ∧ ¬ k = 0
  · rw [if_pos h, if_pos h]
    obtain ⟨rfl, h0⟩ := h
    obtain rfl := hk rfl
    have h0' : (z == 0) = false := by simpa using h0
    clear hk h0 hs1
    go_enter Tryz.func79, Tryz.ntmps79
    go_wp2_with fail
    refine (E _).mono ?_
    rintro e w1 ⟨rfl, b1⟩
    have hal := (Below.refl _ w1).alloc (Nat.le_refl _) (Obj.cells #[.int .u64 z] 117)
    have hr2 : RN (w1.alloc (.cells #[.int .u64 z] 117)) w1.heap.size z := heap_alloc_new w1 _
    replace hr := (hr.keep b1).keep hal
    replace hb := hb.trans (b1.mono hb.size)
    replace hb := hb.trans (hal.mono hb.size)
    clear E b1 hal
    have c0 := hr.cell
    have c1 := hr2.cell
    have cf := hr.frz
    go_wp2
    exact bodyPost_ret (v := .tuple #[.agg #[.int .u64 z], .nilIface]) (RN_res (fn := Tryz.f79) (p := 2) (u := 3) Tryz.results79 _ rfl (hr.set z)) rfl ⟨rfl, hb.setCell (p := ⟨w.heap.size, 0, none⟩) (Nat.le_refl _) _⟩
  · rw [if_neg h, if_neg h]
    have hg0 : 0 < w.heap.size := World.block_lt_of_cell? w _ hs.c0
    cases b with
    | false =>
      clear h hk
      go_enter Tryz.func79, Tryz.ntmps79
      go_wp2_with fail
      refine (E _).mono ?_
      rintro e w1 ⟨rfl, b1⟩
      obtain ⟨W2, hW2⟩ : ∃ W2, W2 = w1.alloc (Obj.cells #[.int .u64 z] 117) := ⟨_, rfl⟩
      have hal : Below w1.heap.size w1 W2 := by rw [hW2]; exact (Below.refl _ w1).alloc (Nat.le_refl _) _
      replace hr := (hr.keep b1).keep hal
      replace hs1 := (hs1.keep b1).keep hal
      replace hb := hb.trans (b1.mono hb.size)
      replace hb := hb.trans (hal.mono hb.size)
      clear E b1 hal
      go_wp2
      rw [← hW2]
      clear hW2
      have g0 : W2.drew.cell? ⟨0, 0, none⟩ = _ := hs1.c0
      have n0 : 0 ∉ [w.heap.size] := fun h => absurd (List.mem_singleton.1 h) (by omega)
      have l1 : w.heap.size < W2.drew.heap.size := hr.lt
      refine G.pool_list (W := W2) [w.heap.size] [.val (.agg #[.int .u64 0]),
          .val (sen a0),
          .set (w.heap.size) (.cells #[.int .u64 0] 117) (.cells #[.int .u64 0] 117),
          .val (sen a0)] [[], [], [2, 18], [19]] (fun f => [(some 18, .agg #[.int .u64 0]), (some 19, sen a0), (none, undef), (some 3, sen a0)]) (by kernel_rfl) (by kernel_rfl) (by kernel_rfl) (by kernel_rfl) (fun _ => by kernel_rfl) (G.last_of [.cells #[.int .u64 0] 117] (fun F R hm => by simp at hm) (fun ob ob' k hm => by simp at hm) (fun b ob ob' hm => by simp at hm; simp [hm])) (fun b ob ob' hm => by simp at hm; obtain ⟨rfl, rfl, -⟩ := hm; exact hr) ?_ ?_
      · intro ix hix
        match ix, hix with
        | 0, _ => exact G.ob_val [] rfl rfl (fun _ => by kernel_rfl) (fun A w _ hB => bu0_nN)
        | 1, _ => exact G.ob_val [] rfl rfl (fun _ => by kernel_rfl) (fun A w _ hB => ld_err rfl (hB.cell g0 n0))
        | 2, _ => exact G.ob_set (fun f => [(2, .pointer (some ⟨w.heap.size, 0, none⟩)), (18, .agg #[.int .u64 0])]) rfl rfl rfl (by simp) l1 (fun j ob1 ob2 h => by (rcases j with _ | _ | _ | _ | j) <;> simp [G.kindOf] at h ⊢ <;> omega) (fun _ => by kernel_rfl) (fun f A w ⟨e0, e1, _⟩ hh hr => pu_nN e0 e1 hr)
        | 3, _ => exact G.ob_val [(19, sen a0)] rfl rfl (fun _ => by kernel_rfl) (fun A w ⟨e0, _⟩ hB => doV_assign e0)
        | ix + 4, h => exact absurd h (by simp)
      intro f W3 hS _ _ _ hset
      have q1 : RN W3 w.heap.size 0 := hset 2 _ _ _ rfl (by decide)
      have hb3 : Below w.heap.size w W3 := hS.under hb.drew (by simp <;> omega) hb.size
      clear hset hS g0
      simp only [puts, List.foldl, Act.put, List.setIfInBounds_toArray, List.set_cons_zero, List.set_cons_succ]
      go_wp2
      exact bodyPost_ret (v := .tuple #[.agg #[.int .u64 0], sen a0]) (RN_res (fn := Tryz.f79) (p := 2) (u := 3) Tryz.results79 _ rfl q1) rfl ⟨rfl, hb3⟩
    | true =>
      obtain rfl := hk rfl
      have h0 : z = 0 := by simpa using h
      have h0' : (z == 0) = true := by simpa using h0
      clear h hk h0
      go_enter Tryz.func79, Tryz.ntmps79
      go_wp2_with fail
      refine (E _).mono ?_
      rintro e w1 ⟨rfl, b1⟩
      obtain ⟨W2, hW2⟩ : ∃ W2, W2 = w1.alloc (Obj.cells #[.int .u64 z] 117) := ⟨_, rfl⟩
      have hal : Below w1.heap.size w1 W2 := by rw [hW2]; exact (Below.refl _ w1).alloc (Nat.le_refl _) _
      replace hr := (hr.keep b1).keep hal
      replace hs1 := (hs1.keep b1).keep hal
      replace hb := hb.trans (b1.mono hb.size)
      replace hb := hb.trans (hal.mono hb.size)
      clear E b1 hal
      go_wp2
      rw [← hW2]
      clear hW2
      have g0 : W2.drew.cell? ⟨0, 0, none⟩ = _ := hs1.c0
      have n0 : 0 ∉ [w.heap.size] := fun h => absurd (List.mem_singleton.1 h) (by omega)
      have l1 : w.heap.size < W2.drew.heap.size := hr.lt
      refine G.pool_list (W := W2) [w.heap.size] [.val (.agg #[.int .u64 0]),
          .val (sen a0),
          .set (w.heap.size) (.cells #[.int .u64 0] 117) (.cells #[.int .u64 0] 117),
          .val (sen a0)] [[], [], [2, 18], [19]] (fun f => [(some 18, .agg #[.int .u64 0]), (some 19, sen a0), (none, undef), (some 3, sen a0)]) (by kernel_rfl) (by kernel_rfl) (by kernel_rfl) (by kernel_rfl) (fun _ => by kernel_rfl) (G.last_of [.cells #[.int .u64 0] 117] (fun F R hm => by simp at hm) (fun ob ob' k hm => by simp at hm) (fun b ob ob' hm => by simp at hm; simp [hm])) (fun b ob ob' hm => by simp at hm; obtain ⟨rfl, rfl, -⟩ := hm; exact hr) ?_ ?_
      · intro ix hix
        match ix, hix with
        | 0, _ => exact G.ob_val [] rfl rfl (fun _ => by kernel_rfl) (fun A w _ hB => bu0_nN)
        | 1, _ => exact G.ob_val [] rfl rfl (fun _ => by kernel_rfl) (fun A w _ hB => ld_err rfl (hB.cell g0 n0))
        | 2, _ => exact G.ob_set (fun f => [(2, .pointer (some ⟨w.heap.size, 0, none⟩)), (18, .agg #[.int .u64 0])]) rfl rfl rfl (by simp) l1 (fun j ob1 ob2 h => by (rcases j with _ | _ | _ | _ | j) <;> simp [G.kindOf] at h ⊢ <;> omega) (fun _ => by kernel_rfl) (fun f A w ⟨e0, e1, _⟩ hh hr => pu_nN e0 e1 hr)
        | 3, _ => exact G.ob_val [(19, sen a0)] rfl rfl (fun _ => by kernel_rfl) (fun A w ⟨e0, _⟩ hB => doV_assign e0)
        | ix + 4, h => exact absurd h (by simp)
      intro f W3 hS _ _ _ hset
      have q1 : RN W3 w.heap.size 0 := hset 2 _ _ _ rfl (by decide)
      have hb3 : Below w.heap.size w W3 := hS.under hb.drew (by simp <;> omega) hb.size
      clear hset hS g0
      simp only [puts, List.foldl, Act.put, List.setIfInBounds_toArray, List.set_cons_zero, List.set_cons_succ]
      go_wp2
      exact bodyPost_ret (v := .tuple #[.agg #[.int .u64 0], sen a0]) (RN_res (fn := Tryz.f79) (p := 2) (u := 3) Tryz.results79 _ rfl q1) rfl ⟨rfl, hb3⟩
theorem facI_any (k : Nat) (a0 a1 a2 a3 : Addr) (w : World) (hs : Sn w a0 a1 a2 a3) :
    Calls Tryz.prog 79 #[.int .u64 k] w fun e w' => e = .returned (.tuple #[.agg #[.int .u64 (if keyB k = true then (k : Int) else 0)], if keyB k = true then .nilIface else sen a0]) ∧ Below w.heap.size w w' := by
  have h := facI_of (k : Int) _ _ a0 a1 a2 a3 w hs (fun h => if_pos (of_decide_eq_true h)) (fun w => exN_any k w)
  have e : (decide (k < 2305843010818082053) = true ∧ ¬ (k : Int) = 0) ↔ keyB k = true := by rw [decide_eq_true_eq, keyB_iff]; omega
  simp only [e] at h
  exact h
end Go.Proofs.YtjmhmajfkdglnaaGreatDoor
