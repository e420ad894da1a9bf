import Derived.Test.YtenggagjgmonoaaDoorH2fS
import Derived.Test.YtenggagjgmonoaaDoorH2nN
namespace Go.Proofs.YtenggagjgmonoaaDoor
open Go.RowKit
set_option linter.unusedVariables false

/-- a message and a tag that can be hashed -/
def okT (msg tag : ByteArray) : Prop := 1 ≤ tag.size ∧ tag.size ≤ 255 ∧ msg.size ≤ 65535
theorem okT_H {msg tag : ByteArray} {m : Nat} {c : Int} (h0 : m ≠ 0) (h1 : 1 ≤ c) (h2 : c ≤ 340) : okT msg tag ↔ okH msg tag m c := by
  constructor
  · rintro ⟨h3, h4, h5⟩
    exact ⟨h1, h2, h0, h3, h4, by omega, by omega, h5⟩
  · rintro ⟨-, -, -, h3, h4, -, -, h5⟩
    exact ⟨h3, h4, h5⟩
/-- the number of a message below m, the i-th of c -/
def hNum (msg tag : ByteArray) (m c i : Nat) : Nat := numL (piece (expM (byt msg) (byt tag) (24 * c)) i) % m
theorem h2f_at (msg tag : ByteArray) (m c i : Nat) (hi : i < c) : lk (h2f (byt msg) (byt tag) m c) i = (hNum msg tag m c i : Nat) := by
  unfold lk h2f hNum
  rw [List.getD_eq_getElem?_getD, List.getElem?_map, List.getElem?_range hi]
  rfl

set_option maxRecDepth 100000 in
set_option maxHeartbeats 2000000 in
theorem h2sS_yes (msg tag : ByteArray) (w : World) (h : okT msg tag) :
    Calls Tryd.prog 9 #[.string msg, .string tag] w fun e w' => e = .returned (.tuple #[.int .u64 (hNum msg tag 2305843010818082053 1 0 : Nat), .bool true]) ∧ Below w.heap.size w w' := by
  have X : ∀ w, Calls Tryd.prog 11 #[.string msg, .string tag, .int .u64 2305843010818082053, .int .i64 1] w fun e w' => ∃ g cap, e = .returned (.tuple #[.slice (some ⟨g, 0, none⟩) 1 cap, .bool true]) ∧ Row w' w.heap.size g 1 cap ((h2f (byt msg) (byt tag) 2305843010818082053 1).map (Value.int .u64)) ∧ Below w.heap.size w w' :=
    fun w => h2fS_yes msg tag 2305843010818082053 1 w (by decide) ((okT_H (by decide) (by decide) (by decide)).1 h)
  have hz := h2f_at msg tag 2305843010818082053 1 0 (by omega)
  generalize ((hNum msg tag 2305843010818082053 1 0 : Nat) : Int) = z at *
  go_enter Tryd.func9, Tryd.ntmps9
  go_wp2_with fail
  refine (X _).mono ?_
  rintro e W1 ⟨g, cap, rfl, hr, hb⟩
  have hc := hr.cell 0 (by omega)
  rw [hz] at hc
  clear X hz
  go_wp2
  go_ret2
  exact ⟨rfl, hb⟩
set_option maxRecDepth 100000 in
set_option maxHeartbeats 2000000 in
theorem h2sS_no (msg tag : ByteArray) (w : World) (h : ¬ okT msg tag) :
    Calls Tryd.prog 9 #[.string msg, .string tag] w fun e w' => e = .returned (.tuple #[.int .u64 0, .bool false]) ∧ Below w.heap.size w w' := by
  have X : ∀ w, Calls Tryd.prog 11 #[.string msg, .string tag, .int .u64 2305843010818082053, .int .i64 1] w fun e w' => ∃ g cap, e = .returned (.tuple #[.slice (some ⟨g, 0, none⟩) 0 cap, .bool false]) ∧ Row w' w.heap.size g 0 cap [] ∧ Below w.heap.size w w' :=
    fun w => h2fS_no msg tag 2305843010818082053 1 w (fun hh => h ((okT_H (by decide) (by decide) (by decide)).2 hh))
  go_enter Tryd.func9, Tryd.ntmps9
  go_wp2_with fail
  refine (X _).mono ?_
  rintro e W1 ⟨g, cap, rfl, hr, hb⟩
  clear X
  go_wp2
  go_ret2
  exact ⟨rfl, hb⟩
/-- a block of a number modulo N -/
def RN (W : World) (b : Nat) (y : Int) : Prop := W.heap[b]? = some (.cells #[.int .u64 y] 49)
theorem RN.cell {W : World} {b : Nat} {y : Int} (h : RN W b y) : W.cell? ⟨b, 0, none⟩ = some (.int .u64 y) := by unfold RN at h; simp [World.cell?, h]
theorem RN.frz {W : World} {b : Nat} {y : Int} (h : RN W b y) : W.frozen? ⟨b, 0, none⟩ = false := by unfold RN at h; simp [World.frozen?, h]
theorem RN.lt {W : World} {b : Nat} {y : Int} (h : RN W b y) : b < W.heap.size := (Array.getElem?_eq_some_iff.1 h).1
theorem RN.keep {W W' : World} {b : Nat} {y : Int} (h : RN W b y) (hb : Below W.heap.size W W') : RN W' b y := (hb.block b h.lt).trans h
theorem RN.set {W : World} {b : Nat} {y : Int} (h : RN W b y) (y' : Int) : RN (W.setCell ⟨b, 0, none⟩ (.int .u64 y')) b y' := by
  unfold RN at *
  simp [World.setCell, Array.getElem?_modify, h]
theorem RN.range {W : World} {b : Nat} {y : Int} (h : RN W b y) : W.rangeAt b 0 [.int .u64 y] := fun j v hj => by
  match j, hj with
  | 0, hj => cases hj; exact h.cell
theorem RN_res {W : World} {b : Nat} {y : Int} {fn : Func} {p u : Tmp} (h : fn.results = #[.cell p 49, .tmp u]) (tmps : Array Value) (hp : tmps.getD p undef = .pointer (some ⟨b, 0, none⟩)) (hc : RN W b y) :
    (results fn tmps).run Tryd.prog W = .ok (.tuple #[.agg #[.int .u64 y], tmps.getD u undef]) W := by
  have hp' : tmps[p]?.getD undef = .pointer (some ⟨b, 0, none⟩) := by simpa using hp
  simp [results, h, hp', asAddr, run_loadVar_mid W b 0 49 [.int .u64 y] _ hc.range Tryd.underlying49 rfl (by kernel_rfl)]
set_option maxRecDepth 100000 in
set_option maxHeartbeats 2000000 in
theorem h2sN_yes (msg tag : ByteArray) (w : World) (hT : TabK w) (h : okT msg tag) :
    Calls Tryd.prog 23 #[.string msg, .string tag] w fun e w' => e = .returned (.tuple #[.agg #[.int .u64 (hNum msg tag 2305843010818082053 1 0 : Nat)], .bool true]) ∧ Below w.heap.size w w' := by
  have X := fun w hT => h2nN_yes msg tag 1 w hT ((okT_H (by decide) (by decide) (by decide)).1 h)
  have hgw : 2 < w.heap.size := World.block_lt_of_cell? w _ (hT 0 (by omega))
  have hz := h2f_at msg tag 2305843010818082053 1 0 (by omega)
  have hll := h2f_length (byt msg) (byt tag) 2305843010818082053 1
  generalize ((hNum msg tag 2305843010818082053 1 0 : Nat) : Int) = z at *
  generalize h2f (byt msg) (byt tag) 2305843010818082053 1 = H at *
  have hr0 : RN (w.alloc (.cells #[.int .u64 0] 49)) w.heap.size 0 := heap_alloc_new w _
  have hb0 : Below w.heap.size w (w.alloc (.cells #[.int .u64 0] 49)) := (Below.refl _ _).alloc (Nat.le_refl _) _
  have hT0 : TabK (w.alloc (.cells #[.int .u64 0] 49)) := fun i hi => (hb0.cell (p := ⟨2, i, none⟩) hgw).trans (hT i hi)
  go_enter Tryd.func23, Tryd.ntmps23
  go_wp2_with fail
  refine (X _ hT0).mono ?_
  rintro e W1 ⟨v, rfl, hown, hb1⟩
  obtain ⟨g, cap, rfl⟩ : ∃ g cap, v = .slice (some ⟨g, 0, none⟩) 1 cap := by
    rcases hown.2 with ⟨_, hc⟩ | ⟨g, cap, cur, hv, _⟩
    · omega
    · exact ⟨g, cap, hv⟩
  have hc := hown.cells (g := g) rfl 0 (.int .u64 z) (by
    rw [cellsN, List.getElem?_map, ← hz]
    unfold lk
    rw [List.getD_eq_getElem?_getD, List.getElem?_eq_getElem (by omega)]
    rfl)
  rw [Addr.add_mid, Nat.zero_add] at hc
  have hr1 := hr0.keep hb1
  have hbB := hb0.trans (hb1.mono hb0.size)
  have d0 := hr1.cell
  have f0 := hr1.frz
  clear X hown hT0 hz
  go_wp2
  exact bodyPost_ret (v := .tuple #[.agg #[.int .u64 z], .bool true]) (RN_res (fn := Tryd.f23) (p := 4) (u := 5) Tryd.results23 _ rfl (hr1.set z)) rfl ⟨rfl, hbB.setCell (p := ⟨w.heap.size, 0, none⟩) (Nat.le_refl _) _⟩
set_option maxRecDepth 100000 in
set_option maxHeartbeats 2000000 in
theorem h2sN_no (msg tag : ByteArray) (w : World) (h : ¬ okT msg tag) :
    Calls Tryd.prog 23 #[.string msg, .string tag] w fun e w' => e = .returned (.tuple #[.agg #[.int .u64 0], .bool false]) ∧ Below w.heap.size w w' := by
  have X := fun w => h2nN_no msg tag 1 w (fun hh => h ((okT_H (by decide) (by decide) (by decide)).2 hh))
  have hr0 : RN (w.alloc (.cells #[.int .u64 0] 49)) w.heap.size 0 := heap_alloc_new w _
  have hb0 : Below w.heap.size w (w.alloc (.cells #[.int .u64 0] 49)) := (Below.refl _ _).alloc (Nat.le_refl _) _
  have hfo := foldN'
  go_enter Tryd.func23, Tryd.ntmps23
  go_wp2_with fail
  refine (X _).mono ?_
  rintro e W1 ⟨rfl, hb1⟩
  have hr1 := hr0.keep hb1
  have hbB := hb0.trans (hb1.mono hb0.size)
  have d0 := hr1.cell
  have f0 := hr1.frz
  clear X
  go_wp2
  exact bodyPost_ret (v := .tuple #[.agg #[.int .u64 0], .bool false]) (RN_res (fn := Tryd.f23) (p := 4) (u := 5) Tryd.results23 _ rfl (hr1.set 0)) rfl ⟨rfl, hbB.setCell (p := ⟨w.heap.size, 0, none⟩) (Nat.le_refl _) _⟩
set_option maxRecDepth 100000 in
set_option maxHeartbeats 2000000 in
theorem h2sI_of (msg tag : ByteArray) (z : Int) (b : Bool) (w : World) (L : Calls Tryd.prog 23 #[.string msg, .string tag] w fun e w' => e = .returned (.tuple #[.agg #[.int .u64 z], .bool b]) ∧ Below w.heap.size w w') :
    Calls Tryd.prog 10 #[.string msg, .string tag] w fun e w' => e = .returned (.tuple #[.int .u64 z, .bool b]) ∧ Below w.heap.size w w' := by
  go_enter Tryd.func10, Tryd.ntmps10
  go_wp2_with fail
  refine L.mono ?_
  rintro e W1 ⟨rfl, hb1⟩
  go_wp2
  go_ret2
  exact ⟨rfl, hb1.alloc hb1.size _⟩
end Go.Proofs.YtenggagjgmonoaaDoor
