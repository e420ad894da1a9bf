import Derived.Test.YtaeanelfpaphiabDrwQ
import Derived.Test.YtaeanelfpaphiabPntA
namespace Go.Proofs.Ytaeanelfpaphiab
open Go.RowKit M
set_option linter.unusedVariables false

theorem R3.drew {W : World} {b : Nat} {x y : Int} {c : Bool} (h : R3 W b x y c) : R3 W.drew b x y c := h
theorem pts_res {W : World} {b b' : Nat} {x y x' y' : Int} {c c' : Bool} {fn : Func} {p u : Tmp} (h : fn.results = #[.cell p 25, .cell u 25]) (tmps : Array Value)
    (hp : tmps.getD p undef = .pointer (some ⟨b, 0, none⟩)) (hu : tmps.getD u undef = .pointer (some ⟨b', 0, none⟩)) (hc : R3 W b x y c) (hc' : R3 W b' x' y' c') :
    (results fn tmps).run Try.prog W = .ok (.tuple #[.agg #[.int .u64 x, .int .u64 y, .bool c], .agg #[.int .u64 x', .int .u64 y', .bool c']]) W := by
  have hp' : tmps[p]?.getD undef = .pointer (some ⟨b, 0, none⟩) := by simpa using hp
  have hu' : tmps[u]?.getD undef = .pointer (some ⟨b', 0, none⟩) := by simpa using hu
  simp [results, h, hp', hu', asAddr, run_loadVar_mid W b 0 25 [.int .u64 x, .int .u64 y, .bool c] _ hc.range Try.underlying25 rfl (by kernel_rfl), run_loadVar_mid W b' 0 25 [.int .u64 x', .int .u64 y', .bool c'] _ hc'.range Try.underlying25 rfl (by kernel_rfl)]
theorem tp_res {W : World} {b : Nat} {x y : Int} {c : Bool} {fn : Func} {p u : Tmp} (h : fn.results = #[.tmp u, .cell p 25]) (tmps : Array Value)
    (hp : tmps.getD p undef = .pointer (some ⟨b, 0, none⟩)) (hc : R3 W b x y c) :
    (results fn tmps).run Try.prog W = .ok (.tuple #[tmps.getD u undef, .agg #[.int .u64 x, .int .u64 y, .bool c]]) W := by
  have hp' : tmps[p]?.getD undef = .pointer (some ⟨b, 0, none⟩) := by simpa using hp
  simp [results, h, hp', asAddr, run_loadVar_mid W b 0 25 [.int .u64 x, .int .u64 y, .bool c] _ hc.range Try.underlying25 rfl (by kernel_rfl)]
set_option maxRecDepth 100000 in
set_option maxHeartbeats 2000000 in
/-- a number and a point are drawn -/
theorem dtim_any (v : Value) (w : World) (hv : Cod w v) :
    Calls Try.prog 32 #[v] w fun e w' => (∃ (k x y : Nat) (c : Bool), k < 18446744073709551616 ∧ x < 18446744073709551616 ∧ y < 18446744073709551616 ∧ e = .returned (.tuple #[.int .u64 k, .agg #[.int .u64 x, .int .u64 y, .bool c]])) ∧ Below w.heap.size w w' := by
  have hr := R3.new w 0 0 false
  have hb := (Below.refl _ w).alloc (Nat.le_refl _) (Obj.cells #[.int .u64 0, .int .u64 0, .bool false] 25)
  have hv0 := hv.below ((Below.refl w.heap.size w).alloc (Nat.le_refl _) (Obj.cells #[.int .u64 0, .int .u64 0, .bool false] 25))
  have T1 := dword_any v 0 _ hv0 (by omega)
  have T2 := fun w hv => dany_any v 10 w hv (by omega)
  go_enter Try.func32, Try.ntmps32
  go_wp2_with fail
  refine T1.mono ?_
  rintro e w1 ⟨⟨k, hk, rfl⟩, b1⟩
  have hv1 := hv0.below b1
  replace hr := hr.keep b1
  replace hb := kpB hb hb.size b1
  clear b1 T1 hv0
  go_wp2_with fail
  refine (T2 _ hv1).mono ?_
  rintro e w2 ⟨⟨x, y, c, hx, hy, rfl⟩, b1⟩
  replace hr := (hr.keep b1).alloc (Obj.cells #[.int .u64 x, .int .u64 y, .bool c] 25)
  have hlt := hr.lt
  replace hb := kpB hb hb.size b1
  replace hb := hb.alloc hb.size (Obj.cells #[.int .u64 x, .int .u64 y, .bool c] 25)
  clear b1 T2 hv1
  have c0 := hr.c0
  have c1 := hr.c1
  have c2 := hr.c2
  have f0 := hr.frz 0
  have f1 := hr.frz 1
  have f2 := hr.frz 2
  go_wp2
  go_region
  go_wp2
  exact bodyPost_ret (v := .tuple #[.int .u64 k, .agg #[.int .u64 x, .int .u64 y, .bool c]]) (tp_res (fn := Try.f32) (p := 3) (u := 2) Try.results32 _ rfl (hr.set _ _ _).drew) rfl ⟨⟨k, x, y, c, hk, hx, hy, rfl⟩, (set3_below hb (Nat.le_refl _)).drew⟩
end Go.Proofs.Ytaeanelfpaphiab
