import Derived.Test.YtjmhmajfkdglnaaDoorProg
import Derived.WalkKit
import Derived.LaidEql
import Derived.Stop.Asserts
import Derived.RowKitTokens
import Derived.Test.YtjmhmajfkdglnaaDoorMrg1
import Derived.Test.YtjmhmajfkdglnaaDoorMrg6
import Derived.Stop.LaidTwo
/-
  The program's errors: errors.Is of a fault that wraps a sentinel, codeOf.
-/
namespace Go.Proofs.YtjmhmajfkdglnaaDoor
open Go.RowKit Go.Extern.Stop Go.Stop Go.Extern
set_option linter.unusedVariables false

theorem isCallC (w : World) : (callFunc 103 #[.agg #[.pointer (some ⟨11, 145, none⟩)]]).run Tryd.prog w = .ok (.value (.bool true)) w := by kernel_rfl
theorem isCallT (v : Value) (w : World) : (callFunc 30 #[.iface 145 v]).run Tryd.prog w = .ok (.value (.iface 92 (.agg #[.pointer (some ⟨11, 145, none⟩)]))) w := by kernel_rfl
theorem isMethodComparable (v : Value) (w : World) : (Go.method 279 92 v "Comparable").run Tryd.prog w = .ok (103, v) w := by kernel_rfl
theorem isComp : (Tryd.prog.info? 145).map (·.comparable) = some true := by kernel_rfl
theorem isSize : (Tryd.prog.info? 168).map (·.size) = some 1 := by kernel_rfl
theorem noIsE (v : Value) (xT : TypeId) (w : World) : (Instr.typeAssert (.iface 145 v) xT 94 true).run Tryd.prog w = .ok (.tuple #[.nilIface, .bool false]) w := run_typeAssert_lacksB Tryd.underlying94 (by kernel_rfl) (by kernel_rfl) v xT w
theorem noUnwrapE (v : Value) (xT : TypeId) (w : World) : (Instr.typeAssert (.iface 145 v) xT 97 true).run Tryd.prog w = .ok (.tuple #[.nilIface, .bool false]) w := run_typeAssert_lacksB Tryd.underlying97 (by kernel_rfl) (by kernel_rfl) v xT w
theorem noUnwrapsE (v : Value) (xT : TypeId) (w : World) : (Instr.typeAssert (.iface 145 v) xT 99 true).run Tryd.prog w = .ok (.tuple #[.nilIface, .bool false]) w := run_typeAssert_lacksB Tryd.underlying99 (by kernel_rfl) (by kernel_rfl) v xT w
theorem noIsW (v : Value) (xT : TypeId) (w : World) : (Instr.typeAssert (.iface 45 v) xT 94 true).run Tryd.prog w = .ok (.tuple #[.nilIface, .bool false]) w := run_typeAssert_lacksB Tryd.underlying94 (by kernel_rfl) (by kernel_rfl) v xT w
theorem hasUnwrapW (v : Value) (xT : TypeId) (w : World) : (Instr.typeAssert (.iface 45 v) xT 97 true).run Tryd.prog w = .ok (.tuple #[.iface 45 v, .bool true]) w := run_typeAssert_hasB Tryd.underlying97 (by kernel_rfl) v xT w
theorem methodUnwrap (v : Value) (w : World) : (Go.method 279 45 v "Unwrap").run Tryd.prog w = .ok (94, v) w := by kernel_rfl

/-- one of the errors that were made once -/
def sen (a : Addr) : Value := .iface 145 (.pointer (some a))
/-- an error with where it came up -/
def flt (s : ByteArray) (v : Value) : Value := .iface 45 (.agg #[.string s, v])
set_option maxRecDepth 100000 in
theorem unwI (s : ByteArray) (v : Value) (w : World) :
    Calls Tryd.prog 94 #[.agg #[.string s, v]] w fun e w' => e = .returned v ∧ Below w.heap.size w w' := by
  go_enter Tryd.func94, Tryd.ntmps94
  go_wp2
  go_ret
  exact ⟨rfl, (Below.refl _ w).alloc (Nat.le_refl _) _⟩
set_option maxRecDepth 100000 in
theorem is1_same (s : ByteArray) (b : Addr) (w : World) :
    Calls Tryd.prog 21 #[flt s (sen b), sen b] w fun e w' => e = .returned (.bool true) ∧ Below w.heap.size w w' := by
  unfold flt sen
  obtain ⟨i, hi, hcmp⟩ := Option.map_eq_some_iff.1 isComp
  obtain ⟨j, hj, hjs⟩ := Option.map_eq_some_iff.1 isSize
  have h8 := isCallT
  have h32 := isCallC
  have mR := isMethodComparable
  have nW := noIsW
  have uW := hasUnwrapW
  have mU := methodUnwrap
  have U := unwI s (.iface 145 (.pointer (some b)))
  have heq := fun w => run_eql_iface_ptr_same (P := Tryd.prog) w b Tryd.underlying34 Tryd.underlying145 hi hcmp hj
  have hty := fun w => run_eql_iface_types (P := Tryd.prog) 45 145 (.agg #[.string s, .iface 145 (.pointer (some b))]) (.pointer (some b)) Tryd.underlying34 (by decide) w
  go_enter Tryd.func21, Tryd.ntmps21
  go_wp2
  refine wp_loop_rounds 2 ?_
  rw [rounds_succ]
  go_wp2_with fail
  refine (U _).mono ?_
  rintro e w1 ⟨rfl, b1⟩
  go_wp2
  rw [rounds_succ]
  go_wp2
  go_ret
  exact ⟨rfl, b1⟩
set_option maxRecDepth 100000 in
theorem is1_other (s : ByteArray) (a b : Addr) (ca cb : Array Value) (ta tb : TypeId) (w : World) (hne : a ≠ b) (ha : w.heap[a.block]? = some (.cells ca ta (0, 0))) (hb : w.heap[b.block]? = some (.cells cb tb (0, 0))) :
    Calls Tryd.prog 21 #[flt s (sen a), sen b] w fun e w' => e = .returned (.bool false) ∧ Below w.heap.size w w' := by
  unfold flt sen
  obtain ⟨i, hi, hcmp⟩ := Option.map_eq_some_iff.1 isComp
  obtain ⟨j, hj, hjs⟩ := Option.map_eq_some_iff.1 isSize
  have h8 := isCallT
  have h32 := isCallC
  have mR := isMethodComparable
  have nE := noIsE
  have uE := noUnwrapE
  have vE := noUnwrapsE
  have nW := noIsW
  have uW := hasUnwrapW
  have mU := methodUnwrap
  have U := unwI s (.iface 145 (.pointer (some a)))
  have hty := fun w => run_eql_iface_types (P := Tryd.prog) 45 145 (.agg #[.string s, .iface 145 (.pointer (some a))]) (.pointer (some b)) Tryd.underlying34 (by decide) w
  go_enter Tryd.func21, Tryd.ntmps21
  go_wp2
  refine wp_loop_rounds 2 ?_
  rw [rounds_succ]
  go_wp2_with fail
  refine (U _).mono ?_
  rintro e w1 ⟨rfl, b1⟩
  have heq := run_eql_iface_ptr_other (P := Tryd.prog) w1 Tryd.underlying34 Tryd.underlying145 hi hcmp hj (by rw [hjs]; decide) hne ((b1.block _ (Array.getElem?_eq_some_iff.1 ha).1).trans ha) ((b1.block _ (Array.getElem?_eq_some_iff.1 hb).1).trans hb)
  go_wp2
  rw [rounds_succ]
  go_wp2
  go_ret
  exact ⟨rfl, b1⟩
set_option maxRecDepth 100000 in
theorem is2_other (s t : ByteArray) (a b : Addr) (ca cb : Array Value) (ta tb : TypeId) (w : World) (hne : a ≠ b) (ha : w.heap[a.block]? = some (.cells ca ta (0, 0))) (hb : w.heap[b.block]? = some (.cells cb tb (0, 0))) :
    Calls Tryd.prog 21 #[flt s (flt t (sen a)), sen b] w fun e w' => e = .returned (.bool false) ∧ Below w.heap.size w w' := by
  unfold flt sen
  obtain ⟨i, hi, hcmp⟩ := Option.map_eq_some_iff.1 isComp
  obtain ⟨j, hj, hjs⟩ := Option.map_eq_some_iff.1 isSize
  have h8 := isCallT
  have h32 := isCallC
  have mR := isMethodComparable
  have nE := noIsE
  have uE := noUnwrapE
  have vE := noUnwrapsE
  have nW := noIsW
  have uW := hasUnwrapW
  have mU := methodUnwrap
  have U := unwI t (.iface 145 (.pointer (some a)))
  have U2 := unwI s (.iface 45 (.agg #[.string t, .iface 145 (.pointer (some a))]))
  have hty := fun w => run_eql_iface_types (P := Tryd.prog) 45 145 (.agg #[.string t, .iface 145 (.pointer (some a))]) (.pointer (some b)) Tryd.underlying34 (by decide) w
  have hty2 := fun w => run_eql_iface_types (P := Tryd.prog) 45 145 (.agg #[.string s, .iface 45 (.agg #[.string t, .iface 145 (.pointer (some a))])]) (.pointer (some b)) Tryd.underlying34 (by decide) w
  go_enter Tryd.func21, Tryd.ntmps21
  go_wp2
  refine wp_loop_rounds 3 ?_
  rw [rounds_succ]
  go_wp2_with fail
  refine (U2 _).mono ?_
  rintro e w1 ⟨rfl, b1⟩
  go_wp2
  rw [rounds_succ]
  go_wp2_with fail
  refine (U _).mono ?_
  rintro e w2 ⟨rfl, b2⟩
  replace b1 := b1.trans (b2.mono b1.size)
  have heq := run_eql_iface_ptr_other (P := Tryd.prog) w2 Tryd.underlying34 Tryd.underlying145 hi hcmp hj (by rw [hjs]; decide) hne ((b1.block _ (Array.getElem?_eq_some_iff.1 ha).1).trans ha) ((b1.block _ (Array.getElem?_eq_some_iff.1 hb).1).trans hb)
  go_wp2
  rw [rounds_succ]
  go_wp2
  go_ret
  exact ⟨rfl, b1⟩
/-- where the four errors lie -/
structure Sn (w : World) (a0 a1 a2 a3 : Addr) : Prop where
  c0 : w.cell? ⟨0, 0, none⟩ = some (sen a0)
  c1 : w.cell? ⟨2, 0, none⟩ = some (sen a1)
  c2 : w.cell? ⟨1, 0, none⟩ = some (sen a2)
  c3 : w.cell? ⟨3, 0, none⟩ = some (sen a3)
  b0 : ∃ cs t, w.heap[a0.block]? = some (.cells cs t (0, 0))
  b1 : ∃ cs t, w.heap[a1.block]? = some (.cells cs t (0, 0))
  b2 : ∃ cs t, w.heap[a2.block]? = some (.cells cs t (0, 0))
  b3 : ∃ cs t, w.heap[a3.block]? = some (.cells cs t (0, 0))
  n01 : a0 ≠ a1
  n02 : a0 ≠ a2
  n03 : a0 ≠ a3
  n12 : a1 ≠ a2
  n13 : a1 ≠ a3
  n23 : a2 ≠ a3
theorem Sn.keep {w w' : World} {a0 a1 a2 a3 : Addr} (h : Sn w a0 a1 a2 a3) (hb : Below w.heap.size w w') : Sn w' a0 a1 a2 a3 := by
  have hc : ∀ (p : Addr) (v : Value), w.cell? p = some v → w'.cell? p = some v := fun p v hv => (hb.cell (p := p) (World.block_lt_of_cell? w _ hv)).trans hv
  have hk : ∀ (p : Addr), (∃ cs t, w.heap[p.block]? = some (.cells cs t (0, 0))) → ∃ cs t, w'.heap[p.block]? = some (.cells cs t (0, 0)) := fun p ⟨cs, t, hv⟩ => ⟨cs, t, (hb.block _ (Array.getElem?_eq_some_iff.1 hv).1).trans hv⟩
  exact ⟨hc _ _ h.c0, hc _ _ h.c1, hc _ _ h.c2, hc _ _ h.c3, hk _ h.b0, hk _ h.b1, hk _ h.b2, hk _ h.b3, h.n01, h.n02, h.n03, h.n12, h.n13, h.n23⟩
theorem Sn.keep' {w w' w'' : World} {a0 a1 a2 a3 : Addr} (h : Sn w a0 a1 a2 a3) (hb : Below w.heap.size w w') (hb' : Below w'.heap.size w' w'') : Sn w'' a0 a1 a2 a3 := (h.keep hb).keep hb'
set_option maxRecDepth 100000 in
theorem cdI_of (v : Value) (a0 a1 a2 a3 : Addr) (x y z : Bool) (w : World) (h : Sn w a0 a1 a2 a3)
    (I1 : ∀ w, Sn w a0 a1 a2 a3 → Calls Tryd.prog 21 #[v, sen a1] w fun e w' => e = .returned (.bool x) ∧ Below w.heap.size w w')
    (I2 : ∀ w, Sn w a0 a1 a2 a3 → Calls Tryd.prog 21 #[v, sen a2] w fun e w' => e = .returned (.bool y) ∧ Below w.heap.size w w')
    (I3 : ∀ w, Sn w a0 a1 a2 a3 → Calls Tryd.prog 21 #[v, sen a3] w fun e w' => e = .returned (.bool z) ∧ Below w.heap.size w w') :
    Calls Tryd.prog 13 #[v] w fun e w' => e = .returned (.int .i64 (if x then 2 else if y then 3 else if z then 4 else 1)) ∧ Below w.heap.size w w' := by
  have k1 := h.c1
  cases x with
  | true =>
    clear I2 I3
    go_enter Tryd.func13, Tryd.ntmps13
    go_wp2_with fail
    refine (I1 _ h).mono ?_
    rintro e w1 ⟨rfl, b1⟩
    clear I1 k1
    go_wp2
    go_ret
    exact ⟨rfl, b1⟩
  | false =>
    cases y with
    | true =>
      clear I3
      go_enter Tryd.func13, Tryd.ntmps13
      go_wp2_with fail
      refine (I1 _ h).mono ?_
      rintro e w1 ⟨rfl, b1⟩
      replace h := h.keep b1
      clear I1 k1
      have k2 := h.c2
      go_wp2_with fail
      refine (I2 _ h).mono ?_
      rintro e w2 ⟨rfl, b2⟩
      replace b1 := b1.trans (b2.mono b1.size)
      clear I2 k2
      go_wp2
      go_ret
      exact ⟨rfl, b1⟩
    | false =>
      go_enter Tryd.func13, Tryd.ntmps13
      go_wp2_with fail
      refine (I1 _ h).mono ?_
      rintro e w1 ⟨rfl, b1⟩
      replace h := h.keep b1
      clear I1 k1
      have k2 := h.c2
      go_wp2_with fail
      refine (I2 _ h).mono ?_
      rintro e w2 ⟨rfl, b2⟩
      replace b1 := b1.trans (b2.mono b1.size)
      replace h := h.keep b2
      clear I2 k2 b2
      have k3 := h.c3
      go_wp2_with fail
      refine (I3 _ h).mono ?_
      rintro e w3 ⟨rfl, b2⟩
      replace b1 := b1.trans (b2.mono b1.size)
      clear I3 k3
      cases z
      · go_wp2
        go_ret
        exact ⟨rfl, b1⟩
      · go_wp2
        go_ret
        exact ⟨rfl, b1⟩
/-- an error, and its code -/
def Er (a0 a1 a2 a3 : Addr) (v : Value) (c : Int) : Prop := (∃ T x, v = .iface T x) ∧ ∀ w, Sn w a0 a1 a2 a3 → Calls Tryd.prog 13 #[v] w fun e w' => e = .returned (.int .i64 c) ∧ Below w.heap.size w w'
section
variable {a0 a1 a2 a3 : Addr}
theorem isN {a b : Addr} (s : ByteArray) (w : World) (hne : a ≠ b) (ha : ∃ cs t, w.heap[a.block]? = some (.cells cs t (0, 0))) (hb : ∃ cs t, w.heap[b.block]? = some (.cells cs t (0, 0))) :
    Calls Tryd.prog 21 #[flt s (sen a), sen b] w fun e w' => e = .returned (.bool false) ∧ Below w.heap.size w w' := by
  obtain ⟨ca, ta, ha⟩ := ha
  obtain ⟨cb, tb, hb⟩ := hb
  exact is1_other s a b ca cb ta tb w hne ha hb
theorem isN2 {a b : Addr} (s t : ByteArray) (w : World) (hne : a ≠ b) (ha : ∃ cs t, w.heap[a.block]? = some (.cells cs t (0, 0))) (hb : ∃ cs t, w.heap[b.block]? = some (.cells cs t (0, 0))) :
    Calls Tryd.prog 21 #[flt s (flt t (sen a)), sen b] w fun e w' => e = .returned (.bool false) ∧ Below w.heap.size w w' := by
  obtain ⟨ca, ta, ha⟩ := ha
  obtain ⟨cb, tb, hb⟩ := hb
  exact is2_other s t a b ca cb ta tb w hne ha hb
theorem er_args (s : ByteArray) : Er a0 a1 a2 a3 (flt s (sen a0)) 1 := ⟨⟨_, _, rfl⟩, fun w h => cdI_of _ a0 a1 a2 a3 false false false w h (fun w h => isN s w h.n01 h.b0 h.b1) (fun w h => isN s w h.n02 h.b0 h.b2) (fun w h => isN s w h.n03 h.b0 h.b3)⟩
theorem er_group (s : ByteArray) : Er a0 a1 a2 a3 (flt s (sen a1)) 2 := ⟨⟨_, _, rfl⟩, fun w h => cdI_of _ a0 a1 a2 a3 true false false w h (fun w h => is1_same s a1 w) (fun w h => isN s w h.n12 h.b1 h.b2) (fun w h => isN s w h.n13 h.b1 h.b3)⟩
theorem er_inv (s : ByteArray) : Er a0 a1 a2 a3 (flt s (sen a2)) 3 := ⟨⟨_, _, rfl⟩, fun w h => cdI_of _ a0 a1 a2 a3 false true false w h (fun w h => isN s w h.n12.symm h.b2 h.b1) (fun w h => is1_same s a2 w) (fun w h => isN s w h.n23 h.b2 h.b3)⟩
theorem er_ver (s : ByteArray) : Er a0 a1 a2 a3 (flt s (sen a3)) 4 := ⟨⟨_, _, rfl⟩, fun w h => cdI_of _ a0 a1 a2 a3 false false true w h (fun w h => isN s w h.n13.symm h.b3 h.b1) (fun w h => isN s w h.n23.symm h.b3 h.b2) (fun w h => is1_same s a3 w)⟩
theorem er_args2 (s t : ByteArray) : Er a0 a1 a2 a3 (flt s (flt t (sen a0))) 1 := ⟨⟨_, _, rfl⟩, fun w h => cdI_of _ a0 a1 a2 a3 false false false w h (fun w h => isN2 s t w h.n01 h.b0 h.b1) (fun w h => isN2 s t w h.n02 h.b0 h.b2) (fun w h => isN2 s t w h.n03 h.b0 h.b3)⟩
end
end Go.Proofs.YtjmhmajfkdglnaaDoor

/-
  What the cards of chapter 6 share: eight listed variables, four of them errors.
-/
namespace Go.Proofs.YtjmhmajfkdglnaaDoor
open Go.ChangeShapes Go.WideShapes Go.ChangeAt Go.RowKit Go.Deep
set_option linter.unusedVariables false

theorem gE0 : Tryd.prog.globalNamed "loop.example/s02095/impl.errArgs" = some 0 := by kernel_rfl
theorem gE1 : Tryd.prog.globalNamed "loop.example/s02095/impl.errGroup" = some 2 := by kernel_rfl
theorem gE2 : Tryd.prog.globalNamed "loop.example/s02095/impl.errInverse" = some 1 := by kernel_rfl
theorem gE3 : Tryd.prog.globalNamed "loop.example/s02095/impl.errVerify" = some 3 := by kernel_rfl
theorem gE0T : (Tryd.prog.globals[0]?).map (·.type) = some 34 := by kernel_rfl
theorem gE1T : (Tryd.prog.globals[2]?).map (·.type) = some 34 := by kernel_rfl
theorem gE2T : (Tryd.prog.globals[1]?).map (·.type) = some 34 := by kernel_rfl
theorem gE3T : (Tryd.prog.globals[3]?).map (·.type) = some 34 := by kernel_rfl
theorem cellsES : Tryd.prog.cellsOf 168 = 1 := by kernel_rfl
theorem cellsSt : Tryd.prog.cellsOf 9 = 1 := by kernel_rfl
theorem starE : "*" ++ "errors.errorString" = "*errors.errorString" := by decide
theorem rowE (u : TypeId) (h : Tryd.prog.typeName? 3 u = some "*errors.errorString") : u = 145 :=
  typeName_ptr_named (nm := "errors.errorString") (by rw [starE]; kernel_rfl) (by kernel_rfl) (by decide) u (by rw [starE]; exact h)
theorem sen_inj {a b : Addr} (h : sen a = sen b) : a = b := by unfold sen at h; simpa using h
/-- two errors of the list -/
theorem pairE {W : World} {n0 n1 : String} {g0 g1 : Nat} {t0 t1 : List UInt8} (h : laidMetH Tryd.prog [(n0, .iface "*errors.errorString" (.ptr (.agg [.lit (.string t0)]))), (n1, .iface "*errors.errorString" (.ptr (.agg [.lit (.string t1)])))] W)
    (hg0 : Tryd.prog.globalNamed n0 = some g0) (ht0 : (Tryd.prog.globals[g0]?).map (·.type) = some 34) (hg1 : Tryd.prog.globalNamed n1 = some g1) (ht1 : (Tryd.prog.globals[g1]?).map (·.type) = some 34) :
    ∃ a0 a1, W.cell? ⟨g0, 0, none⟩ = some (sen a0) ∧ W.cell? ⟨g1, 0, none⟩ = some (sen a1) ∧ a0 ≠ a1 ∧ (∃ cs t, W.heap[a0.block]? = some (.cells cs t (0, 0))) ∧ ∃ cs t, W.heap[a1.block]? = some (.cells cs t (0, 0)) := by
  have h1 : laidMet Tryd.prog [(n0, .iface "*errors.errorString" (.ptr (.agg [.lit (.string t0)]))), (n1, .iface "*errors.errorString" (.ptr (.agg [.lit (.string t1)])))] W := h
  obtain ⟨a0, a1, s0, s1, c0, c1, u0, u1, hv0, hv1, -, -, -, -, -, -, hne, hb0, hb1⟩ := laid_sentinels2 h1 hg0 ht0 hg1 ht1 Tryd.underlying34 rowE Tryd.underlying145 Tryd.underlying168 rfl rfl Tryd.underlying9 cellsES cellsSt
  exact ⟨a0, a1, by unfold sen; simpa using World.var?_cell hg0 hv0 0, by unfold sen; simpa using World.var?_cell hg1 hv1 0, hne, ⟨_, _, hb0⟩, ⟨_, _, hb1⟩⟩
def laid8 : List (String × DataW Unit) := [("math/bits.deBruijn32tab", Rows.laid_math_bits_deBruijn32tab), ("math/bits.deBruijn64tab", Rows.laid_math_bits_deBruijn64tab), ("internal/strconv.uint64pow10", Rows.laid_internal_strconv_uint64pow10), ("loop.example/s02095/impl.roundWords", Rows.laid_loop_example_s02095_impl_roundWords), ("loop.example/s02095/impl.errArgs", Rows.laid_loop_example_s02095_impl_errArgs), ("loop.example/s02095/impl.errGroup", Rows.laid_loop_example_s02095_impl_errGroup), ("loop.example/s02095/impl.errInverse", Rows.laid_loop_example_s02095_impl_errInverse), ("loop.example/s02095/impl.errVerify", Rows.laid_loop_example_s02095_impl_errVerify)]
theorem pick2 {W : World} (h : laidMetH Tryd.prog laid8 W) (n0 n1 : String) (d0 d1 : DataW Unit) (e : laid8.filter (fun x => x.1 == n0 || x.1 == n1) = [(n0, d0), (n1, d1)]) : laidMetH Tryd.prog [(n0, d0), (n1, d1)] W := by
  have h1 := laidMetH.filter (fun x => x.1 == n0 || x.1 == n1) h
  rw [e] at h1
  exact h1
/-- WHAT THE ROW's LIST GIVES OF THE ERRORS. -/
theorem sn_of {W : World} (h : laidMetH Tryd.prog laid8 W) : ∃ a0 a1 a2 a3, Sn W a0 a1 a2 a3 := by
  obtain ⟨a0, a1, c0, c1, n01, b0, b1⟩ := pairE (pick2 h "loop.example/s02095/impl.errArgs" "loop.example/s02095/impl.errGroup" Rows.laid_loop_example_s02095_impl_errArgs Rows.laid_loop_example_s02095_impl_errGroup (by kernel_rfl)) gE0 gE0T gE1 gE1T
  obtain ⟨x0, a2, y0, c2, n02, -, b2⟩ := pairE (pick2 h "loop.example/s02095/impl.errArgs" "loop.example/s02095/impl.errInverse" Rows.laid_loop_example_s02095_impl_errArgs Rows.laid_loop_example_s02095_impl_errInverse (by kernel_rfl)) gE0 gE0T gE2 gE2T
  obtain ⟨z0, a3, v0, c3, n03, -, b3⟩ := pairE (pick2 h "loop.example/s02095/impl.errArgs" "loop.example/s02095/impl.errVerify" Rows.laid_loop_example_s02095_impl_errArgs Rows.laid_loop_example_s02095_impl_errVerify (by kernel_rfl)) gE0 gE0T gE3 gE3T
  obtain ⟨p1, p2, q1, q2, n12, -, -⟩ := pairE (pick2 h "loop.example/s02095/impl.errGroup" "loop.example/s02095/impl.errInverse" Rows.laid_loop_example_s02095_impl_errGroup Rows.laid_loop_example_s02095_impl_errInverse (by kernel_rfl)) gE1 gE1T gE2 gE2T
  obtain ⟨r1, r3, s1, s3, n13, -, -⟩ := pairE (pick2 h "loop.example/s02095/impl.errGroup" "loop.example/s02095/impl.errVerify" Rows.laid_loop_example_s02095_impl_errGroup Rows.laid_loop_example_s02095_impl_errVerify (by kernel_rfl)) gE1 gE1T gE3 gE3T
  obtain ⟨t2, t3, u2, u3, n23, -, -⟩ := pairE (pick2 h "loop.example/s02095/impl.errInverse" "loop.example/s02095/impl.errVerify" Rows.laid_loop_example_s02095_impl_errInverse Rows.laid_loop_example_s02095_impl_errVerify (by kernel_rfl)) gE2 gE2T gE3 gE3T
  obtain rfl := sen_inj (Option.some.inj (c0.symm.trans y0))
  obtain rfl := sen_inj (Option.some.inj (c0.symm.trans v0))
  obtain rfl := sen_inj (Option.some.inj (c1.symm.trans q1))
  obtain rfl := sen_inj (Option.some.inj (c2.symm.trans q2))
  obtain rfl := sen_inj (Option.some.inj (c1.symm.trans s1))
  obtain rfl := sen_inj (Option.some.inj (c3.symm.trans s3))
  obtain rfl := sen_inj (Option.some.inj (c2.symm.trans u2))
  obtain rfl := sen_inj (Option.some.inj (c3.symm.trans u3))
  exact ⟨_, _, _, _, c0, c1, c2, c3, b0, b1, b2, b3, n01, n02, n03, n12, n13, n23⟩
theorem trodVars_len {H : Type} {enc : TypeId × Value → H} {W : World} {sp : Nat → Bool} : ∀ {ns : List String} {gs : List (DataW H)} {q : List MemPlace}, DataW.TrodVars enc Tryd.prog W sp ns gs q → gs.length = ns.length
  | [], [], _, _ => rfl
  | [], _ :: _, _, h => h.elim
  | _ :: _, [], _, h => h.elim
  | _ :: _, _ :: _, _, h => by
    obtain ⟨g, t, cs, fuel, p, q, h1, h2, h3, h4, hs, e⟩ := h
    rw [List.length_cons, List.length_cons, trodVars_len hs]
theorem five {α : Type} {l : List α} (h : l.length = 5) : ∃ a b c d e, l = [a, b, c, d, e] := by
  match l, h with
  | [a, b, c, d, e], _ => exact ⟨a, b, c, d, e, rfl⟩
def errText : DataW Unit → ByteArray
  | .iface _ (.ptr (.agg [.lit (.string l)])) => ⟨l.toArray⟩
  | _ => ⟨#[]⟩
noncomputable def low6 : Nat := (World.holding Tryd.prog default ⟨#[], #[], []⟩).heap.size
noncomputable def layE (w : World) (g i : Nat) : World :=
  { w with heap := w.heap.modify g fun
      | .cells _ t frozen => .cells #[.iface 145 (.pointer (some ⟨low6 + i, 0, none⟩))] t frozen
      | o => o }
/-- A WORLD FOR THE WITNESS. -/
noncomputable def laidWorld6 (os : Os) : World :=
  layE (layE (layE (layE (lay (lay (lay (lay (World.holding Tryd.prog os ⟨#[.cells #[.string (errText Rows.laid_loop_example_s02095_impl_errArgs)] 168, .cells #[.string (errText Rows.laid_loop_example_s02095_impl_errGroup)] 168, .cells #[.string (errText Rows.laid_loop_example_s02095_impl_errInverse)] 168, .cells #[.string (errText Rows.laid_loop_example_s02095_impl_errVerify)] 168], #[], []⟩) 7 .u8 (litInts Rows.laid_math_bits_deBruijn32tab)) 8 .u8 (litInts Rows.laid_math_bits_deBruijn64tab)) 6 .u64 (litInts Rows.laid_internal_strconv_uint64pow10)) 9 .u32 kTab) 0 0) 2 1) 1 2) 3 3
end Go.Proofs.YtjmhmajfkdglnaaDoor
