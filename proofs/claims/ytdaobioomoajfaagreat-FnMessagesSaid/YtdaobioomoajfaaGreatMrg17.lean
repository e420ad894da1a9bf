import Derived.Test.YtdaobioomoajfaaGreatMrg16
import Derived.Test.YtdaobioomoajfaaGreatMrg10
import Derived.Test.YtdaobioomoajfaaGreatMrg15
import Derived.Test.YtdaobioomoajfaaGreatMrg1
import Derived.Test.YtdaobioomoajfaaGreatMrg6
import Derived.Test.YtdaobioomoajfaaGreatMrg13
set_option linter.unusedVariables false
set_option maxRecDepth 100000
set_option maxHeartbeats 16000000
namespace Go.Proofs.YtdaobioomoajfaaGreat
open Go.RowKit M
def bt (s : ByteArray) (i : Nat) : Nat := (s.data.getD i 0).toNat
def szS (s : ByteArray) (i : Nat) : Lt → Nat
  | .u => if i + 2 ≤ s.size then 2 + bt s i * 256 + bt s (i + 1) else 2
  | .e => 8
  | .o => 8
  | .n => 16
  | .b => 48
  | .m => 32
  | .c => 1
noncomputable def setS (m : Msg) (t : ByteArray) : Lt → Msg
  | .u => { m with user := t.extract 2 t.size }
  | .e => { m with el := tri ((gp t).getD none) }
  | .o => { m with ot := tri ((gp t).getD none) }
  | .n => { m with nonce := t }
  | .b => { m with box := t }
  | .m => { m with mac := t }
  | .c => { m with code := bt t 0 }
noncomputable def goS (s : ByteArray) : List Lt → Msg → Nat → Option Msg
  | [], m, _ => some m
  | f :: l, m, i => if s.size < i + szS s i f then none else goS s l (setS m (s.extract i (i + szS s i f)) f) (i + szS s i f)
noncomputable def getS (s : ByteArray) : Option Msg := if s.size = 0 then none else match goS s (flds (bt s 0)) { kind := bt s 0 } 1 with
  | none => none
  | some m => if putM m = s then some m else none
theorem bt_app (a b : ByteArray) (i : Nat) : bt (a ++ b) (a.size + i) = bt b i := by
  unfold bt
  congr 1
  have hz : a.data.size = a.size := rfl
  rw [Array.getD_eq_getD_getElem?, Array.getD_eq_getD_getElem?, ByteArray.data_append, Array.getElem?_append_right (by omega)]
  congr 2
  omega
theorem bt_l (a b : ByteArray) (i : Nat) (h : i < a.size) : bt (a ++ b) i = bt a i := by
  unfold bt
  congr 1
  rw [Array.getD_eq_getD_getElem?, Array.getD_eq_getD_getElem?, ByteArray.data_append, Array.getElem?_append_left h]
theorem bt_str (l : List Int) (i : Nat) (h : ∀ x ∈ l, 0 ≤ x ∧ x < 256) (hi : i < l.length) : (bt (strOfNums l) i : Int) = l[i] := by
  have e := byt_str l h
  have : (byt (strOfNums l))[i]? = some l[i] := by rw [e]; exact List.getElem?_eq_getElem hi
  unfold byt at this
  rw [List.getElem?_map] at this
  unfold bt
  rw [Array.getD_eq_getD_getElem?]
  rw [Array.getElem?_toList] at this
  cases h2 : (strOfNums l).data[i]? with
  | none => rw [h2] at this; cases this
  | some v => rw [h2] at this; simpa using this
theorem ex_mid (p a r : ByteArray) : (p ++ a ++ r).extract p.size (p.size + a.size) = a := by
  have h := ByteArray.extract_append_size_add (a := p) (b := a ++ r) (i := 0) (j := a.size)
  rw [Nat.add_zero] at h
  rw [ByteArray.append_assoc, h]
  exact ex_l a r
theorem fld_lt {m : Msg} {f : Lt} (h : fok m f = true) (p r : ByteArray) : szS (p ++ fld m f ++ r) p.size f = (fld m f).size ∧ ∀ m0, setS m0 (fld m f) f = cp m m0 f := by
  cases f with
  | u =>
    have h1 : 1 ≤ m.user.size ∧ m.user.size ≤ 32 := of_decide_eq_true h
    have hs := sizB_size m.user
    refine ⟨?_, fun m0 => ?_⟩
    · show (if p.size + 2 ≤ (p ++ sizB m.user ++ r).size then 2 + bt (p ++ sizB m.user ++ r) p.size * 256 + bt (p ++ sizB m.user ++ r) (p.size + 1) else 2) = (sizB m.user).size
      have b0 : ∀ i, i < 2 → bt (p ++ sizB m.user ++ r) (p.size + i) = bt (numB m.user.size) i := by
        intro i hi
        rw [ByteArray.append_assoc, bt_app]
        show bt (numB m.user.size ++ m.user ++ r) i = _
        rw [ByteArray.append_assoc, bt_l _ _ _ (by rw [numB_size]; exact hi)]
      rw [if_pos (by rw [ByteArray.size_append, ByteArray.size_append]; omega), hs, b0 1 (by omega)]
      have b1 := b0 0 (by omega)
      rw [Nat.add_zero] at b1
      rw [b1]
      have hr : ∀ x ∈ [((m.user.size / 256 % 256 : Nat) : Int), ((m.user.size % 256 : Nat) : Int)], 0 ≤ x ∧ x < 256 := by
        intro z hz; simp only [List.mem_cons, List.not_mem_nil, or_false] at hz; omega
      have c0 := bt_str _ 0 hr (by simp)
      have c1 := bt_str _ 1 hr (by simp)
      simp only [List.getElem_cons_zero, List.getElem_cons_succ] at c0 c1
      unfold numB
      omega
    · show { m0 with user := (sizB m.user).extract 2 (sizB m.user).size } = { m0 with user := m.user }
      have e : (sizB m.user).extract 2 (sizB m.user).size = m.user := by
        have := ex_r (numB m.user.size) m.user
        rw [numB_size] at this
        exact this
      rw [e]
  | e =>
    obtain ⟨q, h1, h2, h3, h4, h5⟩ := elM_of (show elM m.el = true from h)
    refine ⟨?_, fun m0 => ?_⟩
    · show 8 = (ptM m.el).size
      rw [h4, ptX_size]
    · show { m0 with el := tri ((gp (ptM m.el)).getD none) } = { m0 with el := m.el }
      rw [h4, gp_of h3 h2, Option.getD_some, h5]
  | o =>
    obtain ⟨q, h1, h2, h3, h4, h5⟩ := elM_of (show elM m.ot = true from h)
    refine ⟨?_, fun m0 => ?_⟩
    · show 8 = (ptM m.ot).size
      rw [h4, ptX_size]
    · show { m0 with ot := tri ((gp (ptM m.ot)).getD none) } = { m0 with ot := m.ot }
      rw [h4, gp_of h3 h2, Option.getD_some, h5]
  | n => exact ⟨(of_decide_eq_true h : m.nonce.size = 16).symm, fun m0 => rfl⟩
  | b => exact ⟨(of_decide_eq_true h : m.box.size = 48).symm, fun m0 => rfl⟩
  | m => exact ⟨(of_decide_eq_true h : m.mac.size = 32).symm, fun m0 => rfl⟩
  | c =>
    have hn : 1 ≤ m.code ∧ m.code ≤ 7 := of_decide_eq_true h
    refine ⟨(num1_of m.code (by omega) (by omega)).1.symm, fun m0 => ?_⟩
    show { m0 with code := (bt (byB m.code) 0 : Int) } = { m0 with code := m.code }
    have hr : ∀ x ∈ [m.code % 256], 0 ≤ x ∧ x < 256 := by intro z hz; rw [List.mem_singleton] at hz; omega
    have c0 := bt_str [m.code % 256] 0 hr (by simp)
    simp only [List.getElem_cons_zero] at c0
    have e : (bt (byB m.code) 0 : Int) = m.code := by unfold byB; omega
    rw [e]
theorem goS_cat (m : Msg) (r : ByteArray) : ∀ (l : List Lt) (p : ByteArray) (m0 : Msg), l.all (fok m) = true → goS (p ++ cat m l ++ r) l m0 p.size = some (l.foldl (cp m) m0)
  | [], p, m0, _ => rfl
  | f :: l, p, m0, h => by
    rw [List.all_cons, Bool.and_eq_true] at h
    have e : p ++ cat m (f :: l) ++ r = p ++ fld m f ++ (cat m l ++ r) := by rw [cat, ByteArray.append_assoc, ByteArray.append_assoc, ByteArray.append_assoc]
    obtain ⟨h1, h2⟩ := fld_lt h.1 p (cat m l ++ r)
    rw [goS, e, h1, ex_mid, h2, if_neg (by rw [ByteArray.size_append, ByteArray.size_append]; omega), List.foldl_cons]
    have := goS_cat m r l (p ++ fld m f) (cp m m0 f) h.2
    rw [ByteArray.size_append] at this
    rw [← this, ByteArray.append_assoc (b := cat m l)]
theorem getS_eq (s : ByteArray) : getS s = getM s := by
  cases hg : getM s with
  | some m =>
    obtain ⟨h1, h2⟩ := putM_get hg
    obtain ⟨k1, k2, k3⟩ := okM_iff.1 h1
    have e : s = byB m.kind ++ cat m (flds m.kind) ++ ⟨#[]⟩ := by
      rw [← h2]; unfold putM; rw [if_pos h1, app0]
    have hz : (byB m.kind).size = 1 := (num1_of _ (kb_lt k1).1 (kb_lt k1).2).1
    have hr : ∀ x ∈ [m.kind % 256], 0 ≤ x ∧ x < 256 := by intro z hz; rw [List.mem_singleton] at hz; omega
    have c0 : (bt s 0 : Int) = m.kind := by
      have c0 := bt_str [m.kind % 256] 0 hr (by simp)
      simp only [List.getElem_cons_zero] at c0
      have : bt s 0 = bt (byB m.kind) 0 := by
        rw [e, ByteArray.append_assoc, bt_l _ _ _ (by rw [hz]; omega)]
      rw [this]
      have hk := kb_lt k1
      unfold byB
      omega
    unfold getS
    rw [if_neg (by rw [e, ByteArray.size_append, ByteArray.size_append]; omega), c0]
    have := goS_cat m ⟨#[]⟩ (flds m.kind) (byB m.kind) { kind := m.kind } k2
    rw [hz, ← e, (only_iff k1).2 k3] at this
    rw [this]
    simp only [h2, if_true]
  | none =>
    cases hs : getS s with
    | none => rfl
    | some m =>
      exfalso
      unfold getS at hs
      split at hs
      · cases hs
      · rename_i hz
        split at hs
        · cases hs
        · split at hs
          · rename_i m1 _ hp
            injection hs with hs
            subst hs
            by_cases ok : okM m1 = true
            · have := getM_put ok
              rw [hp, hg] at this
              cases this
            · apply hz
              rw [← hp]
              unfold putM
              rw [if_neg ok]
              rfl
          · cases hs
end Go.Proofs.YtdaobioomoajfaaGreat
namespace Go.Proofs.YtdaobioomoajfaaGreat
open Go.RowKit
def msgL (m : Msg) : List Value := [.int .i64 m.kind, .string m.user, .int .u64 (m.el.1 : Int), .int .u64 (m.el.2.1 : Int), .bool m.el.2.2, .int .u64 (m.ot.1 : Int), .int .u64 (m.ot.2.1 : Int), .bool m.ot.2.2, .string m.nonce, .string m.box, .string m.mac, .int .i64 m.code]
def wrL (m : Msg) (t : ByteArray) : List Value := [.int .i64 m.kind, .string m.user, .int .u64 (m.el.1 : Int), .int .u64 (m.el.2.1 : Int), .bool m.el.2.2, .int .u64 (m.ot.1 : Int), .int .u64 (m.ot.2.1 : Int), .bool m.ot.2.2, .string m.nonce, .string m.box, .string m.mac, .int .i64 m.code, .string t]
def rdL (s : Rd) : List Value := [.int .i64 s.m.kind, .string s.m.user, .int .u64 (s.m.el.1 : Int), .int .u64 (s.m.el.2.1 : Int), .bool s.m.el.2.2, .int .u64 (s.m.ot.1 : Int), .int .u64 (s.m.ot.2.1 : Int), .bool s.m.ot.2.2, .string s.m.nonce, .string s.m.box, .string s.m.mac, .int .i64 s.m.code, .string s.rest, .bool s.bad]
theorem cfW (args : Array Value) (w : World) : (callFunc 80 args).run Tryz.prog w = .ok (.enter 80 args) w := by kernel_rfl
theorem cfP (args : Array Value) (w : World) : (callFunc 79 args).run Tryz.prog w = .ok (.enter 79 args) w := by kernel_rfl
theorem cfB (args : Array Value) (w : World) : (callFunc 17 args).run Tryz.prog w = .ok (.enter 17 args) w := by kernel_rfl
theorem be2 (n : Nat) : strOfNums (beTo (n : Int) 2) = numB n := by
  unfold numB
  have e : beTo (n : Int) 2 = [((n / 256 % 256 : Nat) : Int), ((n % 256 : Nat) : Int)] := by
    simp only [beTo]
    simp
  rw [e]
theorem wrtU (s : ByteArray) (w : World) (h : s.size ≤ 2097152) :
    Calls Tryz.prog 80 #[.string s] w fun e w' => e = .returned (.string (sizB s)) ∧ Below w.heap.size w w' := by
  have L := fun w => beI_any (s.size : Int) 2 w (by omega) (by omega) (by omega) (by omega)
  rw [be2] at L
  have e1 : IntKind.u64.wrap (s.size : Int) = (s.size : Int) := by rw [IntKind.wrap_u64]; omega
  have hs : sizB s = numB s.size ++ s := rfl
  have hz := numB_size s.size
  rw [hs]
  generalize numB s.size = T at *
  clear hs
  go_enter Tryz.func80, Tryz.ntmps80
  go_wp2_with fail
  refine (L _).mono ?_
  rintro e w1 ⟨rfl, b1⟩
  go_wp2
  go_ret
  exact ⟨rfl, b1⟩
theorem beK (k : Int) (h0 : -9223372036854775808 ≤ k) (h1 : k < 9223372036854775808) : ∃ n, IntKind.u64.wrap k = n ∧ ∀ w, Calls Tryz.prog 17 #[.int .u64 n, .int .i64 1] w fun e w' => e = .returned (.string (byB k)) ∧ Below w.heap.size w w' := by
  have e : IntKind.u64.wrap k = k % 18446744073709551616 := by rw [IntKind.wrap_u64]
  refine ⟨_, e, fun w => ?_⟩
  have L := beI_any (k % 18446744073709551616) 1 w (by omega) (by omega) (by omega) (by omega)
  have e2 : strOfNums (beTo (k % 18446744073709551616) 1) = byB k := by
    unfold byB
    simp only [beTo]
    congr 2
    simp only [Int.pow_zero, Int.ediv_one]
    omega
  rwa [e2] at L
theorem wdI_le (s : ByteArray) (w : World) (hs : s.size ≤ 7) :
    Calls Tryz.prog 28 #[.string s] w fun e w' => e = .returned (.int .u64 (numL (byt s) : Nat)) ∧ w = w' := by
  obtain ⟨c, hc⟩ : ∃ c, Hid (c = numL (byt s)) := ⟨_, rfl⟩
  rw [← hc.out]
  go_enter Tryz.func28, Tryz.ntmps28
  go_wp2
  go_loop [3, 7] (fun rv iv => ∃ (k r : Nat), k ≤ s.size ∧ iv = .int .i64 (k : Int) ∧ rv = .int .u64 (r : Int) ∧ Hid (r = numL ((byt s).take k))) (fun _ i => 8 - (intOf i).toNat)
  case atStart => exact ⟨0, 0, by omega, rfl, rfl, by simp [Hid, numL]⟩
  case round =>
    obtain ⟨k, r, hk, rfl, rfl, hr⟩ := hrel
    by_cases hlt' : k < s.size
    · have hlt : k < 8 := by omega
      have hlti : (k : Int) < (s.size : Int) := by omega
      have hv := s[k].toNat_lt
      have hl := numL_take_lt s k hlt
      rw [← hr.out] at hl
      have e0 : IntKind.u64.wrap (s[k].toNat : Int) = (s[k].toNat : Int) := by simp only [IntKind.wrap_u64]; omega
      have e1 := or_byte r s[k]
      rw [Nat.mod_eq_of_lt (show r * 256 < 18446744073709551616 by omega)] at e1
      have hn : Hid (r * 256 + s[k].toNat = numL ((byt s).take (k + 1))) := by simp only [Hid]; rw [numL_take s k hlt', ← hr.out]
      generalize r * 256 + s[k].toNat = r' at *
      clear hl hv
      go_wp2
      go_round
      case rel => exact ⟨k + 1, r', by omega, by go_num, rfl, hn⟩
      case measure => simp [intOf]; omega
    · obtain rfl : k = s.size := by omega
      have hge : (s.size : Int) ≤ (s.size : Int) := by omega
      rw [List.take_of_length_le (by rw [byt_length]; omega)] at hr
      go_wp2
      go_ret
      exact ⟨ret_u64 (by rw [hc.out, hr.out]), rfl⟩
theorem grownS (W : World) (b i : Nat) (x : Value) : W.grownBy (W.setCell ⟨b, i, none⟩ x) (some b) := ⟨rfl, rfl, rfl, by simp, fun k _ hk => heap_setCell_other W ⟨b, i, none⟩ k x (fun e => hk (by simp [e]))⟩
theorem grownB {W W' : World} {b : Nat} (h : Below W.heap.size W W') : W.grownBy W' (some b) := ⟨h.os, h.tape, h.output, h.size, fun k hk _ => h.block k hk⟩
theorem grownT {W W' W'' : World} {r : Option Nat} (h : W.grownBy W' r) (h' : W'.grownBy W'' r) : W.grownBy W'' r := ⟨h'.os.trans h.os, h'.tape.trans h.tape, h'.output.trans h.output, Nat.le_trans h.size h'.size, fun k hk hne => (h'.block k (Nat.lt_of_lt_of_le hk h.size) hne).trans (h.block k hk hne)⟩
theorem Bk.keptBy {W W' : World} {t : TypeId} {b : Nat} {cs : Array Value} {row : Option Nat} (h : Bk W t b cs) (hg : W.grownBy W' row) (hne : some b ≠ row) : Bk W' t b cs := (hg.block b h.lt hne).trans h
end Go.Proofs.YtdaobioomoajfaaGreat
namespace Go.Proofs.YtdaobioomoajfaaGreat
open Go.RowKit
def ltN : Lt → Nat
  | .u => 117
  | .e => 101
  | .o => 111
  | .n => 110
  | .b => 98
  | .m => 109
  | .c => 99
def ltB (l : List Lt) : ByteArray := ⟨(l.map fun q => (ltN q).toUInt8).toArray⟩
theorem flS_yes (k : Int) (w : World) (h : kindB k = true) : Calls Tryz.prog 19 #[.int .i64 k] w fun e w' => e = .returned (.string (ltB (flds k))) ∧ Below w.heap.size w w' := by
  have hb := (Bk.new w 9 #[.string ⟨#[117, 101]⟩, .string ⟨#[101]⟩, .string ⟨#[117, 111, 98]⟩, .string ⟨#[117, 101, 111, 110]⟩, .string ⟨#[101, 111, 110, 98, 109]⟩, .string ⟨#[109]⟩, .string ⟨#[]⟩, .string ⟨#[99]⟩])
  have hB := (Below.refl _ w).alloc (Nat.le_refl _) (Obj.cells #[.string ⟨#[117, 101]⟩, .string ⟨#[101]⟩, .string ⟨#[117, 111, 98]⟩, .string ⟨#[117, 101, 111, 110]⟩, .string ⟨#[101, 111, 110, 98, 109]⟩, .string ⟨#[109]⟩, .string ⟨#[]⟩, .string ⟨#[99]⟩] 9)
  rcases kind_cases h with rfl | rfl | rfl | rfl | rfl | rfl | rfl | rfl
  · have c := hb.cell (k := 0) rfl
    go_enter Tryz.func19, Tryz.ntmps19
    go_wp2
    go_ret
    exact ⟨rfl, hB⟩
  · have c := hb.cell (k := 1) rfl
    go_enter Tryz.func19, Tryz.ntmps19
    go_wp2
    go_ret
    exact ⟨rfl, hB⟩
  · have c := hb.cell (k := 2) rfl
    go_enter Tryz.func19, Tryz.ntmps19
    go_wp2
    go_ret
    exact ⟨rfl, hB⟩
  · have c := hb.cell (k := 3) rfl
    go_enter Tryz.func19, Tryz.ntmps19
    go_wp2
    go_ret
    exact ⟨rfl, hB⟩
  · have c := hb.cell (k := 4) rfl
    go_enter Tryz.func19, Tryz.ntmps19
    go_wp2
    go_ret
    exact ⟨rfl, hB⟩
  · have c := hb.cell (k := 5) rfl
    go_enter Tryz.func19, Tryz.ntmps19
    go_wp2
    go_ret
    exact ⟨rfl, hB⟩
  · have c := hb.cell (k := 6) rfl
    go_enter Tryz.func19, Tryz.ntmps19
    go_wp2
    go_ret
    exact ⟨rfl, hB⟩
  · have c := hb.cell (k := 7) rfl
    go_enter Tryz.func19, Tryz.ntmps19
    go_wp2
    go_ret
    exact ⟨rfl, hB⟩
theorem flS_no (k : Int) (w : World) (h : kindB k = false) : Calls Tryz.prog 19 #[.int .i64 k] w fun e w' => e = .returned (.string ⟨#[]⟩) ∧ Below w.heap.size w w' := by
  have hB := (Below.refl _ w).alloc (Nat.le_refl _) (Obj.cells #[.string ⟨#[117, 101]⟩, .string ⟨#[101]⟩, .string ⟨#[117, 111, 98]⟩, .string ⟨#[117, 101, 111, 110]⟩, .string ⟨#[101, 111, 110, 98, 109]⟩, .string ⟨#[109]⟩, .string ⟨#[]⟩, .string ⟨#[99]⟩] 9)
  unfold kindB at h
  rw [decide_eq_false_iff_not] at h
  by_cases h1 : k < 1
  · clear h
    go_enter Tryz.func19, Tryz.ntmps19
    go_wp2
    go_ret
    exact ⟨rfl, hB⟩
  · have h2 : 8 < k := by omega
    clear h
    go_enter Tryz.func19, Tryz.ntmps19
    go_wp2
    go_ret
    exact ⟨rfl, hB⟩
theorem elS (t : Nat × Nat × Bool) (w : World) : Calls Tryz.prog 35 #[.agg #[.int .u64 (t.1 : Int), .int .u64 (t.2.1 : Int), .bool t.2.2]] w fun e w' => e = .returned (.bool (elM t)) ∧ Below w.heap.size w w' := by
  have H := onS_any t.1 t.2.1 t.2.2
  unfold elM
  generalize (toPt t.1 t.2.1 t.2.2).isSome = oc at *
  obtain ⟨x, y, z⟩ := t
  simp only at H ⊢
  have hr := Bk.new w 25 #[.int .u64 (x : Int), .int .u64 (y : Int), .bool z]
  have hB := (Below.refl _ w).alloc (Nat.le_refl _) (Obj.cells #[.int .u64 (x : Int), .int .u64 (y : Int), .bool z] 25)
  have c0 := hr.cell (k := 0) rfl
  have c1 := hr.cell (k := 1) rfl
  have c2 := hr.cell (k := 2) rfl
  cases oc
  · go_enter Tryz.func35, Tryz.ntmps35
    go_wp2_with fail
    refine (H _).mono ?_
    rintro e w1 ⟨rfl, b1⟩
    replace hB := hB.trans (b1.mono hB.size)
    clear H b1 c0 c1 c2
    go_wp2
    go_ret
    exact ⟨rfl, hB⟩
  · go_enter Tryz.func35, Tryz.ntmps35
    go_wp2_with fail
    refine (H _).mono ?_
    rintro e w1 ⟨rfl, b1⟩
    replace hB := hB.trans (b1.mono hB.size)
    replace hr := hr.keep b1
    clear H b1 c0 c1 c2
    have c2 := hr.cell (k := 2) rfl
    go_wp2
    go_ret
    refine ⟨?_, hB⟩
    cases z <;> rfl
theorem szU (s : ByteArray) (w : World) (h : s.size ≤ 2097152) :
    Calls Tryz.prog 32 #[.string s] w fun e w' => e = .returned (.string (sizB s)) ∧ Below w.heap.size w w' := by
  have e1 : IntKind.u8.wrap ((s.size : Int) / 256) = ((s.size / 256 % 256 : Nat) : Int) := by rw [IntKind.wrap_u8]; omega
  have e2 : IntKind.u8.wrap (s.size : Int) = ((s.size % 256 : Nat) : Int) := by rw [IntKind.wrap_u8]; omega
  have hcv := conv2 w ((s.size / 256 % 256 : Nat) : Int) ((s.size % 256 : Nat) : Int)
  unfold sizB
  obtain ⟨T, hT⟩ : ∃ T, Hid (T = strOfNums [((s.size / 256 % 256 : Nat) : Int), ((s.size % 256 : Nat) : Int)]) := ⟨_, rfl⟩
  have hTs : T.size = 2 := by rw [hT.out, strOfNums_size]; rfl
  rw [← hT.out] at hcv ⊢
  generalize ((s.size / 256 % 256 : Nat) : Int) = a1 at *
  generalize ((s.size % 256 : Nat) : Int) = a2 at *
  go_enter Tryz.func32, Tryz.ntmps32
  go_wp2
  go_ret
  exact ⟨rfl, (Below.refl _ w).alloc (Nat.le_refl _) _⟩
end Go.Proofs.YtdaobioomoajfaaGreat
namespace Go.Proofs.YtdaobioomoajfaaGreat
open Go.RowKit
section
variable {P : Program} {ops : Array Oper} {Q : Exit → Act → World → Prop} {md : Region.Mode} {kind : Nat → Knd} {a0 : Act} {uses : Nat → List Nat}
theorem any_until (m : Nat) (I : Array Bool → Act → World → Prop)
    (stop : ∀ fuel l a w, I l a w → (∀ j, j < m → l.getD j false = true) → l.toList.count false ≤ fuel → wpAny P md ops Q fuel l a w)
    (stuck : ∀ l a w, I l a w → (¬ ∀ j, j < m → l.getD j false = true) → Region.ready md ops l ≠ [])
    (step : ∀ l a w i, I l a w → (¬ ∀ j, j < m → l.getD j false = true) → i ∈ Region.ready md ops l → wpOp P ops Q i (I (l.setIfInBounds i true)) a w) :
    ∀ fuel l a w, l.toList.count false ≤ fuel → I l a w → wpAny P md ops Q fuel l a w := by
  intro fuel
  induction fuel with
  | zero =>
    intro l a w hc hI
    by_cases hm : ∀ j, j < m → l.getD j false = true
    · exact stop 0 l a w hI hm hc
    · exfalso
      cases hr : Region.ready md ops l with
      | nil => exact stuck l a w hI hm hr
      | cons i r =>
        obtain ⟨h1, h2, -, -⟩ := ready_get (i := i) (md := md) (ops := ops) (l := l) (by rw [hr]; simp)
        have : false ∈ l.toList := by
          rw [Array.getD_eq_getD_getElem?, Array.getElem?_eq_getElem h1] at h2
          rw [← show l[i] = false from h2]
          exact Array.mem_toList_iff.2 (Array.getElem_mem h1)
        have := List.count_pos_iff.2 this
        omega
  | succ fuel ih =>
    intro l a w hc hI
    by_cases hm : ∀ j, j < m → l.getD j false = true
    · exact stop _ l a w hI hm hc
    · refine ⟨fun hr => absurd hr (stuck l a w hI hm), fun i hi => ?_⟩
      refine wpOp_mono (fun a w hI' => ih _ a w ?_ hI') (step l a w i hI hm hi)
      obtain ⟨h1, h2, -, -⟩ := ready_get hi
      have h3 : l.toList[i]? = some false := by
        rw [Array.getD_eq_getD_getElem?] at h2
        rw [Array.getElem?_toList, Array.getElem?_eq_getElem h1] at *
        simpa using h2
      have := count_set h3
      rw [Array.toList_setIfInBounds]
      omega
theorem upto_eq {l : Array Bool} {n m : Nat} (hs : l.size = n) (h1 : ∀ j, j < m → l.getD j false = true) (h2 : ∀ j, m ≤ j → l.getD j false = false) : l = upto n m := by
  apply Array.ext
  · rw [hs]; simp [upto]
  · intro i hi _
    have h3 : l.getD i false = l[i] := by rw [Array.getD_eq_getD_getElem?, Array.getElem?_eq_getElem hi]; rfl
    have h4 : (upto n m)[i] = decide (i < m) := by simp [upto]
    rw [h4, ← h3]
    by_cases h : i < m
    · rw [h1 i h, decide_eq_true h]
    · rw [h2 i (by omega), decide_eq_false h]
theorem count_upto (n m : Nat) (h : m ≤ n) : (upto n m).toList.count false = n - m := by
  have : (upto n m).toList = List.replicate m true ++ List.replicate (n - m) false := by
    apply List.ext_getElem
    · simp [upto]; omega
    · intro i h1 h2
      by_cases hi : i < m
      · simp [upto, hi]
      · simp [upto, hi, List.getElem_append]
  rw [this]
  simp [List.count_append, List.count_replicate]
theorem op_go {i : Nat} {o : Oper} {a : Act} {w : World} {K : Act → World → Prop} {R : Value → World → Prop} (ho : ops[i]? = some o) (hg : o.guard = none)
    (hd : Does P o a w R) (h : ∀ v w', R v w' → K (a.put o.dst v) w') : wpOp P ops Q i K a w := by
  unfold wpOp
  simp only [ho]
  rw [if_pos (by unfold Region.wanted; rw [hg])]
  exact .inl (hd _ _ h)
end
end Go.Proofs.YtdaobioomoajfaaGreat
