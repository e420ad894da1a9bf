import Derived.Test.YtjmhmajfkdglnaaGreatDoorMrg36
import Derived.Test.YtjmhmajfkdglnaaGreatDoorMrg24
import Derived.Test.YtjmhmajfkdglnaaGreatDoorMrg34
import Derived.Test.YtjmhmajfkdglnaaGreatDoorMrg16
set_option linter.unusedVariables false
set_option maxRecDepth 100000
set_option maxHeartbeats 16000000
namespace Go.Proofs.YtjmhmajfkdglnaaGreatDoor
open Go.RowKit M
def Ent (f : FuncId) : Prop := ∀ (args : Array Value) (w : World), (callFunc f args).run Tryz.prog w = .ok (.enter f args) w
def okI (k : Nat) (info : ByteArray) : Prop := if k = 2 then info.size ≤ 60000 else info.size = 0
structure Rl (k : Nat) (F0 F1 F2 F3 F4 F5 F6 : FuncId) : Prop where
  e1 : Ent F1
  e2 : Ent F2
  secret : ∀ (key : Nat) (info : ByteArray) (a0 a1 a2 a3 : Addr) (w : World), TabK w → Sn w a0 a1 a2 a3 → key < 2305843010818082053 → info.size ≤ 60000 →
    Calls Tryz.prog F1 #[.agg #[.string (ctxB k), .string info], .agg #[.int .u64 key]] w fun e w' => e = .returned (.tuple #[.agg #[.int .u64 (facT k key info : Nat)], if facC k key info = 0 then .nilIface else sen a2]) ∧ Below w.heap.size w w'
  factor : ∀ (key : Nat) (info : ByteArray) (w : World), key < 2305843010818082053 → facC k key info = 0 →
    Calls Tryz.prog F2 #[.agg #[.int .u64 (facT k key info : Nat)]] w fun e w' => e = .returned (.agg #[.int .u64 (facB k key info : Nat)]) ∧ Below w.heap.size w w'
  output : ∀ (input info : ByteArray) (u : Pt) (w : World), TabK w → input.size ≤ 65535 → info.size ≤ 60000 →
    Calls Tryz.prog 81 #[.agg #[.string (ctxB k), .string info, .func (.func F0) #[] #[], .func (.func F1) #[] #[], .func (.func F2) #[] #[], .func (.func F3) #[] #[], .func (.func F4) #[] #[], .func (.func F5) #[] #[], .func (.func F6) #[] #[]], .string input, .agg #[.int .u64 (px u), .int .u64 (py u), .bool (pb u)]] w fun e w' => e = .returned (.string (outB k input info u)) ∧ Below w.heap.size w w'
  find : ∀ (info : ByteArray) (a0 a1 a2 a3 : Addr) (w : World), Sn w a0 a1 a2 a3 → okI k info →
    Calls Tryz.prog 78 #[.int .i64 k, .string info] w fun e w' => e = .returned (.tuple #[.agg #[.string (ctxB k), .string info, .func (.func F0) #[] #[], .func (.func F1) #[] #[], .func (.func F2) #[] #[], .func (.func F3) #[] #[], .func (.func F4) #[] #[], .func (.func F5) #[] #[], .func (.func F6) #[] #[]], .nilIface]) ∧ Below w.heap.size w w'
  bad : ∀ (info : ByteArray) (a0 a1 a2 a3 : Addr) (w : World), Sn w a0 a1 a2 a3 → ¬ okI k info →
    Calls Tryz.prog 78 #[.int .i64 k, .string info] w fun e w' => e = .returned (.tuple #[.agg zPro, flt ⟨#[105, 110, 102, 111]⟩ (sen a0)]) ∧ Below w.heap.size w w'
theorem ixR0 (w : World) : (Instr.index 203 (.agg rulL.toArray) (.int .i64 ((0 : Nat) : Int))).run Tryz.prog w = .ok (.agg #[.func (.func 150) #[] #[], .func (.func 151) #[] #[], .func (.func 152) #[] #[], .func (.func 153) #[] #[], .func (.func 154) #[] #[], .func (.func 155) #[] #[], .func (.func 156) #[] #[]]) w := by kernel_rfl
theorem ixR1 (w : World) : (Instr.index 203 (.agg rulL.toArray) (.int .i64 ((1 : Nat) : Int))).run Tryz.prog w = .ok (.agg #[.func (.func 150) #[] #[], .func (.func 151) #[] #[], .func (.func 152) #[] #[], .func (.func 153) #[] #[], .func (.func 154) #[] #[], .func (.func 157) #[] #[], .func (.func 156) #[] #[]]) w := by kernel_rfl
theorem ixR2 (w : World) : (Instr.index 203 (.agg rulL.toArray) (.int .i64 ((2 : Nat) : Int))).run Tryz.prog w = .ok (.agg #[.func (.func 158) #[] #[], .func (.func 159) #[] #[], .func (.func 160) #[] #[], .func (.func 161) #[] #[], .func (.func 162) #[] #[], .func (.func 163) #[] #[], .func (.func 164) #[] #[]]) w := by kernel_rfl
theorem enNI : Ent 150 := fun _ _ => by kernel_rfl
theorem enSI : Ent 158 := fun _ _ => by kernel_rfl
theorem enKA : Ent 151 := fun _ _ => by kernel_rfl
theorem enKT : Ent 159 := fun _ _ => by kernel_rfl
theorem enSE : Ent 152 := fun _ _ => by kernel_rfl
theorem enSV : Ent 160 := fun _ _ => by kernel_rfl
theorem enNP : Ent 156 := fun _ _ => by kernel_rfl
theorem enIP : Ent 164 := fun _ _ => by kernel_rfl
theorem noInf_yes (info : ByteArray) (h : info.size = 0) (w : World) : Calls Tryz.prog 150 #[.string info] w fun e w' => e = .returned (.bool true) ∧ w = w' := by
  have := noInf info w; rwa [decide_eq_true h] at this
theorem noInf_no (info : ByteArray) (h : ¬ info.size = 0) (w : World) : Calls Tryz.prog 150 #[.string info] w fun e w' => e = .returned (.bool false) ∧ w = w' := by
  have := noInf info w; rwa [decide_eq_false h] at this
theorem shoInf_yes (info : ByteArray) (h : info.size ≤ 60000) (w : World) : Calls Tryz.prog 158 #[.string info] w fun e w' => e = .returned (.bool true) ∧ w = w' := by
  have := shoInf info w; rwa [decide_eq_true h] at this
theorem shoInf_no (info : ByteArray) (h : ¬ info.size ≤ 60000) (w : World) : Calls Tryz.prog 158 #[.string info] w fun e w' => e = .returned (.bool false) ∧ w = w' := by
  have := shoInf info w; rwa [decide_eq_false h] at this
theorem facC_no {k : Nat} (hk : ¬ k = 2) (key : Nat) (info : ByteArray) : facC k key info = 0 := if_neg (fun h => hk (by have := h.1; omega))
theorem facT_no {k : Nat} (hk : ¬ k = 2) (key : Nat) (info : ByteArray) : facT k key info = key := if_neg (by omega)
theorem facB_no {k : Nat} (hk : ¬ k = 2) (key : Nat) (info : ByteArray) : facB k key info = key := if_neg (by omega)
section
variable {k : Nat} (hk : ¬ k = 2)
include hk
theorem secr_no (key : Nat) (info : ByteArray) (a0 a1 a2 a3 : Addr) (w : World) :
    Calls Tryz.prog 151 #[.agg #[.string (ctxB k), .string info], .agg #[.int .u64 key]] w fun e w' => e = .returned (.tuple #[.agg #[.int .u64 (facT k key info : Nat)], if facC k key info = 0 then .nilIface else sen a2]) ∧ Below w.heap.size w w' := by
  rw [facC_no hk, facT_no hk, if_pos rfl]
  exact kalI _ _ _ w
theorem fact_no (key : Nat) (info : ByteArray) (w : World) :
    Calls Tryz.prog 152 #[.agg #[.int .u64 (facT k key info : Nat)]] w fun e w' => e = .returned (.agg #[.int .u64 (facB k key info : Nat)]) ∧ Below w.heap.size w w' := by
  rw [facT_no hk, facB_no hk]
  exact sitI _ w
theorem okI_no {info : ByteArray} : okI k info ↔ info.size = 0 := by unfold okI; rw [if_neg hk]
end
theorem okI_two {info : ByteArray} : okI 2 info ↔ info.size ≤ 60000 := by unfold okI; rw [if_pos rfl]
theorem facT_two (key : Nat) (info : ByteArray) : facT (2 : Nat) key info = kt key info := if_pos rfl
theorem facC_two (key : Nat) (info : ByteArray) : facC (2 : Nat) key info = if kt key info = 0 then 3 else 0 := by
  unfold facC
  by_cases h : kt key info = 0
  · rw [if_pos h, if_pos ⟨rfl, h⟩]
  · rw [if_neg h, if_neg (fun h' => h h'.2)]
theorem secr_two (key : Nat) (info : ByteArray) (a0 a1 a2 a3 : Addr) (w : World) (hT : TabK w) (hs : Sn w a0 a1 a2 a3) (hk : key < 2305843010818082053) (hi : info.size ≤ 60000) :
    Calls Tryz.prog 159 #[.agg #[.string (ctxB 2), .string info], .agg #[.int .u64 key]] w fun e w' => e = .returned (.tuple #[.agg #[.int .u64 (facT (2 : Nat) key info : Nat)], if facC (2 : Nat) key info = 0 then .nilIface else sen a2]) ∧ Below w.heap.size w w' := by
  have hgw : 6 < w.heap.size := World.block_lt_of_cell? w _ (hT 0 (by omega))
  have h := kntI_of (ctxB 2) info (key : Int) ((twk info : Nat) : Int) ((kt key info : Nat) : Int) a0 a1 a2 a3 w hs (fun w' hb => twkI_any info w' (keepT hT hgw hb) hi) (fun w => plN_any key (twk info) w hk (twk_lt info))
  rw [facT_two, facC_two]
  by_cases h0 : kt key info = 0
  · rw [if_pos (by omega)] at h
    rw [if_pos h0, if_neg (by decide)]
    exact h
  · rw [if_neg (by omega)] at h
    rw [if_neg h0, if_pos rfl]
    exact h
theorem fact_two (key : Nat) (info : ByteArray) (w : World) (h : facC (2 : Nat) key info = 0) :
    Calls Tryz.prog 160 #[.agg #[.int .u64 (facT (2 : Nat) key info : Nat)]] w fun e w' => e = .returned (.agg #[.int .u64 (facB (2 : Nat) key info : Nat)]) ∧ Below w.heap.size w w' := by
  have h0 : ¬ kt key info = 0 := fun h0 => by rw [facC_two, if_pos h0] at h; cases h
  have e : facB (2 : Nat) key info = M.ivn 2305843010818082053 (kt key info) := by unfold facB; rw [if_pos (by decide), if_neg h0]
  rw [facT_two, e]
  exact secI_of _ _ w (fun w => ivN_any _ w (kt_lt key info))
theorem rul_0 : Rl 0 150 151 152 153 154 155 156 :=
  ⟨enKA, enSE, fun key info a0 a1 a2 a3 w _ _ _ _ => secr_no (by omega) key info a0 a1 a2 a3 w, fun key info w _ _ => fact_no (by omega) key info w, fun input info u w hT h1 h2 => outI_no _ info input u _ _ _ _ _ _ _ w hT h1 h2 enNP ((0 : Nat) : Int) (by decide) (nopI info),
      fun info a0 a1 a2 a3 w hs h => proI_ok _ _ info _ _ _ _ _ _ _ _ a0 a1 a2 a3 w hs (fun w => ctxI_yes 0 w (by omega)) rulI ixR0 enNI (noInf_yes info ((okI_no (by omega)).1 h)),
      fun info a0 a1 a2 a3 w hs h => proI_bad _ _ info _ _ _ _ _ _ _ _ a0 a1 a2 a3 w hs (fun w => ctxI_yes 0 w (by omega)) rulI ixR0 enNI (noInf_no info (fun h' => h ((okI_no (by omega)).2 h')))⟩
theorem rul_1 : Rl 1 150 151 152 153 154 157 156 :=
  ⟨enKA, enSE, fun key info a0 a1 a2 a3 w _ _ _ _ => secr_no (by omega) key info a0 a1 a2 a3 w, fun key info w _ _ => fact_no (by omega) key info w, fun input info u w hT h1 h2 => outI_no _ info input u _ _ _ _ _ _ _ w hT h1 h2 enNP ((1 : Nat) : Int) (by decide) (nopI info),
      fun info a0 a1 a2 a3 w hs h => proI_ok _ _ info _ _ _ _ _ _ _ _ a0 a1 a2 a3 w hs (fun w => ctxI_yes 1 w (by omega)) rulI ixR1 enNI (noInf_yes info ((okI_no (by omega)).1 h)),
      fun info a0 a1 a2 a3 w hs h => proI_bad _ _ info _ _ _ _ _ _ _ _ a0 a1 a2 a3 w hs (fun w => ctxI_yes 1 w (by omega)) rulI ixR1 enNI (noInf_no info (fun h' => h ((okI_no (by omega)).2 h')))⟩
theorem rul_2 : Rl 2 158 159 160 161 162 163 164 :=
  ⟨enKT, enSV, fun key info a0 a1 a2 a3 w hT hs hk hi => secr_two key info a0 a1 a2 a3 w hT hs hk hi, fun key info w _ h => fact_two key info w h, fun input info u w hT h1 h2 => outI_two _ info input u _ _ _ _ _ _ _ w hT h1 h2 enIP (ipaI info),
      fun info a0 a1 a2 a3 w hs h => proI_ok _ _ info _ _ _ _ _ _ _ _ a0 a1 a2 a3 w hs (fun w => ctxI_yes 2 w (by omega)) rulI ixR2 enSI (shoInf_yes info (okI_two.1 h)),
      fun info a0 a1 a2 a3 w hs h => proI_bad _ _ info _ _ _ _ _ _ _ _ a0 a1 a2 a3 w hs (fun w => ctxI_yes 2 w (by omega)) rulI ixR2 enSI (shoInf_no info (fun h' => h (okI_two.2 h')))⟩
theorem cplT {p : Pt} (hp : on p) (k : Nat) (hk : k < 2305843010818082053) (w : World) :
    Calls Tryz.prog 68 #[.agg #[.int .u64 (px p), .int .u64 (py p), .bool (pb p)], .int .u64 k] w fun e w' => e = .returned (.agg #[.int .u64 (px (nt k p)), .int .u64 (py (nt k p)), .bool (pb (nt k p))]) ∧ Below w.heap.size w w' := by
  have := ctmV hp k (by omega) w
  rwa [ptW_eq, ptW_eq] at this
theorem okI_iff {mode : Int} (hm : 0 ≤ mode ∧ mode ≤ 2) {info : ByteArray} : okI mode.toNat info ↔ info.size ≤ 60000 ∧ (mode = 2 ∨ info.size = 0) := by
  unfold okI
  by_cases h2 : mode.toNat = 2
  · rw [if_pos h2]
    constructor
    · intro h; exact ⟨h, .inl (by omega)⟩
    · exact fun h => h.1
  · rw [if_neg h2]
    constructor
    · intro h; exact ⟨by omega, .inr h⟩
    · rintro ⟨-, h | h⟩
      · exact absurd h (by omega)
      · exact h
theorem eqP (x y : Int) (c : Bool) (w : World) :
    Calls Tryz.prog 47 #[.agg #[.int .u64 x, .int .u64 y, .bool c], .agg #[.int .u64 x, .int .u64 y, .bool c]] w fun e w' => e = .returned (.bool true) ∧ Below w.heap.size w w' := by
  go_enter Tryz.func47, Tryz.ntmps47
  go_wp2
  go_ret
  exact ⟨rfl, ((Below.refl _ w).alloc (Nat.le_refl _) _).alloc (by simp) _⟩
end Go.Proofs.YtjmhmajfkdglnaaGreatDoor
