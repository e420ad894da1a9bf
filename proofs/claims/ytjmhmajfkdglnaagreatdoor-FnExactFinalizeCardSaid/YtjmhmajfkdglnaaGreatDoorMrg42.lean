import Derived.Test.YtjmhmajfkdglnaaGreatDoorMrg41
import Derived.Test.YtjmhmajfkdglnaaGreatDoorMrg32
import Derived.Test.YtjmhmajfkdglnaaGreatDoorMrg35
import Derived.Test.YtjmhmajfkdglnaaGreatDoorMrg38
import Derived.Test.YtjmhmajfkdglnaaGreatDoorMrg3
import Derived.Test.YtjmhmajfkdglnaaGreatDoorCards
import Derived.Test.YtjmhmajfkdglnaaGreatDoorTie
import Derived.OpenShut
import Derived.ShutString
import Derived.ChangeOld
import Derived.OpenVars
import Derived.Deep.DeepHandedRow
import Derived.Lib.LaidTab
import Derived.LaidSub
import Derived.Carry
import Derived.Deep.Strs
set_option linter.unusedVariables false
set_option maxRecDepth 100000
set_option maxHeartbeats 16000000
namespace Go.Proofs.YtjmhmajfkdglnaaGreatDoor
open Go.RowKit M
def Ent (f : FuncId) : Prop := ∀ (args : Array Value) (w : World), (callFunc f args).run Tryz.prog w = .ok (.enter f args) w
def okI (k : Nat) (info : ByteArray) : Prop := if k = 2 then info.size ≤ 60000 else info.size = 0
structure Rl (k : Nat) (F0 F1 F2 F3 F4 F5 F6 : FuncId) : Prop where
  e1 : Ent F1
  e2 : Ent F2
  secret : ∀ (key : Nat) (info : ByteArray) (a0 a1 a2 a3 : Addr) (w : World), TabK w → Sn w a0 a1 a2 a3 → key < 2305843010818082053 → info.size ≤ 60000 →
    Calls Tryz.prog F1 #[.agg #[.string (ctxB k), .string info], .agg #[.int .u64 key]] w fun e w' => e = .returned (.tuple #[.agg #[.int .u64 (facT k key info : Nat)], if facC k key info = 0 then .nilIface else sen a2]) ∧ Below w.heap.size w w'
  factor : ∀ (key : Nat) (info : ByteArray) (w : World), key < 2305843010818082053 → facC k key info = 0 →
    Calls Tryz.prog F2 #[.agg #[.int .u64 (facT k key info : Nat)]] w fun e w' => e = .returned (.agg #[.int .u64 (facB k key info : Nat)]) ∧ Below w.heap.size w w'
  output : ∀ (input info : ByteArray) (u : Pt) (w : World), TabK w → input.size ≤ 65535 → info.size ≤ 60000 →
    Calls Tryz.prog 81 #[.agg #[.string (ctxB k), .string info, .func (.func F0) #[] #[], .func (.func F1) #[] #[], .func (.func F2) #[] #[], .func (.func F3) #[] #[], .func (.func F4) #[] #[], .func (.func F5) #[] #[], .func (.func F6) #[] #[]], .string input, .agg #[.int .u64 (px u), .int .u64 (py u), .bool (pb u)]] w fun e w' => e = .returned (.string (outB k input info u)) ∧ Below w.heap.size w w'
  find : ∀ (info : ByteArray) (a0 a1 a2 a3 : Addr) (w : World), Sn w a0 a1 a2 a3 → okI k info →
    Calls Tryz.prog 78 #[.int .i64 k, .string info] w fun e w' => e = .returned (.tuple #[.agg #[.string (ctxB k), .string info, .func (.func F0) #[] #[], .func (.func F1) #[] #[], .func (.func F2) #[] #[], .func (.func F3) #[] #[], .func (.func F4) #[] #[], .func (.func F5) #[] #[], .func (.func F6) #[] #[]], .nilIface]) ∧ Below w.heap.size w w'
  bad : ∀ (info : ByteArray) (a0 a1 a2 a3 : Addr) (w : World), Sn w a0 a1 a2 a3 → ¬ okI k info →
    Calls Tryz.prog 78 #[.int .i64 k, .string info] w fun e w' => e = .returned (.tuple #[.agg zPro, flt ⟨#[105, 110, 102, 111]⟩ (sen a0)]) ∧ Below w.heap.size w w'
theorem ixR0 (w : World) : (Instr.index 203 (.agg rulL.toArray) (.int .i64 ((0 : Nat) : Int))).run Tryz.prog w = .ok (.agg #[.func (.func 150) #[] #[], .func (.func 151) #[] #[], .func (.func 152) #[] #[], .func (.func 153) #[] #[], .func (.func 154) #[] #[], .func (.func 155) #[] #[], .func (.func 156) #[] #[]]) w := by kernel_rfl
theorem ixR1 (w : World) : (Instr.index 203 (.agg rulL.toArray) (.int .i64 ((1 : Nat) : Int))).run Tryz.prog w = .ok (.agg #[.func (.func 150) #[] #[], .func (.func 151) #[] #[], .func (.func 152) #[] #[], .func (.func 153) #[] #[], .func (.func 154) #[] #[], .func (.func 157) #[] #[], .func (.func 156) #[] #[]]) w := by kernel_rfl
theorem ixR2 (w : World) : (Instr.index 203 (.agg rulL.toArray) (.int .i64 ((2 : Nat) : Int))).run Tryz.prog w = .ok (.agg #[.func (.func 158) #[] #[], .func (.func 159) #[] #[], .func (.func 160) #[] #[], .func (.func 161) #[] #[], .func (.func 162) #[] #[], .func (.func 163) #[] #[], .func (.func 164) #[] #[]]) w := by kernel_rfl
theorem enNI : Ent 150 := fun _ _ => by kernel_rfl
theorem enSI : Ent 158 := fun _ _ => by kernel_rfl
theorem enKA : Ent 151 := fun _ _ => by kernel_rfl
theorem enKT : Ent 159 := fun _ _ => by kernel_rfl
theorem enSE : Ent 152 := fun _ _ => by kernel_rfl
theorem enSV : Ent 160 := fun _ _ => by kernel_rfl
theorem enNP : Ent 156 := fun _ _ => by kernel_rfl
theorem enIP : Ent 164 := fun _ _ => by kernel_rfl
theorem noInf_yes (info : ByteArray) (h : info.size = 0) (w : World) : Calls Tryz.prog 150 #[.string info] w fun e w' => e = .returned (.bool true) ∧ w = w' := by
  have := noInf info w; rwa [decide_eq_true h] at this
theorem noInf_no (info : ByteArray) (h : ¬ info.size = 0) (w : World) : Calls Tryz.prog 150 #[.string info] w fun e w' => e = .returned (.bool false) ∧ w = w' := by
  have := noInf info w; rwa [decide_eq_false h] at this
theorem shoInf_yes (info : ByteArray) (h : info.size ≤ 60000) (w : World) : Calls Tryz.prog 158 #[.string info] w fun e w' => e = .returned (.bool true) ∧ w = w' := by
  have := shoInf info w; rwa [decide_eq_true h] at this
theorem shoInf_no (info : ByteArray) (h : ¬ info.size ≤ 60000) (w : World) : Calls Tryz.prog 158 #[.string info] w fun e w' => e = .returned (.bool false) ∧ w = w' := by
  have := shoInf info w; rwa [decide_eq_false h] at this
theorem facC_no {k : Nat} (hk : ¬ k = 2) (key : Nat) (info : ByteArray) : facC k key info = 0 := if_neg (fun h => hk (by have := h.1; omega))
theorem facT_no {k : Nat} (hk : ¬ k = 2) (key : Nat) (info : ByteArray) : facT k key info = key := if_neg (by omega)
theorem facB_no {k : Nat} (hk : ¬ k = 2) (key : Nat) (info : ByteArray) : facB k key info = key := if_neg (by omega)
section
variable {k : Nat} (hk : ¬ k = 2)
include hk
theorem secr_no (key : Nat) (info : ByteArray) (a0 a1 a2 a3 : Addr) (w : World) :
    Calls Tryz.prog 151 #[.agg #[.string (ctxB k), .string info], .agg #[.int .u64 key]] w fun e w' => e = .returned (.tuple #[.agg #[.int .u64 (facT k key info : Nat)], if facC k key info = 0 then .nilIface else sen a2]) ∧ Below w.heap.size w w' := by
  rw [facC_no hk, facT_no hk, if_pos rfl]
  exact kalI _ _ _ w
theorem fact_no (key : Nat) (info : ByteArray) (w : World) :
    Calls Tryz.prog 152 #[.agg #[.int .u64 (facT k key info : Nat)]] w fun e w' => e = .returned (.agg #[.int .u64 (facB k key info : Nat)]) ∧ Below w.heap.size w w' := by
  rw [facT_no hk, facB_no hk]
  exact sitI _ w
theorem okI_no {info : ByteArray} : okI k info ↔ info.size = 0 := by unfold okI; rw [if_neg hk]
end
theorem okI_two {info : ByteArray} : okI 2 info ↔ info.size ≤ 60000 := by unfold okI; rw [if_pos rfl]
theorem facT_two (key : Nat) (info : ByteArray) : facT (2 : Nat) key info = kt key info := if_pos rfl
theorem facC_two (key : Nat) (info : ByteArray) : facC (2 : Nat) key info = if kt key info = 0 then 3 else 0 := by
  unfold facC
  by_cases h : kt key info = 0
  · rw [if_pos h, if_pos ⟨rfl, h⟩]
  · rw [if_neg h, if_neg (fun h' => h h'.2)]
theorem secr_two (key : Nat) (info : ByteArray) (a0 a1 a2 a3 : Addr) (w : World) (hT : TabK w) (hs : Sn w a0 a1 a2 a3) (hk : key < 2305843010818082053) (hi : info.size ≤ 60000) :
    Calls Tryz.prog 159 #[.agg #[.string (ctxB 2), .string info], .agg #[.int .u64 key]] w fun e w' => e = .returned (.tuple #[.agg #[.int .u64 (facT (2 : Nat) key info : Nat)], if facC (2 : Nat) key info = 0 then .nilIface else sen a2]) ∧ Below w.heap.size w w' := by
  have hgw : 6 < w.heap.size := World.block_lt_of_cell? w _ (hT 0 (by omega))
  have h := kntI_of (ctxB 2) info (key : Int) ((twk info : Nat) : Int) ((kt key info : Nat) : Int) a0 a1 a2 a3 w hs (fun w' hb => twkI_any info w' (keepT hT hgw hb) hi) (fun w => plN_any key (twk info) w hk (twk_lt info))
  rw [facT_two, facC_two]
  by_cases h0 : kt key info = 0
  · rw [if_pos (by omega)] at h
    rw [if_pos h0, if_neg (by decide)]
    exact h
  · rw [if_neg (by omega)] at h
    rw [if_neg h0, if_pos rfl]
    exact h
theorem fact_two (key : Nat) (info : ByteArray) (w : World) (h : facC (2 : Nat) key info = 0) :
    Calls Tryz.prog 160 #[.agg #[.int .u64 (facT (2 : Nat) key info : Nat)]] w fun e w' => e = .returned (.agg #[.int .u64 (facB (2 : Nat) key info : Nat)]) ∧ Below w.heap.size w w' := by
  have h0 : ¬ kt key info = 0 := fun h0 => by rw [facC_two, if_pos h0] at h; cases h
  have e : facB (2 : Nat) key info = M.ivn 2305843010818082053 (kt key info) := by unfold facB; rw [if_pos (by decide), if_neg h0]
  rw [facT_two, e]
  exact secI_of _ _ w (fun w => ivN_any _ w (kt_lt key info))
theorem rul_0 : Rl 0 150 151 152 153 154 155 156 :=
  ⟨enKA, enSE, fun key info a0 a1 a2 a3 w _ _ _ _ => secr_no (by omega) key info a0 a1 a2 a3 w, fun key info w _ _ => fact_no (by omega) key info w, fun input info u w hT h1 h2 => outI_no _ info input u _ _ _ _ _ _ _ w hT h1 h2 enNP ((0 : Nat) : Int) (by decide) (nopI info),
      fun info a0 a1 a2 a3 w hs h => proI_ok _ _ info _ _ _ _ _ _ _ _ a0 a1 a2 a3 w hs (fun w => ctxI_yes 0 w (by omega)) rulI ixR0 enNI (noInf_yes info ((okI_no (by omega)).1 h)),
      fun info a0 a1 a2 a3 w hs h => proI_bad _ _ info _ _ _ _ _ _ _ _ a0 a1 a2 a3 w hs (fun w => ctxI_yes 0 w (by omega)) rulI ixR0 enNI (noInf_no info (fun h' => h ((okI_no (by omega)).2 h')))⟩
theorem rul_1 : Rl 1 150 151 152 153 154 157 156 :=
  ⟨enKA, enSE, fun key info a0 a1 a2 a3 w _ _ _ _ => secr_no (by omega) key info a0 a1 a2 a3 w, fun key info w _ _ => fact_no (by omega) key info w, fun input info u w hT h1 h2 => outI_no _ info input u _ _ _ _ _ _ _ w hT h1 h2 enNP ((1 : Nat) : Int) (by decide) (nopI info),
      fun info a0 a1 a2 a3 w hs h => proI_ok _ _ info _ _ _ _ _ _ _ _ a0 a1 a2 a3 w hs (fun w => ctxI_yes 1 w (by omega)) rulI ixR1 enNI (noInf_yes info ((okI_no (by omega)).1 h)),
      fun info a0 a1 a2 a3 w hs h => proI_bad _ _ info _ _ _ _ _ _ _ _ a0 a1 a2 a3 w hs (fun w => ctxI_yes 1 w (by omega)) rulI ixR1 enNI (noInf_no info (fun h' => h ((okI_no (by omega)).2 h')))⟩
theorem rul_2 : Rl 2 158 159 160 161 162 163 164 :=
  ⟨enKT, enSV, fun key info a0 a1 a2 a3 w hT hs hk hi => secr_two key info a0 a1 a2 a3 w hT hs hk hi, fun key info w _ h => fact_two key info w h, fun input info u w hT h1 h2 => outI_two _ info input u _ _ _ _ _ _ _ w hT h1 h2 enIP (ipaI info),
      fun info a0 a1 a2 a3 w hs h => proI_ok _ _ info _ _ _ _ _ _ _ _ a0 a1 a2 a3 w hs (fun w => ctxI_yes 2 w (by omega)) rulI ixR2 enSI (shoInf_yes info (okI_two.1 h)),
      fun info a0 a1 a2 a3 w hs h => proI_bad _ _ info _ _ _ _ _ _ _ _ a0 a1 a2 a3 w hs (fun w => ctxI_yes 2 w (by omega)) rulI ixR2 enSI (shoInf_no info (fun h' => h (okI_two.2 h')))⟩
theorem cplT {p : Pt} (hp : on p) (k : Nat) (hk : k < 2305843010818082053) (w : World) :
    Calls Tryz.prog 68 #[.agg #[.int .u64 (px p), .int .u64 (py p), .bool (pb p)], .int .u64 k] w fun e w' => e = .returned (.agg #[.int .u64 (px (nt k p)), .int .u64 (py (nt k p)), .bool (pb (nt k p))]) ∧ Below w.heap.size w w' := by
  have := ctmV hp k (by omega) w
  rwa [ptW_eq, ptW_eq] at this
theorem okI_iff {mode : Int} (hm : 0 ≤ mode ∧ mode ≤ 2) {info : ByteArray} : okI mode.toNat info ↔ info.size ≤ 60000 ∧ (mode = 2 ∨ info.size = 0) := by
  unfold okI
  by_cases h2 : mode.toNat = 2
  · rw [if_pos h2]
    constructor
    · intro h; exact ⟨h, .inl (by omega)⟩
    · exact fun h => h.1
  · rw [if_neg h2]
    constructor
    · intro h; exact ⟨by omega, .inr h⟩
    · rintro ⟨-, h | h⟩
      · exact absurd h (by omega)
      · exact h
section
variable (es : List Tri) (pc ps g cap : Nat) (a0 a1 a2 a3 : Addr) (w : World) (hs : Sn w a0 a1 a2 a3) (hp : Pts w g 0 es)
include hs hp
theorem evlI_no (h : ¬ evB es pc ps = true) : ∃ s, ∀ w', Below w.heap.size w w' →
    Calls Tryz.prog 95 #[.agg #[.slice (some ⟨g, 0, none⟩) es.length cap, .int .u64 pc, .int .u64 ps]] w' fun e w'' => e = .returned (.tuple #[.agg zEvn, flt s (sen a0)]) ∧ Below w'.heap.size w' w'' := by
  by_cases hl : es.length = 1
  · obtain ⟨t, rfl⟩ := List.length_eq_one_iff.1 hl
    rw [evB_single] at h
    by_cases hel : elT t = true
    · refine ⟨⟨#[112, 114, 111, 111, 102]⟩, fun w' hb => ?_⟩
      obtain ⟨e0, e1, e2⟩ := pts_one (hp.below hb hp.lt)
      have := evlI_x (pc : Int) (ps : Int) a0 a1 a2 a3 w' (hs.keep hb) g 0 cap _ _ _ e0 e1 e2 (asT t) (fun w1 hb1 => by
        have := eleI_any t a0 a1 a2 a3 w1 ((hs.keep hb).keep hb1)
        rwa [if_pos hel] at this) _ _ _ _ (exN_any pc) (exN_any ps)
      rw [if_neg (by rw [hel, Bool.true_and] at h; exact h)] at this
      exact this
    · refine ⟨⟨#[101, 108, 101, 109, 101, 110, 116]⟩, fun w' hb => ?_⟩
      obtain ⟨e0, e1, e2⟩ := pts_one (hp.below hb hp.lt)
      exact evlI_e (pc : Int) (ps : Int) a0 w' g 0 cap _ _ _ e0 e1 e2 (fun w1 hb1 => by
        have := eleI_any t a0 a1 a2 a3 w1 ((hs.keep hb).keep hb1)
        rwa [if_neg hel] at this)
  · exact ⟨_, fun w' hb => evlI_n pc ps a0 a1 a2 a3 w' (hs.keep hb) _ es.length cap (by simp; omega)⟩
theorem evlI_yes (t : Tri) (ht : es = [t]) (hel : elT t = true) (hpc : pc < 2305843010818082053) (hps : ps < 2305843010818082053) (w' : World) (hb : Below w.heap.size w w') :
    Calls Tryz.prog 95 #[.agg #[.slice (some ⟨g, 0, none⟩) es.length cap, .int .u64 pc, .int .u64 ps]] w' fun e w'' => e = .returned (.tuple #[.agg #[.int .u64 (px (asT t)), .int .u64 (py (asT t)), .bool (pb (asT t)), .int .u64 pc, .int .u64 ps], .nilIface]) ∧ Below w'.heap.size w' w'' := by
  subst ht
  obtain ⟨e0, e1, e2⟩ := pts_one (hp.below hb hp.lt)
  have := evlI_x (pc : Int) (ps : Int) a0 a1 a2 a3 w' (hs.keep hb) g 0 cap _ _ _ e0 e1 e2 (asT t) (fun w1 hb1 => by
    have := eleI_any t a0 a1 a2 a3 w1 ((hs.keep hb).keep hb1)
    rwa [if_pos hel] at this) _ _ _ _ (exN_any pc) (exN_any ps)
  rw [if_pos (by rw [decide_eq_true hpc, decide_eq_true hps]; rfl), if_pos hpc, if_pos hps] at this
  exact this
end
def prvT (mode : Int) (t2 tp : Tri) : Tri := if mode = 2 then t2 else tp
noncomputable def verK (k : Nat) (tb t1 te : Tri) (pc ps : Nat) : Bool := if k = 1 then chkB 1 gT tb [t1] [te] pc ps else if k = 2 then chkB 2 gT tb [te] [t1] pc ps else true
structure Rf (k : Nat) (F0 F1 F2 F3 F4 F5 F6 : FuncId) : Prop where
  rl : Rl k F0 F1 F2 F3 F4 F5 F6
  e4 : Ent F4
  proved : ∀ (t2 tp : Tri) (a0 a1 a2 a3 : Addr) (w : World), Sn w a0 a1 a2 a3 →
    Calls Tryz.prog F4 #[.agg #[.int .u64 (px (asT tp)), .int .u64 (py (asT tp)), .bool (pb (asT tp))], .agg #[.int .u64 (t2.1 : Int), .int .u64 (t2.2.1 : Int), .bool t2.2.2]] w fun e w' => e = .returned (if twB k t2 = true then .tuple #[.agg #[.int .u64 (px (asT (prvT k t2 tp))), .int .u64 (py (asT (prvT k t2 tp))), .bool (pb (asT (prvT k t2 tp)))], .nilIface] else .tuple #[.agg #[.int .u64 0, .int .u64 0, .bool true], sen a0]) ∧ Below w.heap.size w w'
  verify : ∀ (info : ByteArray) (tb t1 te : Tri) (pc ps : Nat) (a0 a1 a2 a3 : Addr) (w : World), TabK w → Sn w a0 a1 a2 a3 → onT tb = true → onT t1 = true → onT te = true → pc < 2305843010818082053 → ps < 2305843010818082053 →
    Calls Tryz.prog 96 #[.agg #[.string (ctxB k), .string info, .func (.func F0) #[] #[], .func (.func F1) #[] #[], .func (.func F2) #[] #[], .func (.func F3) #[] #[], .func (.func F4) #[] #[], .func (.func F5) #[] #[], .func (.func F6) #[] #[]], .agg #[.int .u64 (px (asT tb)), .int .u64 (py (asT tb)), .bool (pb (asT tb))], .agg #[.int .u64 (px (asT t1)), .int .u64 (py (asT t1)), .bool (pb (asT t1))], .agg #[.int .u64 (px (asT te)), .int .u64 (py (asT te)), .bool (pb (asT te)), .int .u64 pc, .int .u64 ps]] w fun e w' => e = .returned (if verK k tb t1 te pc ps = true then .nilIface else sen a3) ∧ Below w.heap.size w w'
theorem enPA : Ent 154 := fun _ _ => by kernel_rfl
theorem enTA : Ent 162 := fun _ _ => by kernel_rfl
theorem enNC : Ent 155 := fun _ _ => by kernel_rfl
theorem enCF : Ent 157 := fun _ _ => by kernel_rfl
theorem enCB : Ent 163 := fun _ _ => by kernel_rfl
theorem prv_no {k : Nat} (hk : ¬ k = 2) (t2 tp : Tri) (a0 a1 a2 a3 : Addr) (w : World) (hs : Sn w a0 a1 a2 a3) :
    Calls Tryz.prog 154 #[.agg #[.int .u64 (px (asT tp)), .int .u64 (py (asT tp)), .bool (pb (asT tp))], .agg #[.int .u64 (t2.1 : Int), .int .u64 (t2.2.1 : Int), .bool t2.2.2]] w fun e w' => e = .returned (if twB k t2 = true then .tuple #[.agg #[.int .u64 (px (asT (prvT k t2 tp))), .int .u64 (py (asT (prvT k t2 tp))), .bool (pb (asT (prvT k t2 tp)))], .nilIface] else .tuple #[.agg #[.int .u64 0, .int .u64 0, .bool true], sen a0]) ∧ Below w.heap.size w w' := by
  have hk' : ¬ (k : Int) = 2 := by omega
  unfold twB prvT
  rw [if_neg hk', if_neg hk']
  by_cases h : t2 = (0, 0, true)
  · rw [if_pos (decide_eq_true h)]
    subst h
    exact palI_yes (asT tp) w
  · rw [if_neg (by simpa using h)]
    refine palI_no (asT tp) a0 a1 a2 a3 w hs _ _ _ (fun ⟨h0, h1, h2⟩ => h ?_)
    obtain ⟨x, y, c⟩ := t2
    simp only at h0 h1 h2
    rw [h2, show x = 0 by omega, show y = 0 by omega]
theorem prv_two (t2 tp : Tri) (a0 a1 a2 a3 : Addr) (w : World) (hs : Sn w a0 a1 a2 a3) :
    Calls Tryz.prog 162 #[.agg #[.int .u64 (px (asT tp)), .int .u64 (py (asT tp)), .bool (pb (asT tp))], .agg #[.int .u64 (t2.1 : Int), .int .u64 (t2.2.1 : Int), .bool t2.2.2]] w fun e w' => e = .returned (if twB (2 : Nat) t2 = true then .tuple #[.agg #[.int .u64 (px (asT (prvT (2 : Nat) t2 tp))), .int .u64 (py (asT (prvT (2 : Nat) t2 tp))), .bool (pb (asT (prvT (2 : Nat) t2 tp)))], .nilIface] else .tuple #[.agg #[.int .u64 0, .int .u64 0, .bool true], sen a0]) ∧ Below w.heap.size w w' := by
  have h2 : ((2 : Nat) : Int) = 2 := rfl
  unfold twB prvT
  rw [if_pos h2, if_pos h2]
  by_cases h : elT t2 = true
  · rw [if_pos h]
    exact talI_of (asT tp) w _ _ _ _ _ _ _ (fun w' hb => by
      have := eleI_any t2 a0 a1 a2 a3 w' (hs.keep hb)
      rwa [if_pos h] at this)
  · rw [if_neg h]
    exact talI_of (asT tp) w _ _ _ _ _ _ _ (fun w' hb => by
      have := eleI_any t2 a0 a1 a2 a3 w' (hs.keep hb)
      rwa [if_neg h] at this)
theorem chkB_eq {md : Nat} {a b : Tri} {cs ds : List Tri} {c s : Nat} (hB : batB md a b cs ds = true) (hlc : c < 2305843010818082053) (hls : s < 2305843010818082053) : chkB md a b cs ds c s = (((chkC md c s a b cs ds : Nat) : Int) == (c : Int)) := by
  unfold chkB
  rw [hB, decide_eq_true hlc, decide_eq_true hls, Int.toNat_natCast]
  rw [Bool.eq_iff_iff]
  simp
  omega
theorem bat_one {md : Nat} {b t u : Tri} (h : md < 3) (hb : onT b = true) (ht : onT t = true) (hu : onT u = true) : batB md gT b [t] [u] = true := by
  rw [batB_iff]
  refine ⟨by omega, onT_g, hb, by simp, rfl, ?_, ?_⟩ <;> intro x hx <;> rw [List.mem_singleton.1 hx] <;> assumption
theorem acc_one (md : Nat) (b t u : Tri) (g1 g2 c s : Nat) (w : World) (hT : TabK w) (hmd : md < 3) (hb : onT b = true) (ht : onT t = true) (hu : onT u = true) (h1 : Cps w g1 [asT t]) (h2 : Cps w g2 [asT u]) (hc : c < 2305843010818082053) (hs : s < 2305843010818082053) :
    Calls Tryz.prog 66 #[.agg #[.string (ctxB md), .int .u64 (px (asT b)), .int .u64 (py (asT b)), .bool (pb (asT b)), .slice (some ⟨g1, 0, none⟩) 1 1, .slice (some ⟨g2, 0, none⟩) 1 1], .agg #[.int .u64 (px gG), .int .u64 (py gG), .bool (pb gG)], .agg #[.int .u64 c], .agg #[.int .u64 s]] w fun e w' => e = .returned (.bool (chkB md gT b [t] [u] c s)) ∧ Below w.heap.size w w' := by
  have hB := bat_one hmd hb ht hu
  rw [chkB_eq hB hc hs, ← asT_g]
  exact accI_any md 1 g1 1 g2 1 c s (asT gT) (asT b) [asT t] [asT u] w hT hmd (by omega) (by omega) rfl rfl (asT_on _) (asT_on _) (fun p hp => by rw [List.mem_singleton.1 hp]; exact asT_on _) (fun p hp => by rw [List.mem_singleton.1 hp]; exact asT_on _) h1 h2 hc hs (comM md b [t] [u] [t]) (comM md b [t] [u] [u]) rfl rfl (chkC md c s gT b [t] [u]) rfl
theorem rf_0 : Rf 0 150 151 152 153 154 155 156 :=
  ⟨rul_0, enPA, fun t2 tp a0 a1 a2 a3 w hs => prv_no (by omega) t2 tp a0 a1 a2 a3 w hs,
    fun info tb t1 te pc ps a0 a1 a2 a3 w hT hs h1 h2 h3 h4 h5 => verI_no _ info _ _ _ pc ps _ _ _ _ _ _ _ w enNC (fun w' g1 g2 hb => nclI _ info _ w' 1 1 1 1 _ _)⟩
theorem rf_1 : Rf 1 150 151 152 153 154 157 156 :=
  ⟨rul_1, enPA, fun t2 tp a0 a1 a2 a3 w hs => prv_no (by omega) t2 tp a0 a1 a2 a3 w hs,
    fun info tb t1 te pc ps a0 a1 a2 a3 w hT hs h1 h2 h3 h4 h5 => verI_yes _ info _ _ _ pc ps _ _ _ _ _ _ _ a0 a1 a2 a3 w enCF _ _ _ hs (fun w' hb => cfwI _ info _ w' 1 1 1 1 _ _) (fun w' hb p1 p2 => acc_one 1 tb t1 te _ _ pc ps w' (keepT hT (World.block_lt_of_cell? w _ (hT 0 (by omega))) hb) (by omega) h1 h2 h3 p1 p2 h4 h5)⟩
theorem rf_2 : Rf 2 158 159 160 161 162 163 164 :=
  ⟨rul_2, enTA, fun t2 tp a0 a1 a2 a3 w hs => prv_two t2 tp a0 a1 a2 a3 w hs,
    fun info tb t1 te pc ps a0 a1 a2 a3 w hT hs h1 h2 h3 h4 h5 => verI_yes _ info _ _ _ pc ps _ _ _ _ _ _ _ a0 a1 a2 a3 w enCB _ _ _ hs (fun w' hb => cbwI _ info _ w' 1 1 1 1 _ _) (fun w' hb p1 p2 => acc_one 2 tb te t1 _ _ pc ps w' (keepT hT (World.block_lt_of_cell? w _ (hT 0 (by omega))) hb) (by omega) h1 h3 h2 p2 p1 h4 h5)⟩
theorem rf_any (k : Nat) (hk : k < 3) : ∃ F0 F1 F2 F3 F4 F5 F6, Rf k F0 F1 F2 F3 F4 F5 F6 := by
  rcases (show k = 0 ∨ k = 1 ∨ k = 2 by omega) with rfl | rfl | rfl
  · exact ⟨_, _, _, _, _, _, _, rf_0⟩
  · exact ⟨_, _, _, _, _, _, _, rf_1⟩
  · exact ⟨_, _, _, _, _, _, _, rf_2⟩
theorem verB_eq {mode : Int} (hm : 0 ≤ mode ∧ mode ≤ 2) (te t1 t2 tp : Tri) (pc ps : Nat) : verB mode [te] pc ps t1 t2 tp = verK mode.toNat (prvT mode t2 tp) t1 te pc ps := by
  unfold verB verK prvT
  by_cases h1 : mode = 1
  · rw [if_pos h1, if_pos (show mode.toNat = 1 by omega), if_neg (show ¬ mode = 2 by omega)]
  · rw [if_neg h1, if_neg (show ¬ mode.toNat = 1 by omega)]
    by_cases h2 : mode = 2
    · rw [if_pos h2, if_pos (show mode.toNat = 2 by omega), if_pos h2]
    · rw [if_neg h2, if_neg (show ¬ mode.toNat = 2 by omega)]
theorem finI_any (mode : Int) (input info : ByteArray) (blind : Nat) (es : List Tri) (pc ps : Nat) (t1 t2 tp : Tri) (g cap : Nat) (a0 a1 a2 a3 : Addr) (w : World) (hT : TabK w) (hs : Sn w a0 a1 a2 a3) (hp : Pts w g 0 es) :
    Calls Tryz.prog 27 (finA mode input info blind es pc ps t1 t2 tp g cap) w fun e w' => e = .returned (.tuple #[.string (finO mode input info blind es pc ps t1 t2 tp), .int .i64 (finC mode input info blind es pc ps t1 t2 tp)]) ∧ Below w.heap.size w w' := by
  have hgw : 6 < w.heap.size := World.block_lt_of_cell? w _ (hT 0 (by omega))
  obtain ⟨iv, hiv⟩ : ∃ iv, M.ivn 2305843010818082053 blind = iv := ⟨_, rfl⟩
  have hivl : iv < 2305843010818082053 := by rw [← hiv]; exact ivn_lt' _ _ (by decide)
  have IV : blind < 2305843010818082053 → ∀ w, Calls Tryz.prog 97 #[.agg #[.int .u64 blind]] w fun e w' => e = .returned (.agg #[.int .u64 (iv : Int)]) ∧ Below w.heap.size w w' := fun h w => by
    rw [← hiv]
    exact ivN_any blind w h
  have err : ∀ (cd : Int) (v : Value), finC mode input info blind es pc ps t1 t2 tp = cd → ¬ cd = 0 → Er a0 a1 a2 a3 v cd → (∀ w', Below w.heap.size w w' → Calls Tryz.prog 57 (finA mode input info blind es pc ps t1 t2 tp g cap) w' fun e w'' => e = .returned (.tuple #[.string ⟨#[]⟩, v]) ∧ Below w'.heap.size w' w'') →
      Calls Tryz.prog 27 (finA mode input info blind es pc ps t1 t2 tp g cap) w fun e w' => e = .returned (.tuple #[.string (finO mode input info blind es pc ps t1 t2 tp), .int .i64 (finC mode input info blind es pc ps t1 t2 tp)]) ∧ Below w.heap.size w w' := fun cd v h h0 hv hB => by
    have hO : finO mode input info blind es pc ps t1 t2 tp = ⟨#[]⟩ := by unfold finO; rw [h, if_neg h0]
    rw [hO, h]
    exact fnlI_of mode blind pc ps _ _ _ _ _ _ cd _ _ _ input info ⟨#[]⟩ ⟨#[]⟩ _ es.length cap v w hB (fun w' hb => ansS_err ⟨#[]⟩ v cd a0 a1 a2 a3 w' (hs.keep hb) hv)
  by_cases hm : 0 ≤ mode ∧ mode ≤ 2
  · obtain ⟨hk, hk'⟩ := md_of hm.1 hm.2
    obtain ⟨F0, F1, F2, F3, F4, F5, F6, hR⟩ := rf_any mode.toNat hk
    have hfind := hR.rl.find
    have hbad := hR.rl.bad
    have hout := hR.rl.output
    have hprv := hR.proved
    have hver := hR.verify
    have e4 := hR.e4
    rw [hk'] at hfind hbad hout hprv
    have okE := okI_iff hm (info := info)
    have FI := fun (w1 : World) (hb1 : Below w.heap.size w w1) (V : Value) (T : TypeId) (z : Value) (sE : ByteArray) => fnI_of mode blind pc ps t1.1 t1.2.1 t2.1 t2.2.1 tp.1 tp.2.1 pc ps (iv : Int) t1.2.2 t2.2.2 tp.2.2 input info (ctxB mode.toNat) sE (outB mode input info (nt iv (asT (es.headD gT)))) (some ⟨g, 0, none⟩) es.length cap (asT (es.headD gT)) (asT t1) (asT tp) (asT (prvT mode t2 tp)) (nt iv (asT (es.headD gT))) F0 F1 F2 F3 F4 F5 F6 T z V a0 a1 a2 a3 w1 (hs.keep hb1) e4
    by_cases ho : okI mode.toNat info
    · have hFP : ∀ {w1 : World}, Below w.heap.size w w1 → ∀ w', Below w1.heap.size w1 w' → _ := fun {w1} hb1 w' hb => hfind info a0 a1 a2 a3 w' ((hs.keep hb1).keep hb) ho
      by_cases hin : input.size ≤ 65535
      · have htx : txtB mode input.size info.size = true := txtB_iff.2 ⟨hm, hin, (okE.1 ho).1, (okE.1 ho).2⟩
        have nr : ¬ rdyB mode blind es pc ps t1 t2 tp = true → finC mode input info blind es pc ps t1 t2 tp = 1 := fun h => if_neg (fun h' => h h'.2)
        by_cases hkey : keyB blind = true
        · have hFF : ∀ {w1 : World}, Below w.heap.size w w1 → ∀ w', Below w1.heap.size w1 w' → Calls Tryz.prog 79 #[.int .u64 blind] w' fun e w'' => e = .returned (.tuple #[.agg #[.int .u64 (blind : Int)], .nilIface]) ∧ Below w'.heap.size w' w'' := fun {w1} hb1 w' hb => by
            have := facI_any blind a0 a1 a2 a3 w' ((hs.keep hb1).keep hb)
            rwa [if_pos hkey, if_pos hkey] at this
          have hkl := (keyB_iff.1 hkey).2
          by_cases hev : evB es pc ps = true
          · obtain ⟨te, hte, hel, hpc, hps⟩ := evB_one hev
            have hEV : ∀ {w1 : World}, Below w.heap.size w w1 → ∀ w', Below w1.heap.size w1 w' → _ := fun {w1} hb1 w' hb => evlI_yes es pc ps g cap a0 a1 a2 a3 w1 (hs.keep hb1) (hp.below hb1 hp.lt) te hte hel hpc hps w' hb
            have hhd : es.headD gT = te := by rw [hte]; rfl
            rw [← hhd] at hEV
            by_cases h1 : elT t1 = true
            · have hE1 : ∀ {w1 : World}, Below w.heap.size w w1 → ∀ w', Below w1.heap.size w1 w' → Calls Tryz.prog 85 #[.agg #[.int .u64 (t1.1 : Int), .int .u64 (t1.2.1 : Int), .bool t1.2.2]] w' fun e w'' => e = .returned (.tuple #[.agg #[.int .u64 (px (asT t1)), .int .u64 (py (asT t1)), .bool (pb (asT t1))], .nilIface]) ∧ Below w'.heap.size w' w'' := fun {w1} hb1 w' hb => by
                have := eleI_any t1 a0 a1 a2 a3 w' ((hs.keep hb1).keep hb)
                rwa [if_pos h1] at this
              by_cases h3 : elT tp = true
              · have hE3 : ∀ {w1 : World}, Below w.heap.size w w1 → ∀ w', Below w1.heap.size w1 w' → Calls Tryz.prog 85 #[.agg #[.int .u64 (tp.1 : Int), .int .u64 (tp.2.1 : Int), .bool tp.2.2]] w' fun e w'' => e = .returned (.tuple #[.agg #[.int .u64 (px (asT tp)), .int .u64 (py (asT tp)), .bool (pb (asT tp))], .nilIface]) ∧ Below w'.heap.size w' w'' := fun {w1} hb1 w' hb => by
                  have := eleI_any tp a0 a1 a2 a3 w' ((hs.keep hb1).keep hb)
                  rwa [if_pos h3] at this
                by_cases h2 : twB mode t2 = true
                · have hPV := fun {w1 : World} (hb1 : Below w.heap.size w w1) w' (hb : Below w1.heap.size w1 w') => hprv t2 tp a0 a1 a2 a3 w' ((hs.keep hb1).keep hb)
                  simp only [h2, if_true] at hPV
                  have hC : finC mode input info blind es pc ps t1 t2 tp = if verB mode es pc ps t1 t2 tp = true then 0 else 4 := if_pos ⟨htx, rdyB_iff.2 ⟨hkey, h3, hev, h1, h2⟩⟩
                  have hob : onT (prvT mode t2 tp) = true := by
                    unfold prvT
                    unfold twB at h2
                    by_cases h : mode = 2
                    · rw [if_pos h] at h2 ⊢; exact elT_on h2
                    · rw [if_neg h]; exact elT_on h3
                  have hVE := fun {w1 : World} (hb1 : Below w.heap.size w w1) w' (hb : Below w1.heap.size w1 w') => hver info (prvT mode t2 tp) t1 te pc ps a0 a1 a2 a3 w' (keepT hT hgw (hb1.trans (hb.mono hb1.size))) ((hs.keep hb1).keep hb) hob (elT_on h1) (elT_on hel) hpc hps
                  rw [hte, verB_eq hm] at hC
                  rw [← hhd] at hVE hC
                  by_cases hv : verK mode.toNat (prvT mode t2 tp) t1 (es.headD gT) pc ps = true
                  · rw [if_pos hv] at hC
                    simp only [hv, if_true] at hVE
                    rw [hhd, ← hte] at hC
                    have hO : finO mode input info blind es pc ps t1 t2 tp = outB mode input info (nt iv (asT (es.headD gT))) := by unfold finO; rw [hC, if_pos rfl, hiv]
                    rw [hO, hC]
                    exact fnlI_of mode blind pc ps _ _ _ _ _ _ 0 _ _ _ input info _ _ _ es.length cap .nilIface w (fun w1 hb1 => FI w1 hb1 _ 0 .nilIface ⟨#[]⟩ (.inr ⟨hFP hb1, .inr ⟨hin, .inr ⟨hFF hb1, .inr ⟨hEV hb1, .inr ⟨hE1 hb1, .inr ⟨hE3 hb1, .inr ⟨hPV hb1, .inr ⟨hVE hb1, rfl, IV hkl, fun w' => cplT (asT_on _) iv hivl w', fun w' hb => hout input info _ w' (keepT hT hgw (hb1.trans (hb.mono hb1.size))) hin (okE.1 ho).1⟩⟩⟩⟩⟩⟩⟩⟩)) (fun w' hb => ansS_ok _ w')
                  · rw [if_neg hv] at hC
                    simp only [hv] at hVE
                    rw [hhd, ← hte] at hC
                    exact err 4 (flt ⟨#[112, 114, 111, 111, 102]⟩ (sen a3)) hC (by decide) (er_ver _) (fun w1 hb1 => FI w1 hb1 _ 0 .nilIface ⟨#[]⟩ (.inr ⟨hFP hb1, .inr ⟨hin, .inr ⟨hFF hb1, .inr ⟨hEV hb1, .inr ⟨hE1 hb1, .inr ⟨hE3 hb1, .inr ⟨hPV hb1, .inl ⟨rfl, hVE hb1⟩⟩⟩⟩⟩⟩⟩⟩))
                · have hPV := fun {w1 : World} (hb1 : Below w.heap.size w w1) w' (hb : Below w1.heap.size w1 w') => hprv t2 tp a0 a1 a2 a3 w' ((hs.keep hb1).keep hb)
                  simp only [h2] at hPV
                  exact err 1 (flt ⟨#[116, 119, 101, 97, 107, 101, 100]⟩ (sen a0)) (nr (fun h => h2 (rdyB_iff.1 h).2.2.2.2)) (by decide) (er_args _) (fun w1 hb1 => FI w1 hb1 _ 0 .nilIface ⟨#[]⟩ (.inr ⟨hFP hb1, .inr ⟨hin, .inr ⟨hFF hb1, .inr ⟨hEV hb1, .inr ⟨hE1 hb1, .inr ⟨hE3 hb1, .inl ⟨rfl, hPV hb1⟩⟩⟩⟩⟩⟩⟩))
              · exact err 1 (flt ⟨#[112, 117, 98, 108, 105, 99]⟩ (sen a0)) (nr (fun h => h3 (rdyB_iff.1 h).2.1)) (by decide) (er_args _) (fun w1 hb1 => FI w1 hb1 _ 0 .nilIface ⟨#[]⟩ (.inr ⟨hFP hb1, .inr ⟨hin, .inr ⟨hFF hb1, .inr ⟨hEV hb1, .inr ⟨hE1 hb1, .inl ⟨rfl, fun w' hb => by
                  have := eleI_any tp a0 a1 a2 a3 w' ((hs.keep hb1).keep hb)
                  rwa [if_neg h3] at this⟩⟩⟩⟩⟩⟩))
            · exact err 1 (flt ⟨#[98, 108, 105, 110, 100, 101, 100, 32, 101, 108, 101, 109, 101, 110, 116]⟩ (sen a0)) (nr (fun h => h1 (rdyB_iff.1 h).2.2.2.1)) (by decide) (er_args _) (fun w1 hb1 => FI w1 hb1 _ 0 .nilIface ⟨#[]⟩ (.inr ⟨hFP hb1, .inr ⟨hin, .inr ⟨hFF hb1, .inr ⟨hEV hb1, .inl ⟨rfl, fun w' hb => by
                have := eleI_any t1 a0 a1 a2 a3 w' ((hs.keep hb1).keep hb)
                rwa [if_neg h1] at this⟩⟩⟩⟩⟩))
          · obtain ⟨sE, hsE⟩ := evlI_no es pc ps g cap a0 a1 a2 a3 w hs hp hev
            exact err 1 (flt ⟨#[101, 118, 97, 108, 117, 97, 116, 101, 100]⟩ (flt sE (sen a0))) (nr (fun h => hev (rdyB_iff.1 h).2.2.1)) (by decide) (er_args2 _ _) (fun w1 hb1 => FI w1 hb1 _ 0 .nilIface sE (.inr ⟨hFP hb1, .inr ⟨hin, .inr ⟨hFF hb1, .inl ⟨rfl, fun w' hb => hsE w' (hb1.trans (hb.mono hb1.size))⟩⟩⟩⟩))
        · exact err 1 (flt ⟨#[98, 108, 105, 110, 100]⟩ (sen a0)) (nr (fun h => hkey (rdyB_iff.1 h).1)) (by decide) (er_args _) (fun w1 hb1 => FI w1 hb1 _ 0 .nilIface ⟨#[]⟩ (.inr ⟨hFP hb1, .inr ⟨hin, .inl ⟨rfl, fun w' hb => by
            have := facI_any blind a0 a1 a2 a3 w' ((hs.keep hb1).keep hb)
            rwa [if_neg hkey, if_neg hkey] at this⟩⟩⟩))
      · exact err 1 (flt ⟨#[105, 110, 112, 117, 116]⟩ (sen a0)) (if_neg (fun h => hin (txtB_iff.1 h.1).2.1)) (by decide) (er_args _) (fun w1 hb1 => FI w1 hb1 _ 0 .nilIface ⟨#[]⟩ (.inr ⟨hFP hb1, .inl ⟨rfl, by omega⟩⟩))
    · exact err 1 (flt ⟨#[105, 110, 102, 111]⟩ (sen a0)) (if_neg (fun h => ho (okE.2 ⟨(txtB_iff.1 h.1).2.2.1, (txtB_iff.1 h.1).2.2.2⟩))) (by decide) (er_args _) (fun w1 hb1 => FI w1 hb1 _ 150 (.agg #[.string ⟨#[105, 110, 102, 111]⟩, sen a0]) ⟨#[]⟩ (.inl ⟨rfl, fun w' hb => hbad info a0 a1 a2 a3 w' ((hs.keep hb1).keep hb) ho⟩))
  · exact err 1 (flt ⟨#[109, 111, 100, 101]⟩ (sen a0)) (if_neg (fun h => hm (txtB_iff.1 h.1).1)) (by decide) (er_args _) (fun w1 hb1 => fnI_of mode blind pc ps t1.1 t1.2.1 t2.1 t2.2.1 tp.1 tp.2.1 pc ps 0 t1.2.2 t2.2.2 tp.2.2 input info ⟨#[]⟩ ⟨#[]⟩ ⟨#[]⟩ (some ⟨g, 0, none⟩) es.length cap none none none none none 0 0 0 0 154 0 0 150 (.agg #[.string ⟨#[109, 111, 100, 101]⟩, sen a0]) _ a0 a1 a2 a3 w1 (hs.keep hb1) enPA (.inl ⟨rfl, fun w' hb => proI_no mode _ info a0 a1 a2 a3 w' ((hs.keep hb1).keep hb) (fun w => ctxI_no mode w hm)⟩))
end Go.Proofs.YtjmhmajfkdglnaaGreatDoor
namespace Go.Proofs.YtjmhmajfkdglnaaGreatDoor
open Go.ChangeShapes Go.WideShapes Go.ChangeAt Go.RowKit Go.Deep
theorem cellsU : Tryz.prog.cellsOf 22 = 1 := by kernel_rfl
theorem cellsB : Tryz.prog.cellsOf 4 = 1 := by kernel_rfl
theorem cellsLP : Tryz.prog.cellsOf 27 = 3 := by kernel_rfl
section
variable {H : Type} {enc : TypeId × Value → H} {W : World} {base b0 : Nat} {sp : Nat → Bool} {held : Bool}
theorem open_pt {r : Reach} {v : Value} {d : DataW H} {ps : List MemPlace} (hval : Value.okWide Tryz.prog W r b0 27 v) (hd : DataW.Trod enc Tryz.prog W base sp held 27 v d ps) :
    ∃ (x y : Nat) (c : Bool), v = .agg #[.int .u64 x, .int .u64 y, .bool c] ∧ d = .agg [.lit (.int .u64 x), .lit (.int .u64 y), .lit (.bool c)] ∧ ps = [] ∧ (Lit.int .u64 (x : Int)).wf = true ∧ (Lit.int .u64 (y : Int)).wf = true ∧ x < 18446744073709551616 ∧ y < 18446744073709551616 := by
  obtain ⟨cs, rfl, hs⟩ := okWide_struct Tryz.underlying27 hval
  rw [cellsLP] at hs
  obtain ⟨fuel, hf⟩ := hd
  obtain ⟨y0, y1, y2, n, hx, -, t0, t1, t2⟩ := trod_struct3 Tryz.underlying27 hf
  simp only [cellsU, cellsB] at t0 t1 t2
  obtain ⟨a, e0, rfl, w0⟩ := DataW.trod_int Tryz.underlying22 t0
  obtain ⟨b, e1, rfl, w1⟩ := DataW.trod_int Tryz.underlying22 t1
  obtain ⟨c, e2, rfl⟩ := DataW.trod_bool Tryz.underlying4 t2
  obtain ⟨l⟩ := cs
  match l, hs with
  | [p, q, s], _ =>
    simp [Value.cells] at e0 e1 e2
    subst e0 e1 e2
    obtain ⟨x, rfl, lx⟩ := u64_nat w0
    obtain ⟨y, rfl, ly⟩ := u64_nat w1
    simp only [Prod.mk.injEq, List.append_nil] at hx
    exact ⟨x, y, c, rfl, hx.1, hx.2, w0, w1, lx, ly⟩
theorem shut_pt {x y : Int} (c : Bool) (wx : (Lit.int .u64 x).wf = true) (wy : (Lit.int .u64 y).wf = true) :
    DataW.Trod enc Tryz.prog W base sp held 27 (.agg #[.int .u64 x, .int .u64 y, .bool c]) (.agg [.lit (.int .u64 x), .lit (.int .u64 y), .lit (.bool c)]) [] := by
  refine ⟨2, ?_⟩
  have h := trod_struct3_mk (enc := enc) (w := W) (base := base) (spare := sp) (held := held) (n := 1) (cs := [.int .u64 x, .int .u64 y, .bool c]) (y0 := (.lit (.int .u64 x), [])) (y1 := (.lit (.int .u64 y), [])) (y2 := (.lit (.bool c), [])) Tryz.underlying27 (by rw [cellsLP]; rfl)
    (by simp only [cellsU]; exact trod_int_mk 0 Tryz.underlying22 wx) (by simp only [cellsU]; exact trod_int_mk 0 Tryz.underlying22 wy) (by simp only [cellsB]; simp [DataW.trod, Tryz.underlying4])
  exact h
theorem ars_of {a : Option Addr} {len cap : Nat} {d : DataW H} {p : List MemPlace} (h : DataW.Trod enc Tryz.prog W 0 (fun _ => true) true 36 (.slice a len cap) d p) : ∃ ps : List Tri, Ars W (.slice a len cap) ps ∧ ps.length ≤ maxLen := by
  obtain ⟨fuel, hf⟩ := h
  rcases DataW.trod_slice Tryz.underlying36 hf with ⟨hcs, -⟩ | ⟨ad, len', cap', elems, rest, n, -, hcs, -, -, hl, hm, hlen, hel, -, -⟩
  · simp [Value.cells] at hcs
    obtain ⟨rfl, rfl, rfl⟩ := hcs
    exact ⟨[], ⟨none, 0, 0, rfl, rfl, .inl rfl⟩, by simp⟩
  · simp [Value.cells] at hcs
    obtain ⟨rfl, rfl, rfl⟩ := hcs
    have key : ∀ i, i < len → ∃ t : Tri, W.cell? (ad.add (i * 3)) = some (.int .u64 (t.1 : Int)) ∧ W.cell? ((ad.add (i * 3)).add 1) = some (.int .u64 (t.2.1 : Int)) ∧ W.cell? ((ad.add (i * 3)).add 2) = some (.bool t.2.2) := by
      intro i hi
      have h1 := hel i hi
      rw [List.getElem?_eq_getElem (by omega), cellsLP, Option.bind_eq_some_iff] at h1
      obtain ⟨cs, hcs, ht⟩ := h1
      obtain ⟨-, hl3, hc3⟩ := World.cells?_some hcs
      obtain ⟨y0, y1, y2, m, hx, -, t0, t1, t2⟩ := trod_struct3 Tryz.underlying27 ht
      simp only [cellsU, cellsB] at t0 t1 t2
      obtain ⟨a, e0, -, w0⟩ := DataW.trod_int Tryz.underlying22 t0
      obtain ⟨b, e1, -, w1⟩ := DataW.trod_int Tryz.underlying22 t1
      obtain ⟨c, e2, -⟩ := DataW.trod_bool Tryz.underlying4 t2
      match cs, hl3 with
      | [p, q, s], _ =>
        simp at e0 e1 e2
        subst e0 e1 e2
        obtain ⟨x, rfl, lx⟩ := u64_nat w0
        obtain ⟨y, rfl, ly⟩ := u64_nat w1
        have k0 := hc3 0 (by simp)
        have k1 := hc3 1 (by simp)
        have k2 := hc3 2 (by simp)
        refine ⟨(x, y, c), ?_, ?_, ?_⟩
        · simpa [Addr.add] using k0
        · simpa using k1
        · simpa using k2
    by_cases h0 : len = 0
    · exact ⟨[], ⟨_, len, cap, rfl, by simp [h0], .inl h0⟩, by simp⟩
    · have hsp : ad.spot = none := by
        obtain ⟨t, k0, -⟩ := key 0 (by omega)
        simp only [Nat.zero_mul, Addr.add, if_true] at k0
        unfold World.cell? at k0
        split at k0
        · split at k0
          · cases k0
          · rename_i h; simpa using h
        · cases k0
      obtain ⟨b, o, sp⟩ := ad
      obtain rfl : sp = none := hsp
      have ha : ∀ (k i : Nat), (⟨b, k, none⟩ : Addr).add i = ⟨b, k + i, none⟩ := fun k i => by unfold Addr.add; split <;> simp_all
      have key' : ∀ i, i < len → ∃ t : Tri, W.cell? ⟨b, o + i * 3, none⟩ = some (.int .u64 (t.1 : Int)) ∧ W.cell? ⟨b, o + i * 3 + 1, none⟩ = some (.int .u64 (t.2.1 : Int)) ∧ W.cell? ⟨b, o + i * 3 + 2, none⟩ = some (.bool t.2.2) := fun i hi => by
        obtain ⟨t, k0, k1, k2⟩ := key i hi
        rw [ha] at k0 k1 k2
        rw [ha] at k1 k2
        exact ⟨t, k0, k1, k2⟩
      clear key
      refine ⟨(List.range len).attach.map fun i => (key' i.1 (List.mem_range.1 i.2)).choose, ⟨_, len, cap, rfl, by simp, .inr ⟨b, o, rfl, ?_⟩⟩, by simp; omega⟩
      have at' : ∀ i (t : Tri), ((List.range len).attach.map fun i => (key' i.1 (List.mem_range.1 i.2)).choose)[i]? = some t → ∃ hi : i < len, t = (key' i hi).choose := by
        intro i t ht
        rw [List.getElem?_map] at ht
        obtain ⟨j, hj, rfl⟩ := Option.map_eq_some_iff.1 ht
        have hj' := (List.getElem?_eq_some_iff.1 hj)
        obtain ⟨hlt, he⟩ := hj'
        have hi : i < len := by simpa using hlt
        have : j.1 = i := by rw [← he]; simp
        exact ⟨hi, by subst this; rfl⟩
      have hbl : b < W.heap.size := by
        obtain ⟨t, k0, -⟩ := key' 0 (by omega)
        exact World.block_lt_of_cell? W _ k0
      refine ⟨hbl, fun i t ht => ?_, fun i t ht => ?_, fun i t ht => ?_⟩
      · obtain ⟨hi, rfl⟩ := at' i t ht
        exact (key' i hi).choose_spec.1
      · obtain ⟨hi, rfl⟩ := at' i t ht
        exact (key' i hi).choose_spec.2.1
      · obtain ⟨hi, rfl⟩ := at' i t ht
        exact (key' i hi).choose_spec.2.2
end
theorem eqF (x y : Int) (w : World) :
    Calls Tryz.prog 51 #[.agg #[.int .u64 x, .int .u64 y], .agg #[.int .u64 x, .int .u64 y]] w fun e w' => e = .returned (.bool true) ∧ Below w.heap.size w w' := by
  go_enter Tryz.func51, Tryz.ntmps51
  go_wp2
  go_ret
  exact ⟨rfl, ((Below.refl _ w).alloc (Nat.le_refl _) _).alloc (by simp) _⟩
end Go.Proofs.YtjmhmajfkdglnaaGreatDoor
