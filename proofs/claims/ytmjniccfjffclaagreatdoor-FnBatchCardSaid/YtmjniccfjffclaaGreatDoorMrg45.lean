import Derived.Test.YtmjniccfjffclaaGreatDoorMrg44
set_option linter.unusedVariables false
set_option maxRecDepth 100000
set_option maxHeartbeats 16000000
namespace Go.Proofs.YtmjniccfjffclaaGreatDoor
open Go.Proofs.Tryz Go.RowKit
open Go.Value (int)
open Go.IntKind (u64)
section
open M
def Ent (f:FuncId):Prop:=∀(args:Array Value) (w:World),(callFunc f args).run prog w= .ok (.enter f args) w
def okI (k:Nat)(info:ByteArray):Prop:=if k=2 then info.size≤60000 else info.size=0
structure Rl (k:Nat)(F0 F1 F2 F3 F4 F5 F6:FuncId):Prop where
  e1:Ent F1
  e2:Ent F2
  secret:∀(key:Nat) (info:ByteArray) (a0 a1 a2 a3:Addr) (w:World),TabK w→Sn w a0 a1 a2 a3→key<2305843010818082053→info.size≤60000→
    Cr F1 #[.agg #[.string (ctxB k),.string info],.agg #[int u64 key]] w (.tuple #[.agg #[int u64 (facT k key info:Nat)],if facC k key info=0 then .nilIface else sen a2])
  factor:∀(key:Nat) (info:ByteArray) (w:World),key<2305843010818082053→facC k key info=0→
    Cr F2 #[.agg #[int u64 (facT k key info:Nat)]] w (.agg #[int u64 (facB k key info:Nat)])
  output:∀(input info:ByteArray) (u:Pt) (w:World),TabK w→input.size≤65535→info.size≤60000→
    Cr 96 #[.agg #[.string (ctxB k),.string info,.func (.func F0) #[] #[],.func (.func F1) #[] #[],.func (.func F2) #[] #[],.func (.func F3) #[] #[],.func (.func F4) #[] #[],.func (.func F5) #[] #[],.func (.func F6) #[] #[]],.string input,.agg #[int u64 (px u),int u64 (py u),.bool (pb u)]] w (.string (outB k input info u))
  find:∀(info:ByteArray) (a0 a1 a2 a3:Addr) (w:World),Sn w a0 a1 a2 a3→okI k info→
    Cr 71 #[.int .i64 k,.string info] w (.tuple #[.agg #[.string (ctxB k),.string info,.func (.func F0) #[] #[],.func (.func F1) #[] #[],.func (.func F2) #[] #[],.func (.func F3) #[] #[],.func (.func F4) #[] #[],.func (.func F5) #[] #[],.func (.func F6) #[] #[]],.nilIface])
  bad:∀(info:ByteArray) (a0 a1 a2 a3:Addr) (w:World),Sn w a0 a1 a2 a3→ ¬ okI k info→
    Cr 71 #[.int .i64 k,.string info] w (.tuple #[.agg zPro,flt ⟨#[105,110,102,111]⟩ (sen a0)])
theorem ixR0 (w:World):(Instr.index 181 (.agg rulL.toArray) (.int .i64 ((0:Nat):Int))).run prog w= .ok (.agg #[.func (.func 134) #[] #[],.func (.func 135) #[] #[],.func (.func 136) #[] #[],.func (.func 137) #[] #[],.func (.func 138) #[] #[],.func (.func 139) #[] #[],.func (.func 140) #[] #[]]) w:=by kernel_rfl
theorem ixR1 (w:World):(Instr.index 181 (.agg rulL.toArray) (.int .i64 ((1:Nat):Int))).run prog w= .ok (.agg #[.func (.func 134) #[] #[],.func (.func 135) #[] #[],.func (.func 136) #[] #[],.func (.func 137) #[] #[],.func (.func 138) #[] #[],.func (.func 141) #[] #[],.func (.func 140) #[] #[]]) w:=by kernel_rfl
theorem ixR2 (w:World):(Instr.index 181 (.agg rulL.toArray) (.int .i64 ((2:Nat):Int))).run prog w= .ok (.agg #[.func (.func 142) #[] #[],.func (.func 143) #[] #[],.func (.func 144) #[] #[],.func (.func 145) #[] #[],.func (.func 146) #[] #[],.func (.func 147) #[] #[],.func (.func 148) #[] #[]]) w:=by kernel_rfl
theorem enNI:Ent 134:=fun _ _=>by kernel_rfl
theorem enSI:Ent 142:=fun _ _=>by kernel_rfl
theorem enKA:Ent 135:=fun _ _=>by kernel_rfl
theorem enKT:Ent 143:=fun _ _=>by kernel_rfl
theorem enSE:Ent 136:=fun _ _=>by kernel_rfl
theorem enSV:Ent 144:=fun _ _=>by kernel_rfl
theorem enNP:Ent 140:=fun _ _=>by kernel_rfl
theorem enIP:Ent 148:=fun _ _=>by kernel_rfl
theorem noInf_yes (info:ByteArray)(h:info.size=0)(w:World):Calls prog 134 #[.string info] w fun e w'=>e= .returned (.bool true)∧w=w':=by
  have:=noInf info w;rwa [decide_eq_true h] at this
theorem noInf_no (info:ByteArray)(h: ¬ info.size=0)(w:World):Calls prog 134 #[.string info] w fun e w'=>e= .returned (.bool false)∧w=w':=by
  have:=noInf info w;rwa [decide_eq_false h] at this
theorem shoInf_yes (info:ByteArray)(h:info.size≤60000)(w:World):Calls prog 142 #[.string info] w fun e w'=>e= .returned (.bool true)∧w=w':=by
  have:=shoInf info w;rwa [decide_eq_true h] at this
theorem shoInf_no (info:ByteArray)(h: ¬ info.size≤60000)(w:World):Calls prog 142 #[.string info] w fun e w'=>e= .returned (.bool false)∧w=w':=by
  have:=shoInf info w;rwa [decide_eq_false h] at this
theorem facC_no {k:Nat}(hk: ¬ k=2)(key:Nat)(info:ByteArray):facC k key info=0:=if_neg (fun h=>hk (by have:=h.1;omega))
theorem facT_no {k:Nat}(hk: ¬ k=2)(key:Nat)(info:ByteArray):facT k key info=key:=if_neg (by omega)
theorem facB_no {k:Nat}(hk: ¬ k=2)(key:Nat)(info:ByteArray):facB k key info=key:=if_neg (by omega)
section
variable {k:Nat}(hk: ¬ k=2)
include hk
theorem secr_no (key:Nat)(info:ByteArray)(a0 a1 a2 a3:Addr)(w:World):
    Cr 135 #[.agg #[.string (ctxB k),.string info],.agg #[int u64 key]] w (.tuple #[.agg #[int u64 (facT k key info:Nat)],if facC k key info=0 then .nilIface else sen a2]):=by
  rw [facC_no hk,facT_no hk,if_pos rfl];exact kalI _ _ _ w
theorem fact_no (key:Nat)(info:ByteArray)(w:World):
    Cr 136 #[.agg #[int u64 (facT k key info:Nat)]] w (.agg #[int u64 (facB k key info:Nat)]):=by
  rw [facT_no hk,facB_no hk];exact sitI _ w
theorem okI_no {info:ByteArray}:okI k info↔info.size=0:=by unfold okI;rw [if_neg hk]
end
theorem okI_two {info:ByteArray}:okI 2 info↔info.size≤60000:=by unfold okI;rw [if_pos rfl]
theorem facT_two (key:Nat)(info:ByteArray):facT (2:Nat) key info=kt key info:=if_pos rfl
theorem facC_two (key:Nat)(info:ByteArray):facC (2:Nat) key info=if kt key info=0 then 3 else 0:=by
  unfold facC;by_cases h:kt key info=0
  · rw [if_pos h,if_pos ⟨rfl,h⟩]
  · rw [if_neg h,if_neg (fun h'=>h h'.2)]
theorem secr_two (key:Nat)(info:ByteArray)(a0 a1 a2 a3:Addr)(w:World)(hT:TabK w)(hs:Sn w a0 a1 a2 a3)(hk:key<2305843010818082053)(hi:info.size≤60000):
    Cr 143 #[.agg #[.string (ctxB 2),.string info],.agg #[int u64 key]] w (.tuple #[.agg #[int u64 (facT (2:Nat) key info:Nat)],if facC (2:Nat) key info=0 then .nilIface else sen a2]):=by
  have hgw:7<w.heap.size:=World.block_lt_of_cell? w _ (hT 0 (by omega));have h:=kntI_of (ctxB 2) info (key:Int) ((twk info:Nat):Int) ((kt key info:Nat):Int) a0 a1 a2 a3 w hs (fun w' hb=>twkI_any info w' (keepT hT hgw hb) hi) (fun w=>plN_any key (twk info) w hk (twk_lt info));rw [facT_two,facC_two];by_cases h0:kt key info=0
  · rw [if_pos (by omega)] at h;rw [if_pos h0,if_neg (by decide)];exact h
  · rw [if_neg (by omega)] at h;rw [if_neg h0,if_pos rfl];exact h
theorem fact_two (key:Nat)(info:ByteArray)(w:World)(h:facC (2:Nat) key info=0):
    Cr 144 #[.agg #[int u64 (facT (2:Nat) key info:Nat)]] w (.agg #[int u64 (facB (2:Nat) key info:Nat)]):=by
  have h0: ¬ kt key info=0:=fun h0=>by rw [facC_two,if_pos h0] at h;cases h
  have e:facB (2:Nat) key info=M.ivn 2305843010818082053 (kt key info):=by unfold facB;rw [if_pos (by decide),if_neg h0]
  rw [facT_two,e];exact secI_of _ _ w (fun w=>ivN_any _ w (kt_lt key info))
theorem rul_0:Rl 0 134 135 136 137 138 139 140:=
  ⟨enKA,enSE,fun key info a0 a1 a2 a3 w _ _ _ _=>secr_no (by omega) key info a0 a1 a2 a3 w,fun key info w _ _=>fact_no (by omega) key info w,fun input info u w hT h1 h2=>outI_no _ info input u _ _ _ _ _ _ _ w hT h1 h2 enNP ((0:Nat):Int) (by decide) (nopI info),
      fun info a0 a1 a2 a3 w hs h=>proI_ok _ _ info _ _ _ _ _ _ _ _ a0 a1 a2 a3 w hs (fun w=>ctxI_yes 0 w (by omega)) rulI ixR0 enNI (noInf_yes info ((okI_no (by omega)).1 h)),
      fun info a0 a1 a2 a3 w hs h=>proI_bad _ _ info _ _ _ _ _ _ _ _ a0 a1 a2 a3 w hs (fun w=>ctxI_yes 0 w (by omega)) rulI ixR0 enNI (noInf_no info (fun h'=>h ((okI_no (by omega)).2 h')))⟩
theorem rul_1:Rl 1 134 135 136 137 138 141 140:=
  ⟨enKA,enSE,fun key info a0 a1 a2 a3 w _ _ _ _=>secr_no (by omega) key info a0 a1 a2 a3 w,fun key info w _ _=>fact_no (by omega) key info w,fun input info u w hT h1 h2=>outI_no _ info input u _ _ _ _ _ _ _ w hT h1 h2 enNP ((1:Nat):Int) (by decide) (nopI info),
      fun info a0 a1 a2 a3 w hs h=>proI_ok _ _ info _ _ _ _ _ _ _ _ a0 a1 a2 a3 w hs (fun w=>ctxI_yes 1 w (by omega)) rulI ixR1 enNI (noInf_yes info ((okI_no (by omega)).1 h)),
      fun info a0 a1 a2 a3 w hs h=>proI_bad _ _ info _ _ _ _ _ _ _ _ a0 a1 a2 a3 w hs (fun w=>ctxI_yes 1 w (by omega)) rulI ixR1 enNI (noInf_no info (fun h'=>h ((okI_no (by omega)).2 h')))⟩
theorem rul_2:Rl 2 142 143 144 145 146 147 148:=
  ⟨enKT,enSV,fun key info a0 a1 a2 a3 w hT hs hk hi=>secr_two key info a0 a1 a2 a3 w hT hs hk hi,fun key info w _ h=>fact_two key info w h,fun input info u w hT h1 h2=>outI_two _ info input u _ _ _ _ _ _ _ w hT h1 h2 enIP (ipaI info),
      fun info a0 a1 a2 a3 w hs h=>proI_ok _ _ info _ _ _ _ _ _ _ _ a0 a1 a2 a3 w hs (fun w=>ctxI_yes 2 w (by omega)) rulI ixR2 enSI (shoInf_yes info (okI_two.1 h)),
      fun info a0 a1 a2 a3 w hs h=>proI_bad _ _ info _ _ _ _ _ _ _ _ a0 a1 a2 a3 w hs (fun w=>ctxI_yes 2 w (by omega)) rulI ixR2 enSI (shoInf_no info (fun h'=>h (okI_two.2 h')))⟩
theorem cplT {p:Pt}(hp:on p)(k:Nat)(hk:k<2305843010818082053)(w:World):
    Cr 42 #[.agg #[int u64 (px p),int u64 (py p),.bool (pb p)],int u64 k] w (.agg #[int u64 (px (nt k p)),int u64 (py (nt k p)),.bool (pb (nt k p))]):=by
  have:=ctmV hp k (by omega) w;rwa [ptW_eq,ptW_eq] at this
theorem okI_iff {mode:Int}(hm:0≤mode∧mode≤2){info:ByteArray}:okI mode.toNat info↔info.size≤60000∧(mode=2∨info.size=0):=by
  unfold okI;by_cases h2:mode.toNat=2
  · rw [if_pos h2];constructor
    · intro h;exact⟨h,.inl (by omega)⟩
    · exact fun h=>h.1
  · rw [if_neg h2];constructor
    · intro h;exact⟨by omega,.inr h⟩
    · rintro⟨-,h|h⟩
      · exact absurd h (by omega)
      · exact h
theorem evtI_of (cx info:ByteArray)(s r c' s':Int)(fN n g1 k1:Nat)(cs:List Pt)(F0 F1 F2 F3 F4 F5 F6:FuncId)(w:World)(hcf:∀(args:Array Value) (w:World),(callFunc F2 args).run prog w= .ok (.enter F2 args) w)(hl:cs.length=n)(h1:1≤n)(hn:n≤200)(hfN:fN<2305843010818082053)(hon:∀p∈cs,on p)(hc:Cps w g1 cs)
    (FA:Cc F2 #[.agg #[int u64 s]] (.agg #[int u64 (fN:Int)]))
    (PV:∀w' g2 k2,Bl w w'→Cps w' g2 (cs.map (nt fN))→Cr 108 #[.agg #[.string cx,.string info,.func (.func F0) #[] #[],.func (.func F1) #[] #[],.func (.func F2) #[] #[],.func (.func F3) #[] #[],.func (.func F4) #[] #[],.func (.func F5) #[] #[],.func (.func F6) #[] #[]],.agg #[int u64 s],.slice (some ⟨g1,0,none⟩) n k1,.slice (some ⟨g2,0,none⟩) n k2,.agg #[int u64 r]] w' (.agg #[int u64 c',int u64 s'])):
    Calls prog 74 #[.agg #[.string cx,.string info,.func (.func F0) #[] #[],.func (.func F1) #[] #[],.func (.func F2) #[] #[],.func (.func F3) #[] #[],.func (.func F4) #[] #[],.func (.func F5) #[] #[],.func (.func F6) #[] #[]],.agg #[int u64 s],.slice (some ⟨g1,0,none⟩) n k1,.agg #[int u64 r]] w fun e w'=>∃v,e= .returned (.agg #[v,int u64 c',int u64 s'])∧w'.ownsRow w.heap.size 34 3 v n (cells3 (cs.map (nt fN)))∧Bl w w':=by
  obtain⟨i0,hi,hz0,hz1,hz2⟩:=info_parts infoCP;obtain⟨j0,ji,jz0,jz1,jz2⟩:=info_parts infoP3;obtain⟨CS,hCS⟩:∃CS,Hid (CS=fun j=>cells3 ((cs.take j).map (nt fN))):=⟨_,rfl⟩
  have hst:Hid (∀j,j<n→∃p:Pt,cs[j]? =some p∧on p∧CS (j+1)=CS j++ [int u64 (px (nt fN p)),int u64 (py (nt fN p)),.bool (pb (nt fN p))]):=fun j hj=>by
    obtain⟨t,ht⟩:∃t,cs[j]? =some t:=⟨_,List.getElem?_eq_getElem (by omega)⟩;refine⟨t,ht,hon t (List.mem_of_getElem? ht),?_⟩;rw [hCS.out];simp only;rw [List.take_add_one,ht,List.map_append,cells3_app];rfl
  have hC0:CS 0= []:=by rw [hCS.out];rfl
  have hCn:Hid (CS n=cells3 (cs.map (nt fN))):=by simp only [Hid];rw [hCS.out,←hl];simp
  clear hCS hl hon;obtain⟨X,hX⟩:∃X,X=(((w.alloc (Obj.cells #[.string cx,.string info,.func (.func F0) #[] #[],.func (.func F1) #[] #[],.func (.func F2) #[] #[],.func (.func F3) #[] #[],.func (.func F4) #[] #[],.func (.func F5) #[] #[],.func (.func F6) #[] #[]] 130)).alloc (Obj.cells #[int u64 s] 86)).alloc (Obj.cells #[int u64 r] 86)).alloc (Obj.cells #[.slice none 0 0,int u64 0,int u64 0] 30):=⟨_,rfl⟩;have r0:Bk X 130 w.heap.size #[.string cx,.string info,.func (.func F0) #[] #[],.func (.func F1) #[] #[],.func (.func F2) #[] #[],.func (.func F3) #[] #[],.func (.func F4) #[] #[],.func (.func F5) #[] #[],.func (.func F6) #[] #[]]:=by rw [hX];exact(((Bk.new _ _ _).alloc _).alloc _).alloc _
  have r1:Bk X 86 (w.heap.size+1) #[int u64 s]:=by rw [hX];exact(((Bk.new _ _ _).at (by simp)).alloc _).alloc _
  have r2:Bk X 86 (w.heap.size+1+1) #[int u64 r]:=by rw [hX];exact((Bk.new _ _ _).at (by simp)).alloc _
  have r3:Bk X 30 (w.heap.size+1+1+1) #[.slice none 0 0,int u64 0,int u64 0]:=by rw [hX];exact(Bk.new _ _ _).at (by simp)
  have hb:Bl w X:=by rw [hX];exact((((Below.refl _ w).alloc (Nat.le_refl _) _).alloc (by simp) _).alloc (by simp;omega) _).alloc (by simp;omega) _
  rw [hX] at r0 r1 r2 r3 hb;clear hX;have s4:=r0.cell (k:=4) rfl;have s0:=r1.cell (k:=0) rfl;go_enter func74,ntmps74;go_wp2_with fail;refine(FA _).mono ?_;rintro e w1 ⟨rfl,b1⟩;replace r0:=r0.keep b1;replace r1:=r1.keep b1;replace r2:=r2.keep b1;replace r3:=r3.keep b1;replace hb:=hb.tr b1;clear FA b1 s4 s0;have l3:=r3.lt;have q0:Bk ((w1.alloc (Obj.cells #[int u64 (fN:Int)] 86)).alloc (Obj.cells #[.slice none 0 0,int u64 0,int u64 0] 30)) 86 w1.heap.size #[int u64 (fN:Int)]:=(Bk.new _ _ _).alloc _;have q1:Bk ((w1.alloc (Obj.cells #[int u64 (fN:Int)] 86)).alloc (Obj.cells #[.slice none 0 0,int u64 0,int u64 0] 30)) 30 (w1.heap.size+1) #[.slice none 0 0,int u64 0,int u64 0]:=(Bk.new _ _ _).at (by simp);have q2:Bl w1 ((w1.alloc (Obj.cells #[int u64 (fN:Int)] 86)).alloc (Obj.cells #[.slice none 0 0,int u64 0,int u64 0] 30)):=((Below.refl _ w1).alloc (Nat.le_refl _) _).alloc (by simp) _;go_wp2
  go_loopw [11,22] (fun ov iv wr=>∃(j:Nat) (u:Value),j≤n∧iv= .int .i64 (j:Int)∧wr.ownsRow w1.heap.size 75 3 ov j (CS j)∧wr.ownsRow w1.heap.size 34 3 u j (CS j)∧Bk wr 86 w1.heap.size #[int u64 (fN:Int)]∧Bk wr 30 (w1.heap.size+1) #[u,int u64 0,int u64 0]∧Bl w1 wr) (fun _ i _=>n-(intOf i).toNat)
  case atStart=>exact ⟨0,.slice none 0 0,by omega,rfl,by rw [hC0];exact World.ownsRow_nil _ _ _ _,by rw [hC0];exact World.ownsRow_nil _ _ _ _,q0,q1,q2⟩
  case round=>
    clear hC0 q0 q1 q2;obtain⟨j,u,hj,rfl,hown,hown',q0,q1,hbl⟩:=hrel;have hsz:=hbl.size;have hle:=q1.lt;by_cases hlt:j<n
    · have hli:(j:Int)<(n:Int):=by omega
      obtain⟨p,hp,hop,hnx⟩:=hst.out j hlt;have hB:=hb.tr hbl;have pp:=hc.below hB hc.lt;have c0:=pp.c0 j p hp;have c1:=pp.c1 j p hp;have c2:=pp.c2 j p hp;rw [Nat.zero_add] at c0 c1 c2;have TM:=fun w=>cplT hop fN hfN w
      have z0:=(q0.alloc (Obj.cells #[int u64 (px p),int u64 (py p),.bool (pb p)] 75)).cell (k:=0) rfl;clear hp pp hop hB;generalize nt fN p=q at*;go_wp2_with fail;refine(TM _).mono ?_;rintro e w2 ⟨rfl,b2⟩
      have hB2:Bl wr w2:=by
        have h1:=(balc wr (Obj.cells #[int u64 (px p),int u64 (py p),.bool (pb p)] 75));exact h1.tr b2
      have nq:=fun e=>Nat.lt_irrefl _ ((below_own3 hown hB2).lt w2.heap.size e).2
      have hB3:=hB2.alloc hB2.size (Obj.cells #[int u64 (px q),int u64 (py q),.bool (pb q)] 75);have rq:=Bk.new w2 75 #[int u64 (px q),int u64 (py q),.bool (pb q)];replace hown:=below_own3 hown hB3;replace hown':=below_own3 hown' hB3;replace q0:=q0.keep hB3;replace q1:=q1.keep hB3;replace hbl:=hbl.tr hB3;have hs2:w1.heap.size+1<w2.heap.size:=Nat.lt_of_lt_of_le hle hB2.size;clear TM c0 c1 c2 b2 z0 hB2 hB3 hsz hle;have k0:=rq.cell (k:=0) rfl;have k1:=rq.cell (k:=1) rfl;have k2:=rq.cell (k:=2) rfl;have mk1:=True.intro;have mk2:=True.intro
      go_wp2_with (first
        | (at_builtin
           clear mk1;refine wpList_append_ow rfl _ _ 76 rfl w1.heap.size 75 i0 (.agg #[int u64 0,int u64 0,.bool false]) 3 24 underlying76 hi hz0 hz1 hz2 rfl (by decide) _ j (CS j) rfl (hown.alloc _) ⟨w2.heap.size+1,0,none⟩ 1 1 [int u64 (px q),int u64 (py q),.bool (pb q)] rfl rfl (World.news_of_block (cs:=#[int u64 (px q),int u64 (py q),.bool (pb q)]) (by have:=heap_alloc_new (w2.alloc (Obj.cells #[int u64 (px q),int u64 (py q),.bool (pb q)] 75)) (Obj.cells #[int u64 (px q),int u64 (py q),.bool (pb q)] 75);simpa using this)) (by simp [Value.oneCell']) (by decide) (by unfold maxLen;omega) (by omega) (by simp;omega) ?_;intro g2 cap2 w3 hown2 hgr2 hg2;have A0:=hown.alloc (Obj.cells #[int u64 (px q),int u64 (py q),.bool (pb q)] 75);have A1:=hown'.alloc (Obj.cells #[int u64 (px q),int u64 (py q),.bool (pb q)] 75);have A2:=q0.alloc (Obj.cells #[int u64 (px q),int u64 (py q),.bool (pb q)] 75);have A3:=q1.alloc (Obj.cells #[int u64 (px q),int u64 (py q),.bool (pb q)] 75);replace hown':=A1.kept hgr2 (own_ne_own A1 A0 (by decide));replace q0:=A2.grown hgr2 (own_ne_bk A0 A2 (by decide));replace q1:=A3.grown hgr2 (own_ne_bk A0 A3 (by decide));replace rq:=(rq.alloc (Obj.cells #[int u64 (px q),int u64 (py q),.bool (pb q)] 75)).grown hgr2 (fun e=>nq e.symm);have hbl3:=(hbl.alloc hbl.size (Obj.cells #[int u64 (px q),int u64 (py q),.bool (pb q)] 75)).grown hgr2 (by simp;omega) (fun r hr=>(hown.lt r hr).1);replace hown2:w3.ownsRow w1.heap.size 75 3 (.slice (some ⟨g2,0,none⟩) (j+1) cap2) (j+1) (CS (j+1)):=by rw [hnx];exact hown2
           have hs3:w1.heap.size+1<w3.heap.size:=q1.lt;clear A0 A1 A2 A3 hown hgr2 hbl nq k0 k1 k2 hs2;have k0:=rq.cell (k:=0) rfl;have k1:=rq.cell (k:=1) rfl;have k2:=rq.cell (k:=2) rfl
           have z0:=q1.cell (k:=0) rfl)
        | (at_builtin
           clear mk2;refine wpList_append_ow rfl _ _ 24 rfl w1.heap.size 34 j0 (.agg #[int u64 0,int u64 0,.bool false]) 3 24 underlying24 ji jz0 jz1 jz2 rfl (by decide) _ j (CS j) rfl (hown'.alloc _) ⟨w3.heap.size,0,none⟩ 1 1 [int u64 (px q),int u64 (py q),.bool (pb q)] rfl rfl (World.news_of_block (cs:=#[int u64 (px q),int u64 (py q),.bool (pb q)]) (heap_alloc_new w3 _)) (by simp [Value.oneCell']) (by decide) (by unfold maxLen;omega) (by omega) (by simp;omega) ?_;intro g3 cap3 w4 hown4 hgr4 hg4;have A0:=hown'.alloc (Obj.cells #[int u64 (px q),int u64 (py q),.bool (pb q)] 34);have A1:=hown2.alloc (Obj.cells #[int u64 (px q),int u64 (py q),.bool (pb q)] 34);have A2:=q0.alloc (Obj.cells #[int u64 (px q),int u64 (py q),.bool (pb q)] 34);have A3:=q1.alloc (Obj.cells #[int u64 (px q),int u64 (py q),.bool (pb q)] 34);replace hown2:=A1.kept hgr4 (own_ne_own A1 A0 (by decide));replace q0:=A2.grown hgr4 (own_ne_bk A0 A2 (by decide));replace q1:=A3.grown hgr4 (own_ne_bk A0 A3 (by decide));have hbl4:=(hbl3.alloc hbl3.size (Obj.cells #[int u64 (px q),int u64 (py q),.bool (pb q)] 34)).grown hgr4 (by simp;omega) (fun r hr=>(hown'.lt r hr).1);replace hown4:w4.ownsRow w1.heap.size 34 3 (.slice (some ⟨g3,0,none⟩) (j+1) cap3) (j+1) (CS (j+1)):=by rw [hnx];exact hown4
           clear A0 A1 A2 A3 hown' hgr4 hbl3 k0 k1 k2 z0 rq hs3;have z0:=q1.cell (k:=0) rfl
           have zf:=q1.frz 0)
        |go_in)
      have R1:=own_set hown2 (own_ne_bk hown2 q1 (by decide)) 0 (.slice (some ⟨g3,0,none⟩) (j+1) cap3);have R2:=own_set hown4 (own_ne_bk hown4 q1 (by decide)) 0 (.slice (some ⟨g3,0,none⟩) (j+1) cap3);have R3:=q0.other (b':=w1.heap.size+1) (by omega) 0 (.slice (some ⟨g3,0,none⟩) (j+1) cap3);have R4:=q1.set 0 (.slice (some ⟨g3,0,none⟩) (j+1) cap3);have R5:=hbl4.setCell (p:=⟨w1.heap.size+1,0,none⟩) (Nat.le_succ _) (.slice (some ⟨g3,0,none⟩) (j+1) cap3);clear hown2 hown4 q0 q1 hbl4 z0 zf;go_roundw
      case rel=>
        first
          |exact ⟨j+1,_,by omega,by go_num,R1,R2,R3,R4,R5⟩
          |((repeat apply Exists.intro);exact⟨⟨j+1,_,by omega,by go_num,R1,R2,R3,R4,R5⟩,rfl⟩)
      case measure=>simp [intOf];omega
    · obtain rfl:j=n:=by omega
      rw [hCn.out] at hown hown';obtain⟨g2,k2,rfl,-,-⟩:=hown.form (by omega);have hC:=Cps.of_owns hown;replace hown':=hown'.mono (base':=w.heap.size) (by omega);replace r0:=r0.below hbl (by omega);replace r1:=r1.below hbl (by omega);replace r2:=r2.below hbl (by omega);replace r3:=r3.below hbl (by omega);replace hb:=hb.tr hbl;clear hbl hst hCn hown q0;have d0:=r0.cell (k:=0) rfl;have d1:=r0.cell (k:=1) rfl;have d2:=r0.cell (k:=2) rfl;have d3:=r0.cell (k:=3) rfl;have d4:=r0.cell (k:=4) rfl;have d5:=r0.cell (k:=5) rfl;have d6:=r0.cell (k:=6) rfl;have d7:=r0.cell (k:=7) rfl;have d8:=r0.cell (k:=8) rfl;have x0:=r1.cell (k:=0) rfl;have y0:=r2.cell (k:=0) rfl;go_wp2_with fail;refine(PV _ g2 k2 hb hC).mono ?_;rintro e W7 ⟨rfl,b5⟩;replace hown':=below_own3 hown' b5;replace q1:=q1.keep b5;replace r3:=r3.keep b5;replace hb:=hb.tr b5;clear PV b5 hC r0 r1 r2 x0 y0 d0 d1 d2 d3 d4 d5 d6 d7 d8;have ht1:=q1.thereAt 1 2 (by simp);have rO2:Bk (W7.setCells (w1.heap.size+1) 1 [int u64 c',int u64 s']) 30 (w1.heap.size+1) #[u,int u64 c',int u64 s']:=q1.part (cs:= [u,int u64 0,int u64 0]) 1 [int u64 c',int u64 s'] (by simp);have rA2:=r3.setsO (b':=w1.heap.size+1) (by omega) 1 [int u64 c',int u64 s'];have hw2:=own_sets hown' (own_ne_bk hown' q1 (by decide)) 1 [int u64 c',int u64 s'];have hb2:=below_setCells hb (g:=w1.heap.size+1) (by omega) 1 [int u64 c',int u64 s'];have ht2:=rA2.there 3 (by simp);have p0:=rO2.cell (k:=0) rfl;have p1:=rO2.cell (k:=1) rfl;have p2:=rO2.cell (k:=2) rfl;have mk1:=True.intro;have mk2:=True.intro;go_wp2_with (first|(clear mk1;refine wpList_store_mid rfl 28 _ _ rfl (w1.heap.size+1) 1 #[int u64 c',int u64 s'] rfl rfl ht1 sizePrf (by kernel_rfl) ?_)|(clear mk2;refine wpList_store_mid rfl 30 _ _ rfl (w.heap.size+1+1+1) 0 #[u,int u64 c',int u64 s'] rfl rfl ht2 sizeEvd (onev hown' _ _) ?_));exact bodyPost_ret (v:= .agg #[u,int u64 c',int u64 s']) (bk_res1 (fn:=Tryz.f74) (p:=8) results74 _ rfl (rA2.sets _ rfl) underlying30 rfl sizeEvd) rfl ⟨u,rfl,own_sets hw2 (own_ne_bk hw2 rA2 (by decide)) 0 _,below_setCells hb2 (by omega) _ _⟩
end
end Go.Proofs.YtmjniccfjffclaaGreatDoor
