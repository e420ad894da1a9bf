import Derived.Test.YtjmhmajfkdglnabGreatDoorMrg48
set_option linter.unusedVariables false
set_option maxRecDepth 100000
set_option maxHeartbeats 16000000
namespace Go.Proofs.YtjmhmajfkdglnabGreatDoor
open Go.Proofs.Tryz Go.RowKit
open Go.Value (int)
open Go.IntKind (u64)
section
open M
structure Rt (k:Nat)(F0 F1 F2 F3 F4 F5 F6:FuncId):Prop where
  rl:Rl k F0 F1 F2 F3 F4 F5 F6
  e3:Ent F3
  tweaked:∀(info:ByteArray) (t:Tri) (a0 a1 a2 a3:Addr) (w:World),TabK w→Sn w a0 a1 a2 a3→info.size≤60000→
    Cr F3 #[.agg #[.string (ctxB k),.string info],.agg #[int u64 (px (asT t)),int u64 (py (asT t)),.bool (pb (asT t))]] w (.tuple #[.agg #[int u64 (px (bldT k info t)),int u64 (py (bldT k info t)),.bool (pb (bldT k info t))],if (k:Int)=2∧twp info t=none then sen a2 else .nilIface])
theorem enNT:Ent 137:=fun _ _=>by kernel_rfl
theorem enPT:Ent 145:=fun _ _=>by kernel_rfl
theorem twk_no {k:Nat}(hk: ¬ k=2)(info:ByteArray)(t:Tri)(a0 a1 a2 a3:Addr)(w:World):
    Cr 137 #[.agg #[.string (ctxB k),.string info],.agg #[int u64 (px (asT t)),int u64 (py (asT t)),.bool (pb (asT t))]] w (.tuple #[.agg #[int u64 (px (bldT k info t)),int u64 (py (bldT k info t)),.bool (pb (bldT k info t))],if (k:Int)=2∧twp info t=none then sen a2 else .nilIface]):=by
  have e:bldT k info t=none:=if_neg (by omega);rw [e,if_neg (fun h=>hk (by have:=h.1;omega))];exact ntwI _ _ _ _ _ w
theorem twk_two (info:ByteArray)(t:Tri)(a0 a1 a2 a3:Addr)(w:World)(hT:TabK w)(hs:Sn w a0 a1 a2 a3)(hi:info.size≤60000):
    Cr 145 #[.agg #[.string (ctxB 2),.string info],.agg #[int u64 (px (asT t)),int u64 (py (asT t)),.bool (pb (asT t))]] w (.tuple #[.agg #[int u64 (px (bldT (2:Nat) info t)),int u64 (py (bldT (2:Nat) info t)),.bool (pb (bldT (2:Nat) info t))],if ((2:Nat):Int)=2∧twp info t=none then sen a2 else .nilIface]):=by
  have hgw:6<w.heap.size:=World.block_lt_of_cell? w _ (hT 0 (by omega));have h:=patI_of (ctxB 2) info ((twk info:Nat):Int) (asT t) (nt (twk info) gG) (twp info t) a0 a1 a2 a3 w hs (fun w' hb=>twkI_any info w' (keepT hT hgw hb) hi) (fun w=>cplT gG_on (twk info) (twk_lt info) w) (fun w=>cplX (nt_on gG_on _) (asT_on t) w);have e:bldT (2:Nat) info t=twp info t:=if_pos rfl;rw [e];by_cases hz:twp info t=none
  · rw [if_pos ⟨rfl,hz⟩];rw [if_pos ((pb_none _).2 hz)] at h;exact h
  · rw [if_neg (fun h=>hz h.2)];rw [if_neg (fun h=>hz ((pb_none _).1 h))] at h;exact h
theorem rut_any (k:Nat)(hk:k<3):∃F0 F1 F2 F3 F4 F5 F6,Rt k F0 F1 F2 F3 F4 F5 F6:=by
  rcases(show k=0∨k=1∨k=2 by omega) with rfl|rfl|rfl
  · exact⟨_,_,_,_,_,_,_,rul_0,enNT,fun info t a0 a1 a2 a3 w _ _ _=>twk_no (by omega) info t a0 a1 a2 a3 w⟩
  · exact⟨_,_,_,_,_,_,_,rul_1,enNT,fun info t a0 a1 a2 a3 w _ _ _=>twk_no (by omega) info t a0 a1 a2 a3 w⟩
  · exact⟨_,_,_,_,_,_,_,rul_2,enPT,fun info t a0 a1 a2 a3 w hT hs hi=>twk_two info t a0 a1 a2 a3 w hT hs hi⟩
theorem bldS_any (mode:Int)(input info:ByteArray)(t:Tri)(blind:Nat)(w:World):
    Cr 9 #[.int .i64 mode,.string input,.string info,.agg #[int u64 (t.1:Int),int u64 (t.2.1:Int),.bool t.2.2],int u64 blind] w (.tuple #[.agg (bldA mode input info t blind),.int .i64 (bldC mode input info t blind)]):=by
  have T:=txtS_any mode input info;have E:=elS_any t;have K:=fun w=>keyS_any (blind:Int) blind rfl w
  have bad: ¬ (txtB mode input.size info.size=true∧elT t=true∧keyB blind=true)→bldC mode input info t blind=1∧bldA mode input info t blind=zBld:=fun h=>by
    have e:bldC mode input info t blind=1:=if_neg h;exact⟨e,by unfold bldA;rw [e,if_neg (by decide)];rfl⟩
  cases h1:txtB mode input.size info.size with
  | false=>
    rw [h1] at T;obtain⟨e1,e2⟩:=bad (by simp [h1]);rw [e1,e2];exact bldS_a mode _ _ blind _ input info w T
  | true=>
    rw [h1] at T
    cases h2:elT t with
    | false=>
      rw [h2] at E;obtain⟨e1,e2⟩:=bad (by simp [h2]);rw [e1,e2];exact bldS_b mode _ _ blind _ input info w T E
    | true=>
      rw [h2] at E
      cases h3:keyB blind with
      | false=>
        rw [h3] at K;obtain⟨e1,e2⟩:=bad (by simp [h3]);rw [e1,e2];exact bldS_c mode _ _ blind _ input info w T E K
      | true=>
        rw [h3] at K;obtain⟨⟨m1,m2⟩,z1,z2,-⟩:=txtB_iff.1 h1;obtain⟨-,kl⟩:=keyB_iff.1 h3;have hC:bldC mode input info t blind=if hsh mode input=none then 2 else if mode=2∧twp info t=none then 3 else 0:=if_pos ⟨h1,h2,h3⟩
        have H:=fun w=>hshS_any mode input w m1 m2 z1
        by_cases hz:hsh mode input=none
        · rw [if_pos hz] at hC;have hA:bldA mode input info t blind=zBld:=by unfold bldA;rw [hC,if_neg (by decide)];rfl
          rw [hC,hA];rw [(pb_none _).2 hz] at H;exact bldS_d mode _ _ blind _ input info w _ _ T E K H
        · rw [if_neg hz] at hC
          have hp:pb (hsh mode input)=false:=by
            cases hq:pb (hsh mode input) with
            |false=>rfl
            |true=>exact absurd ((pb_none _).1 hq) hz
          have TM:=fun w=>tiS_pt (hsh_on mode input) blind (by omega) w
          rw [hp] at H TM;by_cases hm:mode=2
          · have hw:=fun w=>sumS_xyz (nt (twk info) gG) (asT t) w
            obtain⟨g1,g2,g3⟩:=triW_px (elT_on h2);rw [←g1,←g2,←g3] at hw;have h:=bldS_f mode _ _ blind _ input info w _ _ _ _ _ _ _ _ _ _ _ _ hm T E K H TM (fun w=>twkS_any info w z2) (fun w=>tiS_pt gG_on (twk info) (Nat.lt_trans (twk_lt info) (by decide)) w) hw;have e:bldT mode info t=twp info t:=if_pos hm;by_cases ht:twp info t=none
            · rw [if_pos ⟨hm,ht⟩] at hC;have hA:bldA mode input info t blind=zBld:=by unfold bldA;rw [hC,if_neg (by decide)];rfl
              rw [hC,hA];change Calls _ _ _ _ (fun e w'=>e= .returned (.tuple #[.agg (if pb (twp info t)=true then _ else _),.int .i64 (if pb (twp info t)=true then 3 else 0)])∧_) at h;rw [if_pos ((pb_none _).2 ht),if_pos ((pb_none _).2 ht)] at h;exact h
            · rw [if_neg (fun h=>ht h.2)] at hC;have hA:bldA mode input info t blind=#[int u64 (px (nt blind (hsh mode input))),int u64 (py (nt blind (hsh mode input))),.bool (pb (nt blind (hsh mode input))),int u64 (px (twp info t)),int u64 (py (twp info t)),.bool (pb (twp info t))]:=by unfold bldA;rw [hC,if_pos rfl,e]
              rw [hC,hA];change Calls _ _ _ _ (fun e w'=>e= .returned (.tuple #[.agg (if pb (twp info t)=true then _ else _),.int .i64 (if pb (twp info t)=true then 3 else 0)])∧_) at h;have hp2: ¬ pb (twp info t)=true:=fun h=>ht ((pb_none _).1 h)
              rw [if_neg hp2,if_neg hp2] at h;exact h
          · rw [if_neg (fun h=>hm h.1)] at hC;have e:bldT mode info t=none:=if_neg hm;have hA:bldA mode input info t blind=#[int u64 (px (nt blind (hsh mode input))),int u64 (py (nt blind (hsh mode input))),.bool (pb (nt blind (hsh mode input))),int u64 0,int u64 0,.bool true]:=by unfold bldA;rw [hC,if_pos rfl,e];rfl
            rw [hC,hA];exact bldS_e mode _ _ blind _ input info w _ _ _ _ _ (by simpa using hm) T E K H TM
theorem bliI_any (mode:Int)(input info:ByteArray)(t:Tri)(blind:Nat)(a0 a1 a2 a3:Addr)(w:World)(hT:TabK w)(hs:Sn w a0 a1 a2 a3):
    Cr 11 #[.int .i64 mode,.string input,.string info,.agg #[int u64 (t.1:Int),int u64 (t.2.1:Int),.bool t.2.2],int u64 blind] w (.tuple #[.agg (bldA mode input info t blind),.int .i64 (bldC mode input info t blind)]):=by
  have hgw:6<w.heap.size:=World.block_lt_of_cell? w _ (hT 0 (by omega))
  have bad:∀cd:Int,bldC mode input info t blind=cd→ ¬ cd=0→bldA mode input info t blind=zBld:=fun cd h h0=>by
    unfold bldA;rw [h,if_neg h0];rfl
  have err:∀(cd:Int) (v:Value),bldC mode input info t blind=cd→ ¬ cd=0→Er a0 a1 a2 a3 v cd→(Cb w 36 #[.int .i64 mode,.string input,.string info,.agg #[int u64 (t.1:Int),int u64 (t.2.1:Int),.bool t.2.2],int u64 blind] (.tuple #[.agg zBld,v]))→
      Cr 11 #[.int .i64 mode,.string input,.string info,.agg #[int u64 (t.1:Int),int u64 (t.2.1:Int),.bool t.2.2],int u64 blind] w (.tuple #[.agg (bldA mode input info t blind),.int .i64 (bldC mode input info t blind)]):=fun cd v h h0 hv hB=>by
    rw [bad cd h h0,h];exact bliI_of mode _ _ blind 0 0 0 0 0 0 0 0 cd _ false false false false input info v w hB (fun w' hb=>ansB_err 0 0 0 0 cd false false v a0 a1 a2 a3 w' (hs.keep hb) hv)
  by_cases hm:0≤mode∧mode≤2
  · obtain ⟨hk, hk'⟩:=md_of hm.1 hm.2;obtain⟨F0,F1,F2,F3,F4,F5,F6,hR⟩:=rut_any mode.toNat hk;have hfind:=hR.rl.find;have hbad:=hR.rl.bad;have htw:=hR.tweaked;have e3:=hR.e3;rw [hk'] at hfind hbad htw;have okE:=okI_iff hm (info:=info);by_cases ho:okI mode.toNat info
    · have hFP:∀{w1:World},Bl w w1→∀w',Bl w1 w'→_:=fun {w1} hb1 w' hb=>hfind info a0 a1 a2 a3 w' ((hs.keep hb1).keep hb) ho
      by_cases hel:elT t=true
      · have hEL:∀{w1:World},Bl w w1→∀w',Bl w1 w'→Cr 68 #[.agg #[int u64 (t.1:Int),int u64 (t.2.1:Int),.bool t.2.2]] w' (.tuple #[.agg #[int u64 (px (asT t)),int u64 (py (asT t)),.bool (pb (asT t))],.nilIface]):=fun {w1} hb1 w' hb=>by
          have:=eleI_any t a0 a1 a2 a3 w' ((hs.keep hb1).keep hb);rwa [if_pos hel] at this
        by_cases hkey:keyB blind=true
        · have hFF:∀{w1:World},Bl w w1→∀w',Bl w1 w'→Cr 69 #[int u64 blind] w' (.tuple #[.agg #[int u64 (blind:Int)],.nilIface]):=fun {w1} hb1 w' hb=>by
            have:=facI_any blind a0 a1 a2 a3 w' ((hs.keep hb1).keep hb);rwa [if_pos hkey,if_pos hkey] at this
          have hkl:=(keyB_iff.1 hkey).2;have T:=fun w=>tagI_any (ctxB mode.toNat) grpW w (by rw [ctxB_size _ hk];omega) (by decide)
          rw [←tagB_ctx] at T;have hzt:=tagG_size _ hk;by_cases hin:input.size≤65535
          · have htx:txtB mode input.size info.size=true:=txtB_iff.2 ⟨hm,hin,(okE.1 ho).1,(okE.1 ho).2⟩;have hC:bldC mode input info t blind=if hsh mode input=none then 2 else if mode=2∧twp info t=none then 3 else 0:=if_pos ⟨htx,hel,hkey⟩
            have hG:∀{w1:World},Bl w w1→∀w',Bl w1 w'→_:=fun {w1} hb1 w' hb=>grpI_yes (ctxB mode.toNat) info input (tagB grpW mode.toNat) F0 F1 F2 F3 F4 F5 F6 (hsh mode input) a0 a1 a2 a3 w' ((hs.keep hb1).keep hb) T (fun w'' hb'=>h2gN_yes input (tagB grpW mode.toNat) w'' (keepT hT hgw ((hb1.tr hb).trans (hb'.mono (Nat.le_trans hb1.size hb.size)))) ⟨by omega,by omega,hin⟩)
            by_cases hz:hsh mode input=none
            · rw [if_pos hz] at hC;refine err 2 (flt ⟨#[105,110,112,117,116]⟩ (sen a1)) hC (by decide) (er_group _) (fun w1 hb1=>biI_d mode _ _ blind _ input info (ctxB mode.toNat) (asT t) (hsh mode input) F0 F1 F2 F3 F4 F5 F6 131 (.agg #[.string ⟨#[105,110,112,117,116]⟩,sen a1]) w1 (hFP hb1) (hEL hb1) (hFF hb1) (fun w' hb=> ?_));have:=hG hb1 w' hb;rw [if_pos ((pb_none _).2 hz)] at this;exact this
            · rw [if_neg hz] at hC
              have hG':∀{w1:World},Bl w w1→∀w',Bl w1 w'→Cr 70 #[.agg #[.string (ctxB mode.toNat),.string info,.func (.func F0) #[] #[],.func (.func F1) #[] #[],.func (.func F2) #[] #[],.func (.func F3) #[] #[],.func (.func F4) #[] #[],.func (.func F5) #[] #[],.func (.func F6) #[] #[]],.string input] w' (.tuple #[.agg #[int u64 (px (hsh mode input)),int u64 (py (hsh mode input)),.bool (pb (hsh mode input))],.nilIface]):=fun {w1} hb1 w' hb=>by
                have:=hG hb1 w' hb;rw [if_neg (fun h=>hz ((pb_none _).1 h))] at this;exact this
              have hTW:=fun {w1:World} (hb1:Bl w w1) w' (hb:Bl w1 w')=>htw info t a0 a1 a2 a3 w' (keepT hT hgw (hb1.tr hb)) ((hs.keep hb1).keep hb) (okE.1 ho).1
              by_cases ht:mode=2∧twp info t=none
              · rw [if_pos ht] at hC;refine err 3 _ hC (by decide) (er_inv _) (fun w1 hb1=>biI_e mode _ _ blind _ input info (ctxB mode.toNat) (asT t) (hsh mode input) (bldT mode info t) F0 F1 F2 F3 F4 F5 F6 a2 w1 (hFP hb1) (hEL hb1) (hFF hb1) (hG' hb1) e3 (fun w' hb=> ?_));have:=hTW hb1 w' hb;rw [if_pos ht] at this;exact this
              · rw [if_neg ht] at hC;have hA:bldA mode input info t blind=#[int u64 (px (nt blind (hsh mode input))),int u64 (py (nt blind (hsh mode input))),.bool (pb (nt blind (hsh mode input))),int u64 (px (bldT mode info t)),int u64 (py (bldT mode info t)),.bool (pb (bldT mode info t))]:=by unfold bldA;rw [hC,if_pos rfl]
                rw [hC,hA];refine bliI_of mode _ _ blind _ _ _ _ _ _ _ _ 0 _ _ _ _ _ input info .nilIface w (fun w1 hb1=>biI_f mode _ _ blind _ input info (ctxB mode.toNat) (asT t) (hsh mode input) (bldT mode info t) (nt blind (hsh mode input)) F0 F1 F2 F3 F4 F5 F6 w1 (hFP hb1) (hEL hb1) (hFF hb1) (hG' hb1) e3 (fun w' hb=> ?_) (fun w=>cplT (hsh_on mode input) blind hkl w)) (fun w' hb=>ansB_ok _ _ _ _ _ _ w');have:=hTW hb1 w' hb;rw [if_neg ht] at this;exact this
          · have hC:bldC mode input info t blind=1:=if_neg (fun h=>hin (txtB_iff.1 h.1).2.1);refine err 1 (flt ⟨#[105,110,112,117,116]⟩ (sen a0)) hC (by decide) (er_args _) (fun w1 hb1=>biI_d mode _ _ blind _ input info (ctxB mode.toNat) (asT t) none F0 F1 F2 F3 F4 F5 F6 131 (.agg #[.string ⟨#[105,110,112,117,116]⟩,sen a0]) w1 (hFP hb1) (hEL hb1) (hFF hb1) (fun w' hb=> ?_));exact grpI_no (ctxB mode.toNat) info input (tagB grpW mode.toNat) F0 F1 F2 F3 F4 F5 F6 none a0 a1 a2 a3 w' ((hs.keep hb1).keep hb) T (fun w'' _=>h2gN_no input (tagB grpW mode.toNat) w'' (fun h=>hin h.2.2))
        · have hC:bldC mode input info t blind=1:=if_neg (fun h=>hkey h.2.2);refine err 1 _ hC (by decide) (er_args _) (fun w1 hb1=>biI_c mode _ _ blind _ input info (ctxB mode.toNat) (asT t) F0 F1 F2 F3 F4 F5 F6 a0 w1 (hFP hb1) (hEL hb1) (fun w' hb=> ?_));have:=facI_any blind a0 a1 a2 a3 w' ((hs.keep hb1).keep hb);rwa [if_neg hkey,if_neg hkey] at this
      · have hC:bldC mode input info t blind=1:=if_neg (fun h=>hel h.2.1);refine err 1 _ hC (by decide) (er_args _) (fun w1 hb1=>biI_b mode _ _ blind _ input info (ctxB mode.toNat) F0 F1 F2 F3 F4 F5 F6 a0 w1 (hFP hb1) (fun w' hb=> ?_));have:=eleI_any t a0 a1 a2 a3 w' ((hs.keep hb1).keep hb);rwa [if_neg hel] at this
    · have hC:bldC mode input info t blind=1:=if_neg (fun h=>ho (okE.2 ⟨(txtB_iff.1 h.1).2.2.1,(txtB_iff.1 h.1).2.2.2⟩));exact err 1 _ hC (by decide) (er_args _) (fun w1 hb1=>biI_a mode _ _ blind _ input info _ _ w1 (fun w' hb=>hbad info a0 a1 a2 a3 w' ((hs.keep hb1).keep hb) ho))
  · have hC:bldC mode input info t blind=1:=if_neg (fun h=>hm (txtB_iff.1 h.1).1);exact err 1 _ hC (by decide) (er_args _) (fun w1 hb1=>biI_a mode _ _ blind _ input info _ _ w1 (fun w' hb=>proI_no mode _ info a0 a1 a2 a3 w' ((hs.keep hb1).keep hb) (fun w=>ctxI_no mode w hm)))
theorem own_pts {W:World}{B g n cap:Nat}{ps:List Pt}(h:W.ownsRow B 25 3 (.slice (some ⟨g,0,none⟩) n cap) n (cells3 ps))(hon:∀p∈ps,on p):Pts W g 0 (ps.map ptT):=by
  have hC:=Cps.of_owns h
  have key:∀(i:Nat) (t:Tri),(ps.map ptT)[i]? =some t→∃p,ps[i]? =some p∧px p=(t.1:Int)∧py p=(t.2.1:Int)∧pb p=t.2.2:=fun i t hi=>by
    rw [List.getElem?_map] at hi;obtain⟨p,hp,rfl⟩:=Option.map_eq_some_iff.1 hi;obtain⟨-,e1,e2,e3,-⟩:=ptT_of (hon p (List.mem_of_getElem? hp));exact⟨p,hp,e1,e2,e3⟩
  refine⟨hC.lt,fun i t hi=> ?_,fun i t hi=> ?_,fun i t hi=> ?_⟩
  · obtain⟨p,hp,e1,e2,e3⟩:=key i t hi;rw [←e1];exact hC.c0 i p hp
  · obtain⟨p,hp,e1,e2,e3⟩:=key i t hi;rw [←e2];exact hC.c1 i p hp
  · obtain⟨p,hp,e1,e2,e3⟩:=key i t hi;rw [←e3];exact hC.c2 i p hp
theorem outB_size (mode:Int)(input info:ByteArray)(u:Pt):(outB mode input info u).size=32:=by
  unfold outB;rw [strOfNums_size,shaF_length]
section
variable {mode:Int}{input info:ByteArray}{key blind r:Nat}
theorem bldA_yes (h:bldC mode input info (pubK key) blind=0):bldA mode input info (pubK key) blind=#[int u64 (px (nt blind (hsh mode input))),int u64 (py (nt blind (hsh mode input))),.bool (pb (nt blind (hsh mode input))),int u64 (px (bldT mode info (pubK key))),int u64 (py (bldT mode info (pubK key))),.bool (pb (bldT mode info (pubK key)))]:=if_pos h
theorem bldA_no (h: ¬ bldC mode input info (pubK key) blind=0):bldA mode input info (pubK key) blind=#[int u64 0,int u64 0,.bool false,int u64 0,int u64 0,.bool false]:=if_neg h
theorem bld_other {k2:Nat}(h:bldC mode input info (pubK key) blind=0)(hk:keyB k2=true):bldC mode input info (pubK key) k2=0:=by
  obtain⟨h1,h2,-,h4,h5⟩:=bldC_zero h;unfold bldC;rw [if_pos ⟨h1,h2,hk⟩,if_neg h4,if_neg h5]
theorem ev_bad (hk:keyB key=true)(hr:r<2305843010818082053)(h:bldC mode input info (pubK key) blind=0)(hd: ¬ dirC mode key input info=0)(g:Nat)(a0 a1 a2 a3:Addr)(w:World)(hT:TabK w)(hs:Sn w a0 a1 a2 a3)
    (hB:Bk w 25 g #[int u64 (px (nt blind (hsh mode input))),int u64 (py (nt blind (hsh mode input))),.bool (pb (nt blind (hsh mode input)))]):
    Cr 13 #[.int .i64 mode,int u64 (key:Int),.string info,.slice (some ⟨g,0,none⟩) 1 1,int u64 (r:Int)] w (.tuple #[.agg #[.slice none 0 0,int u64 0,int u64 0],.int .i64 (dirC mode key input info)]):=by
  obtain⟨-,e1,e2,e3,-⟩:=ptT_of (nt_on (hsh_on mode input) blind);rw [e1,e2,e3] at hB;have hC:=eva_dir (r:=r) hk hr h;have hn: ¬ evaC mode key info [elB mode input blind] r=0:=by rw [hC];exact hd
  obtain⟨hG,hK⟩:=eva_none hn;refine(evaI_all mode key info [elB mode input blind] r g 1 a0 a1 a2 a3 w hT hs (Pts.one hB)).mono ?_;rintro e w' ⟨v,rfl,-,b,hv⟩;rw [hv hn,hK,hC];exact⟨rfl,b⟩
theorem ev_good (hk:keyB key=true)(hr:r<2305843010818082053)(h:bldC mode input info (pubK key) blind=0)(hd:dirC mode key input info=0)(B g:Nat)(a0 a1 a2 a3:Addr)(w:World)(hBw:B≤w.heap.size)(hT:TabK w)(hs:Sn w a0 a1 a2 a3)
    (hB:Bk w 25 g #[int u64 (px (nt blind (hsh mode input))),int u64 (py (nt blind (hsh mode input))),.bool (pb (nt blind (hsh mode input)))]):
    Calls prog 13 #[.int .i64 mode,int u64 (key:Int),.string info,.slice (some ⟨g,0,none⟩) 1 1,int u64 (r:Int)] w fun e w'=>∃u:Nat×Nat,e= .returned (.tuple #[.agg #[.slice (some ⟨u.1,0,none⟩) 1 u.2,int u64 ((evaK mode key info [elB mode input blind] r).1:Int),int u64 ((evaK mode key info [elB mode input blind] r).2:Int)],.int .i64 0])∧w'.ownsRow B 25 3 (.slice (some ⟨u.1,0,none⟩) 1 u.2) 1 (cells3 [nt (facB mode key info) (nt blind (hsh mode input))])∧Bl w w':=by
  obtain⟨-,e1,e2,e3,-⟩:=ptT_of (nt_on (hsh_on mode input) blind);rw [e1,e2,e3] at hB;have hC:=(eva_dir (r:=r) hk hr h).trans hd
  have hG:evaG mode key info [elB mode input blind] r= [nt (facB mode key info) (nt blind (hsh mode input))]:=by
    unfold evaG;rw [if_pos hC,evaE_one,asT_elB]
  refine(evaI_all mode key info [elB mode input blind] r g 1 a0 a1 a2 a3 w hT hs (Pts.one hB)).mono ?_;rintro e w' ⟨v,rfl,hown,b,-⟩;rw [hG] at hown;rw [hC];obtain⟨g1,k1,rfl,-,-⟩:=hown.form (by simp);exact⟨(g1,k1),rfl,hown.mono hBw,b⟩
theorem fi_good (hk:keyB key=true)(hr:r<2305843010818082053)(h:bldC mode input info (pubK key) blind=0)(hd:dirC mode key input info=0)(B:Nat)(u:Nat×Nat)(a0 a1 a2 a3:Addr)(w:World)(hT:TabK w)(hs:Sn w a0 a1 a2 a3)
    (hown:w.ownsRow B 25 3 (.slice (some ⟨u.1,0,none⟩) 1 u.2) 1 (cells3 [nt (facB mode key info) (nt blind (hsh mode input))])):
    Cr 15 #[.int .i64 mode,.string input,.string info,int u64 (blind:Int),.agg #[.slice (some ⟨u.1,0,none⟩) 1 u.2,int u64 ((evaK mode key info [elB mode input blind] r).1:Int),int u64 ((evaK mode key info [elB mode input blind] r).2:Int)],.agg #[int u64 (px (nt blind (hsh mode input))),int u64 (py (nt blind (hsh mode input))),.bool (pb (nt blind (hsh mode input))),int u64 (px (bldT mode info (pubK key))),int u64 (py (bldT mode info (pubK key))),.bool (pb (bldT mode info (pubK key)))],.agg #[int u64 (px (nt key gG)),int u64 (py (nt key gG)),.bool (pb (nt key gG))]] w (.tuple #[.string (dirO mode key input info),.int .i64 0]):=by
  obtain⟨-,e1,e2,e3,-⟩:=ptT_of (nt_on (hsh_on mode input) blind);obtain⟨-,f1,f2,f3,-⟩:=ptT_of (bldT_on mode info (pubK key));obtain⟨-,k1,k2,k3,-⟩:=ptT_of (nt_on gG_on key);obtain⟨-,hF,hO⟩:=fin_dir hk hr h hd;have hp:=own_pts hown (fun p hp=>by rw [List.mem_singleton.1 hp];exact nt_on (nt_on (hsh_on mode input) _) _);have:=finI_any mode input info blind [ptT (nt (facB mode key info) (nt blind (hsh mode input)))] (evaK mode key info [elB mode input blind] r).1 (evaK mode key info [elB mode input blind] r).2 (elB mode input blind) (ptT (bldT mode info (pubK key))) (pubK key) u.1 u.2 a0 a1 a2 a3 w hT hs hp;rw [hF,hO] at this;rw [e1,e2,e3,f1,f2,f3,k1,k2,k3];exact this
end
theorem ky_key (pk:Nat→Nat)(p:Nat):keyB (ky pk p)=true:=keyB_iff.2 ⟨ky_pos pk p,ky_lt pk p⟩
theorem blnW (a0 a1:Option Addr)(l0 cap0 l1 cap1:Nat)(w:World)(hv0:Cod w (.slice a0 l0 cap0))(hv1:Cod w (.slice a1 l1 cap1))(h0:l0≤1048576)(h1:l1≤1048576)(hT:TabK w)(hs:∃s0 s1 s2 s3,Sn w s0 s1 s2 s3):
    Cr 3 #[.slice a0 l0 cap0,.slice a1 l1 cap1] w (.bool true):=by
  obtain⟨s0,s1,s2,s3,hs⟩:=hs;have hgw:6<w.heap.size:=World.block_lt_of_cell? w _ (hT 0 (by omega));obtain⟨pk,hg⟩:=gives_of _ w hv1;have hkey:=ky_key pk 0;have hk2:=ky_key pk 5;obtain⟨-,k1,k2,k3,-⟩:=ptT_of (nt_on gG_on (ky pk 0));have hr:∀n:Nat,n%2305843010818082053<2305843010818082053:=fun n=>Nat.mod_lt _ (by decide)
  refine fnBlind.walk_of a0 a1 l0 cap0 l1 cap1 (ky pk 0) (ky pk 5) (wd pk 9) (wd pk 2) (px (nt (ky pk 0) gG)) (py (nt (ky pk 0) gG)) (pb (nt (ky pk 0) gG)) w (by omega) (by omega) (wd_lt pk 9) (wd_lt pk 2) (dbld_any _ w hv0)
    (fun w' hb=>(hg.below hb).key 0 (by omega)) (fun w' hb=>(hg.below hb).key 5 (by omega)) (fun w' hb=>(hg.below hb).word 9 (by omega)) (fun w' hb=>(hg.below hb).word 2 (by omega))
    (fun w=>tiS_pt gG_on (ky pk 0) (Nat.lt_trans (ky_lt pk 0) (by decide)) w) (fun m s t k zs zt zk=> ?_)
  have SB:=fun w'=>bldS_any m s t (pubK (ky pk 0)) k w'
  have IB:=fun (w':World) (hb:Bl w w')=>bliI_any m s t (pubK (ky pk 0)) k s0 s1 s2 s3 w' (keepT hT hgw hb) (hs.keep hb)
  rw [←k1,←k2,←k3] at SB IB;have SD:=fun (w':World) (hb:Bl w w')=>dirS_any m (ky pk 0) s t w'
  have ID:=fun (w':World) (hb:Bl w w')=>dirI_any m (ky pk 0) s t s0 s1 s2 s3 w' (keepT hT hgw hb) (hs.keep hb)
  by_cases hc:bldC m s t (pubK (ky pk 0)) k=0
  · rw [bldA_yes hc,hc] at SB IB;refine⟨0,dirC m (ky pk 0) s t,_,_,_,_,_,_,dirO m (ky pk 0) s t,fun w' _=>SB w',SD,IB,ID,.inr ⟨rfl,?_⟩⟩;by_cases hd:dirC m (ky pk 0) s t=0
    · have hc2:=bld_other hc hk2;refine .inr ⟨hd,by unfold dirO;rw [if_pos hd];exact outB_size _ _ _ _,_,_,_,_,_,_,_,_,_,_,_,_,fun w' g hb hB=>ev_good hkey (hr _) hc hd w.heap.size g s0 s1 s2 s3 w' hb.size (keepT hT hgw hb) (hs.keep hb) hB,fun w' u hb hown=>fi_good hkey (hr _) hc hd w.heap.size u s0 s1 s2 s3 w' (keepT hT hgw hb) (hs.keep hb) hown,fun w' hb=> ?_,fun w' g hb hB=>ev_good hkey (hr _) hc2 hd w.heap.size g s0 s1 s2 s3 w' hb.size (keepT hT hgw hb) (hs.keep hb) hB,fun w' u hb hown=>fi_good hkey (hr _) hc2 hd w.heap.size u s0 s1 s2 s3 w' (keepT hT hgw hb) (hs.keep hb) hown⟩;have:=bliI_any m s t (pubK (ky pk 0)) (ky pk 5) s0 s1 s2 s3 w' (keepT hT hgw hb) (hs.keep hb);rw [←k1,←k2,←k3,bldA_yes hc2,hc2] at this;exact this
    · exact .inl ⟨hd,fun w' g hb hB=>ev_bad hkey (hr _) hc hd g s0 s1 s2 s3 w' (keepT hT hgw hb) (hs.keep hb) hB⟩
  · rw [bldA_no hc] at SB IB;exact⟨bldC m s t (pubK (ky pk 0)) k,dirC m (ky pk 0) s t,_,_,_,_,_,_,dirO m (ky pk 0) s t,fun w' _=>SB w',SD,IB,ID,.inl hc⟩
end
section
open Go.ChangeShapes Go.WideShapes Go.ChangeAt
theorem cellsU8:prog.cellsOf 5=1:=by kernel_rfl
theorem cod_of {H:Type}{enc:TypeId×Value→H}{W:World}{a0:Option Addr}{len cap:Nat}{d0:DataW H}{p:List MemPlace}
    (h0:DataW.Trod enc prog W 0 (fun _=>true) true 22 (.slice a0 len cap) d0 p)(hl:len≤1048576):Cod W (.slice a0 len cap):=by
  obtain⟨fuel,hf⟩:=h0;rcases open_ints underlying22 underlying5 cellsU8 hf with ⟨hcs,hx⟩|⟨a,len',cap',zs,hcs,_,hl',hm,hz,hx,hcell,hwz⟩
  · simp [Value.cells] at hcs;obtain⟨rfl,rfl,rfl⟩:=hcs;exact .inl ⟨_,_,rfl⟩
  · simp [Value.cells] at hcs;obtain⟨rfl,rfl,rfl⟩:=hcs;simp only [if_true] at hz;by_cases h1:len=0
    · subst h1;exact .inl ⟨_,_,rfl⟩
    · have hsp:a.spot=none:=by
        have:=hcell 0 (by omega);simp only [Addr.add,if_true] at this;unfold World.cell? at this;split at this
        · split at this
          · cases this
          · rename_i h;simpa using h
        · cases this
      obtain⟨b,o,sp⟩:=a;obtain rfl:sp=none:=hsp;refine .inr ⟨b,o,len,cap,by omega,hl,rfl,fun i hi=> ?_⟩;have hc:=hcell i (by omega);have ha:(⟨b,o,none⟩:Addr).add i=⟨b,o+i,none⟩:=by unfold Addr.add;split<;>simp_all
      rw [ha] at hc;have hw:=hwz (zs.getD i 0) (by rw [List.getD_eq_getElem?_getD,List.getElem?_eq_getElem (by omega)];exact List.getElem_mem _);have h2:0≤zs.getD i 0∧zs.getD i 0≤255:=by simpa [Lit.wf,IntKind.min,IntKind.max,IntKind.signed,IntKind.bits] using hw
      exact⟨(zs.getD i 0).toNat,by omega,by rw [hc];congr 2;omega⟩
end
end Go.Proofs.YtjmhmajfkdglnabGreatDoor
