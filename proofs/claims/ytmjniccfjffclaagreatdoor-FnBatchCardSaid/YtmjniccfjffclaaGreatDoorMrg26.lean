import Derived.Test.YtmjniccfjffclaaGreatDoorMrg25
set_option linter.unusedVariables false
set_option maxRecDepth 100000
set_option maxHeartbeats 16000000
namespace Go.Proofs.YtmjniccfjffclaaGreatDoor
open Go.Proofs.Tryz Go.RowKit
open Go.Value (int)
open Go.IntKind (u64)
section
open M
noncomputable def twp (info:ByteArray) (t:Tri):Pt:=ad (nt (twk info) gG) (asT t)
noncomputable def bldC (mode:Int) (input info:ByteArray) (t:Tri) (blind:Nat):Int:=
  if txtB mode input.size info.size=true∧elT t=true∧keyB blind=true then (if hsh mode input=none then 2 else if mode=2∧twp info t=none then 3 else 0) else 1
noncomputable def bldT (mode:Int) (info:ByteArray) (t:Tri):Pt:=if mode=2 then twp info t else none
noncomputable def bldA (mode:Int) (input info:ByteArray) (t:Tri) (blind:Nat):Array Value:=
  if bldC mode input info t blind=0 then #[int u64 (px (nt blind (hsh mode input))),int u64 (py (nt blind (hsh mode input))),.bool (pb (nt blind (hsh mode input))),int u64 (px (bldT mode info t)),int u64 (py (bldT mode info t)),.bool (pb (bldT mode info t))]
  else #[int u64 0,int u64 0,.bool false,int u64 0,int u64 0,.bool false]
theorem twp_on (info:ByteArray)(t:Tri):on (twp info t):=ad_on (nt_on gG_on _) (asT_on t)
theorem bldT_on (mode:Int)(info:ByteArray)(t:Tri):on (bldT mode info t):=by
  unfold bldT;split
  · exact twp_on info t
  · trivial
theorem elT_on {t:Tri}(h:elT t=true):onT t=true:=by unfold elT at h;simp at h;exact h.1
theorem triW_px {t:Tri}(h:onT t=true):(t.1:Int)=px (asT t)∧(t.2.1:Int)=py (asT t)∧t.2.2=pb (asT t):=by
  have e:=triW_of h;rw [ptW_eq] at e;unfold triW at e;simpa using e
theorem elT_nz {t:Tri}(h:elT t=true):asT t≠none:=by
  intro e;have h2:=(triW_px (elT_on h)).2.2;rw [e] at h2;unfold elT at h;simp at h;rw [h.2] at h2;cases h2
end
theorem modS_yes (mode:Int)(w:World)(h1:0≤mode)(h2:mode≤2):
    Calls prog 63 #[.int .i64 mode] w fun e w'=>e= .returned (.bool true)∧w=w':=by
  go_enter func63,ntmps63;go_wp2;go_ret;exact⟨rfl,rfl⟩
theorem modS_no (mode:Int)(w:World)(h: ¬ (0≤mode∧mode≤2)):
    Calls prog 63 #[.int .i64 mode] w fun e w'=>e= .returned (.bool false)∧w=w':=by
  by_cases h1:0≤mode
  · have h2: ¬ mode≤2:=fun h'=>h ⟨h1,h'⟩
    clear h;go_enter func63,ntmps63;go_wp2;go_ret;exact⟨rfl,rfl⟩
  · clear h;go_enter func63,ntmps63;go_wp2;go_ret;exact⟨rfl,rfl⟩
section
open M
theorem tiS_tri (k:Nat)(t:Tri)(w:World)(hk:k<18446744073709551616):Cr 15 #[int u64 (k:Int),.agg #[int u64 (t.1:Int),int u64 (t.2.1:Int),.bool t.2.2]] w (.agg #[int u64 (px (nt k (asT t))),int u64 (py (nt k (asT t))),.bool (pb (nt k (asT t)))]):=by
  have:=timS_any k t.1 t.2.1 t.2.2 w hk;rwa [ptW_eq] at this
theorem pt_nat {p:Pt}(hp:on p):∃t:Tri,asT t=p∧px p=(t.1:Int)∧py p=(t.2.1:Int)∧pb p=t.2.2∧onT t=true:=by
  rcases p with _|⟨X,Y⟩
  · refine⟨(0,0,true),?_,rfl,rfl,rfl,?_⟩
    · unfold asT asPt toPt;rw [if_pos rfl];rfl
    · unfold onT toPt;rw [if_pos rfl];rfl
  · have h:=toPt_self hp;refine⟨(X.val,Y.val,false),asPt_some h,rfl,rfl,rfl,?_⟩;unfold onT;rw [h];rfl
theorem puS_pt {p:Pt}(hp:on p)(w:World):Cr 95 #[.agg #[int u64 (px p),int u64 (py p),.bool (pb p)]] w (.string (ptB p)):=by
  obtain⟨t,h1,h2,h3,h4,-⟩:=pt_nat hp;rw [h2,h3,h4,←h1];exact putS_any t.1 t.2.1 t.2.2 w
theorem tiS_pt {p:Pt}(hp:on p)(k:Nat)(hk:k<18446744073709551616)(w:World):Cr 15 #[int u64 (k:Int),.agg #[int u64 (px p),int u64 (py p),.bool (pb p)]] w (.agg #[int u64 (px (nt k p)),int u64 (py (nt k p)),.bool (pb (nt k p))]):=by
  obtain⟨t,h1,h2,h3,h4,-⟩:=pt_nat hp;rw [h2,h3,h4];have:=tiS_tri k t w hk;rwa [h1] at this
theorem onS_tri (t:Tri)(w:World):Cr 48 #[.agg #[int u64 (t.1:Int),int u64 (t.2.1:Int),.bool t.2.2]] w (.bool (onT t)):=onS_any t.1 t.2.1 t.2.2 w
theorem keyS_any (k:Int)(n:Nat)(hn:k=n)(w:World):
    Calls prog 31 #[int u64 k] w fun e w'=>e= .returned (.bool (keyB n))∧w=w':=by
  by_cases h1:1≤k
  · by_cases h2:k<2305843010818082053
    · rw [show keyB n=true from keyB_iff.2 (by omega)];clear hn;go_enter func31,ntmps31;go_wp2;go_ret;exact⟨rfl,rfl⟩
    · rw [show keyB n=false from decide_eq_false (by omega)];clear hn;go_enter func31,ntmps31;go_wp2;go_ret;exact⟨rfl,rfl⟩
  · rw [show keyB n=false from decide_eq_false (by omega)];clear hn;go_enter func31,ntmps31;go_wp2;go_ret;exact⟨rfl,rfl⟩
theorem elS_any (t:Tri)(w:World):
    Cr 32 #[.agg #[int u64 (t.1:Int),int u64 (t.2.1:Int),.bool t.2.2]] w (.bool (elT t)):=by
  have O:=onS_tri t;unfold elT;obtain⟨x,y,c⟩:=t;simp only at O⊢;have hr:=K3.new w 34 (x:Int) (y:Int) c;have hb:=balc w (Obj.cells #[int u64 (x:Int),int u64 (y:Int),.bool c] 34);generalize onT (x,y,c)=o at*;have c0:=hr.c0;have c1:=hr.c1;have c2:=hr.c2;go_enter func32,ntmps32;go_wp2_with fail;refine(O _).mono ?_;rintro e w1 ⟨rfl,b1⟩;replace hr:=hr.keep b1;replace hb:=hb.tr b1;clear O b1 c0 c1 c2;have c2:=hr.c2;cases o
  · go_wp2;go_ret;exact⟨rfl,hb⟩
  · go_wp2;go_ret;exact⟨rfl,hb⟩
theorem txtS_any (mode:Int)(a b:ByteArray)(w:World):
    Calls prog 30 #[.int .i64 mode,.string a,.string b] w fun e w'=>e= .returned (.bool (txtB mode a.size b.size))∧w=w':=by
  by_cases h1:0≤mode∧mode≤2
  · have M:=fun w=>modS_yes mode w h1.1 h1.2
    by_cases h2:(a.size:Int)≤65535
    · by_cases h3:(b.size:Int)≤60000
      · by_cases h4:mode=2
        · rw [show txtB mode a.size b.size=true from txtB_iff.2 ⟨h1,by omega,by omega,.inl h4⟩];have h4':(mode==2)=true:=by simpa using h4
          clear h1 h4;go_enter func30,ntmps30;go_wp2_with fail;refine(M _).mono ?_;rintro e w1 ⟨rfl,rfl⟩;go_wp2;go_ret;exact⟨rfl,rfl⟩
        · have h4':(mode==2)=false:=by simpa using h4
          by_cases h5:(b.size:Int)=0
          · rw [show txtB mode a.size b.size=true from txtB_iff.2 ⟨h1,by omega,by omega,.inr (by omega)⟩];have h5':((b.size:Int)==0)=true:=by simpa using h5
            clear h1 h4 h5;go_enter func30,ntmps30;go_wp2_with fail;refine(M _).mono ?_;rintro e w1 ⟨rfl,rfl⟩;go_wp2;go_ret;exact⟨rfl,rfl⟩
          · rw [show txtB mode a.size b.size=false from txtB_not (by omega)];have h5':((b.size:Int)==0)=false:=by simpa using h5
            clear h1 h4 h5;go_enter func30,ntmps30;go_wp2_with fail;refine(M _).mono ?_;rintro e w1 ⟨rfl,rfl⟩;go_wp2;go_ret;exact⟨rfl,rfl⟩
      · rw [show txtB mode a.size b.size=false from txtB_not (by omega)];clear h1;go_enter func30,ntmps30;go_wp2_with fail;refine(M _).mono ?_;rintro e w1 ⟨rfl,rfl⟩;go_wp2;go_ret;exact⟨rfl,rfl⟩
    · rw [show txtB mode a.size b.size=false from txtB_not (by omega)];clear h1;go_enter func30,ntmps30;go_wp2_with fail;refine(M _).mono ?_;rintro e w1 ⟨rfl,rfl⟩;go_wp2;go_ret;exact⟨rfl,rfl⟩
  · have M:=fun w=>modS_no mode w h1
    rw [show txtB mode a.size b.size=false from txtB_not (fun h=>h1 h.1)];clear h1;go_enter func30,ntmps30;go_wp2_with fail;refine(M _).mono ?_;rintro e w1 ⟨rfl,rfl⟩;go_wp2;go_ret;exact⟨rfl,rfl⟩
theorem twkS_any (info:ByteArray)(w:World)(h:info.size≤60000):
    Cr 29 #[.string info] w (int u64 (twk info:Nat)):=by
  have S:=fun w=>sizS_any info w (by omega)
  have hz:=infoT_size info;have C:=fun w=>scaS_any (infW++sizB info) 2 w (by omega) (by omega)
  have hz2:infW.size+(sizB info).size≤9223372036854775807:=by rw [←ByteArray.size_append];omega
  change∀w,Calls _ _ _ _ (fun e w'=>e= .returned (int u64 (twk info:Nat))∧_) at C;generalize ((twk info:Nat):Int)=t at*;generalize sizB info=s at*;clear hz;unfold infW at*;have hq: ¬ (9223372036854775807<(ByteArray.mk #[73,110,102,111]).size+s.size):=by omega
  clear hz2;go_enter func29,ntmps29;go_wp2_with fail;refine(S _).mono ?_;rintro e w1 ⟨rfl,b1⟩;go_wp2_with fail;refine(C _).mono ?_;rintro e w2 ⟨rfl,b2⟩;go_wp2;go_ret;exact⟨rfl,b1.tr b2⟩
theorem facS_any (mode:Int)(key:Nat)(info:ByteArray)(w:World)(hk:key<2305843010818082053)(hi:info.size≤60000):
    Cr 33 #[.int .i64 mode,int u64 key,.string info] w (.tuple #[int u64 (if facC mode key info=0 then (facB mode key info:Nat) else 0),int u64 (if facC mode key info=0 then (facT mode key info:Nat) else 0),.int .i64 (facC mode key info)]):=by
  by_cases hm:mode=2
  · have T:=fun w=>twkS_any info w hi
    have A:=fun w=>l2add_any key (twk info) 2305843010818082053 w hk (twk_lt info) (by decide)
    simp only [Int.cast_ofNat_Int] at A;by_cases h0:kt key info=0
    · have e1:facC mode key info=3:=if_pos ⟨hm,h0⟩;rw [e1,if_neg (by decide),if_neg (by decide)];rw [show ((key+twk info)%2305843010818082053:Nat)=0 from h0] at A;have hm': ¬ (mode !=2)=true:=by simpa using hm
      subst hm;generalize ((twk info:Nat):Int)=t at*;clear h0 e1 hm';go_enter func33,ntmps33;go_wp2_with fail;refine(T _).mono ?_;rintro e w1 ⟨rfl,b1⟩;go_wp2_with fail;refine(A _).mono ?_;rintro e w2 ⟨rfl,rfl⟩;clear T A;go_wp2;exact bodyPost_ret (v:= .tuple #[int u64 0,int u64 0,.int .i64 3]) (by simp [results,results33,go_sem]) rfl ⟨rfl,b1⟩
    · have e1:facC mode key info=0:=if_neg (fun h=>h0 h.2);have e2:facB mode key info=M.ivn 2305843010818082053 (kt key info):=by unfold facB;rw [if_pos hm,if_neg h0]
      have e3:facT mode key info=kt key info:=if_pos hm;have I:=fun w=>invS_any (kt key info) 2305843010818082053 w (by have:=kt_lt key info;omega) (by decide) (by decide)
      simp only [Int.cast_ofNat_Int] at I;rw [e1,if_pos rfl,if_pos rfl,e2,e3];change∀w,Calls _ _ _ _ (fun e w'=>e= .returned (int u64 ((kt key info:Nat):Int))∧_) at A;have h0':(((kt key info:Nat):Int)==0)=false:=by simp;omega
      generalize ((M.ivn 2305843010818082053 (kt key info):Nat):Int)=i at*;generalize ((kt key info:Nat):Int)=k at*;generalize ((twk info:Nat):Int)=t at*;subst hm;clear h0 e1 e2 e3;go_enter func33,ntmps33;go_wp2_with fail;refine(T _).mono ?_;rintro e w1 ⟨rfl,b1⟩;go_wp2_with fail;refine(A _).mono ?_;rintro e w2 ⟨rfl,rfl⟩;clear T A;go_wp2_with fail;refine(I _).mono ?_;rintro e w2 ⟨rfl,rfl⟩;clear I;go_wp2;exact bodyPost_ret (v:= .tuple #[int u64 i,int u64 k,.int .i64 0]) (by simp [results,results33,go_sem]) rfl ⟨rfl,b1⟩
  · have e1:facC mode key info=0:=if_neg (fun h=>hm h.1);have e2:facB mode key info=key:=if_neg hm;have e3:facT mode key info=key:=if_neg hm;rw [e1,if_pos rfl,if_pos rfl,e2,e3];have hm':(mode !=2)=true:=by simpa using hm
    generalize ((key:Nat):Int)=k at*;clear e1 e2 e3 hm;go_enter func33,ntmps33;go_wp2;exact bodyPost_ret (v:= .tuple #[int u64 k,int u64 k,.int .i64 0]) (by simp [results,results33,go_sem]) rfl ⟨rfl,Below.refl _ _⟩
end
end Go.Proofs.YtmjniccfjffclaaGreatDoor
