import Derived.Test.YtmjniccfjffclaaGreatDoorMrg37
set_option linter.unusedVariables false
set_option maxRecDepth 100000
set_option maxHeartbeats 16000000
namespace Go.Proofs.YtmjniccfjffclaaGreatDoor
open Go.Proofs.Tryz Go.RowKit
open Go.Value (int)
open Go.IntKind (u64)
section
open M
def gT:Tri:=(1,509478702933351334,false)
theorem toT_g:toPt gT.1 gT.2.1 gT.2.2=some gG:=toPt_self (X:=(1:Fp)) (Y:=(509478702933351334:Fp)) gG_on
theorem asT_g:asT gT=gG:=by
  unfold asT asPt;rw [toT_g];rfl
theorem onT_g:onT gT=true:=by
  unfold onT;rw [toT_g];rfl
theorem mix_nt {ws:List Int}{ps:List Pt}(h:∀p∈ps,on p)(k:Nat):∀n,mixTo ws (ps.map (nt k)) n=nt k (mixTo ws ps n)
  |0=>(nt_none k).symm
  | n +1=>by
    have hp:on (ps.getD n none):=by
      rw [List.getD_eq_getElem?_getD]
      cases hn:ps[n]? with
      |none=>trivial
      |some p=>exact h p (List.mem_of_getElem? hn)
    have e:(ps.map (nt k)).getD n none=nt k (ps.getD n none):=by
      rw [List.getD_eq_getElem?_getD,List.getD_eq_getElem?_getD,List.getElem?_map]
      cases ps[n]? with
      |none=>exact (nt_none k).symm
      |some p=>rfl
    rw [mixTo,mixTo,mix_nt h k n,e,nt_ad (mixTo_on h n) (nt_on hp _),nt_mul hp,nt_mul hp,Nat.mul_comm]
theorem back_n {p:Pt}(hp:on p)(r c k:Nat):ad (nt ((r+(2305843010818082053-c*k%2305843010818082053)%2305843010818082053)%2305843010818082053) p) (nt c (nt k p))=nt r p:=by
  rw [nt_mod hp,nt_mul hp,←nt_add hp,←nt_mod hp,←nt_mod hp r];congr 1;generalize c*k=x;omega
theorem chk_prv (md k r:Nat)(a b:Tri)(cs ds:List Tri)(hb:asT b=nt k (asT a))(hd:ds.map asT=(cs.map asT).map (nt k)):
    chkC md (prvC md k r a b cs ds) (prvN md k r a b cs ds) a b cs ds=prvC md k r a b cs ds:=by
  have e:comM md b cs ds ds=nt k (comM md b cs ds cs):=by
    unfold comM;rw [←mix_nt (asT_list cs) k,←hd]
  have e2:ad (nt (prvN md k r a b cs ds) (asT a)) (nt (prvC md k r a b cs ds) (nt k (asT a)))=nt r (asT a):=back_n (asT_on a) r _ k;have e3:ad (nt (prvN md k r a b cs ds) (comM md b cs ds cs)) (nt (prvC md k r a b cs ds) (nt k (comM md b cs ds cs)))=nt r (comM md b cs ds cs):=back_n (comM_on md b cs ds cs) r _ k;unfold chkC;rw [e,hb,e2,e3,←hb];rfl
theorem prvN_lt (md k r:Nat)(a b:Tri)(cs ds:List Tri):prvN md k r a b cs ds<2305843010818082053:=Nat.mod_lt _ (by decide)
theorem chkB_prv (md k r:Nat)(a b:Tri)(cs ds:List Tri)(hB:batB md a b cs ds=true)(hb:asT b=nt k (asT a))(hd:ds.map asT=(cs.map asT).map (nt k)):
    chkB md a b cs ds (prvC md k r a b cs ds) (prvN md k r a b cs ds)=true:=by
  unfold chkB;rw [hB,decide_eq_true (prvC_lt md k r a b cs ds),decide_eq_true (prvN_lt md k r a b cs ds),Int.toNat_natCast,chk_prv md k r a b cs ds hb hd];simp
noncomputable def ptT (p:Pt):Tri:=((px p).toNat,(py p).toNat,pb p)
theorem ptT_of {p:Pt}(hp:on p):asT (ptT p)=p∧px p=((ptT p).1:Int)∧py p=((ptT p).2.1:Int)∧pb p=(ptT p).2.2∧onT (ptT p)=true:=by
  obtain⟨t,h1,h2,h3,h4,h5⟩:=pt_nat hp
  have e:ptT p=t:=by
    obtain⟨x,y,z⟩:=t;unfold ptT;rw [h2,h3,h4];simp
  rw [e];exact⟨h1,h2,h3,h4,h5⟩
noncomputable def evaC (mode:Int) (key:Nat) (info:ByteArray) (es:List Tri) (r:Nat):Int:=
  if txtB mode 0 info.size=true∧keyB key=true∧r<2305843010818082053∧(1≤es.length∧es.length≤200)∧es.all elT=true then facC mode key info else 1
noncomputable def evaE (mode:Int) (key:Nat) (info:ByteArray) (es:List Tri):List Pt:=es.map fun t=>nt (facB mode key info) (asT t)
noncomputable def evaG (mode:Int) (key:Nat) (info:ByteArray) (es:List Tri) (r:Nat):List Pt:=if evaC mode key info es r=0 then evaE mode key info es else []
noncomputable def evaU (mode:Int) (key:Nat) (info:ByteArray):Tri:=ptT (nt (facT mode key info) gG)
noncomputable def evaK (mode:Int) (key:Nat) (info:ByteArray) (es:List Tri) (r:Nat):Nat×Nat:=
  if evaC mode key info es r=0 then
    (if mode=1 then (prvC 1 (facT mode key info) r gT (evaU mode key info) es ((evaE mode key info es).map ptT),prvN 1 (facT mode key info) r gT (evaU mode key info) es ((evaE mode key info es).map ptT))
    else if mode=2 then (prvC 2 (facT mode key info) r gT (evaU mode key info) ((evaE mode key info es).map ptT) es,prvN 2 (facT mode key info) r gT (evaU mode key info) ((evaE mode key info es).map ptT) es)
    else (0,0))
  else (0,0)
theorem evaE_on (mode:Int)(key:Nat)(info:ByteArray)(es:List Tri):∀p∈evaE mode key info es,on p:=fun p hp=>by
  obtain⟨t,-,rfl⟩:=List.mem_map.1 hp;exact nt_on (asT_on t) _
theorem evaG_on (mode:Int)(key:Nat)(info:ByteArray)(es:List Tri)(r:Nat):∀p∈evaG mode key info es r,on p:=fun p hp=>by
  unfold evaG at hp;split at hp
  · exact evaE_on _ _ _ _ p hp
  · simp at hp
theorem evaE_length (mode:Int)(key:Nat)(info:ByteArray)(es:List Tri):(evaE mode key info es).length=es.length:=by simp [evaE]
theorem evaU_of (mode:Int)(key:Nat)(info:ByteArray):asT (evaU mode key info)=nt (facT mode key info) gG∧onT (evaU mode key info)=true:=by
  have:=ptT_of (nt_on gG_on (facT mode key info));exact⟨this.1,this.2.2.2.2⟩
theorem map_asT_ptT {ps:List Pt}(h:∀p∈ps,on p):(ps.map ptT).map asT=ps:=by
  rw [List.map_map]
  conv=>rhs;rw [←List.map_id ps]
  exact List.map_congr_left fun p hp=>(ptT_of (h p hp)).1
theorem evaC_no {mode:Int}{key:Nat}{info:ByteArray}{es:List Tri}{r:Nat}(h: ¬ (txtB mode 0 info.size=true∧keyB key=true∧r<2305843010818082053∧(1≤es.length∧es.length≤200)∧es.all elT=true)):evaC mode key info es r=1:=if_neg h
theorem evaC_yes {mode:Int}{key:Nat}{info:ByteArray}{es:List Tri}{r:Nat}(h:txtB mode 0 info.size=true∧keyB key=true∧r<2305843010818082053∧(1≤es.length∧es.length≤200)∧es.all elT=true):evaC mode key info es r=facC mode key info:=if_pos h
theorem eva_none {mode:Int}{key:Nat}{info:ByteArray}{es:List Tri}{r:Nat}(h: ¬ evaC mode key info es r=0):evaG mode key info es r= []∧evaK mode key info es r=(0,0):=⟨if_neg h,if_neg h⟩
theorem eva_bat {mode:Int}{key:Nat}{info:ByteArray}{es:List Tri}(h:1≤es.length∧es.length≤200)(he:es.all elT=true):
    batB 1 gT (evaU mode key info) es ((evaE mode key info es).map ptT)=true∧batB 2 gT (evaU mode key info) ((evaE mode key info es).map ptT) es=true:=by
  have h1:∀t∈es,onT t=true:=fun t ht=>elT_on (List.all_eq_true.1 he t ht)
  have h2:∀t∈(evaE mode key info es).map ptT,onT t=true:=fun t ht=>by
    obtain⟨p,hp,rfl⟩:=List.mem_map.1 ht;exact(ptT_of (evaE_on _ _ _ _ p hp)).2.2.2.2
  have hl:((evaE mode key info es).map ptT).length=es.length:=by rw [List.length_map,evaE_length]
  refine⟨(batB_iff _ _ _ _ _).2 ⟨by omega,onT_g,(evaU_of mode key info).2,h,hl.symm,h1,h2⟩,(batB_iff _ _ _ _ _).2 ⟨by omega,onT_g,(evaU_of mode key info).2,by rw [hl];exact h,hl,h2,h1⟩⟩
theorem inv_mod {k:Nat}(h:1≤k∧k<2305843010818082053):k*M.ivn 2305843010818082053 k%2305843010818082053=1:=by
  have e:M.ivn 2305843010818082053 k%2305843010818082053=M.ivn 2305843010818082053 k:=Nat.mod_eq_of_lt (ivn_lt' _ _ (by decide));have:=M.Root.iv M.rootN k (by rw [Nat.mod_eq_of_lt h.2];omega) (by decide);rwa [e] at this
theorem nt_one' {p:Pt}(hp:on p):nt 1 p=p:=by
  show ad none p=p;rcases p with _|⟨x,y⟩<;>rfl
theorem nt_inv {p:Pt}(hp:on p){k:Nat}(h:1≤k∧k<2305843010818082053):nt (M.ivn 2305843010818082053 k) (nt k p)=p:=by
  rw [nt_mul hp,Nat.mul_comm,←nt_mod hp,inv_mod h];exact nt_one' hp
theorem nt_inv' {p:Pt}(hp:on p){k:Nat}(h:1≤k∧k<2305843010818082053):nt k (nt (M.ivn 2305843010818082053 k) p)=p:=by
  rw [nt_mul hp,←nt_mod hp,inv_mod h];exact nt_one' hp
theorem nt_nz {p:Pt}(hp:on p)(h0:p≠none){k:Nat}(h:1≤k∧k<2305843010818082053):nt k p≠none:=fun e=>h0 (by rw [←nt_inv hp h,e,nt_none])
theorem elT_ptT {p:Pt}(hp:on p)(h0:p≠none):elT (ptT p)=true:=by
  obtain⟨-,-,-,h4,h5⟩:=ptT_of hp;unfold elT;rw [h5,←h4]
  cases hb:pb p with
  |false=>rfl
  |true=>exact absurd ((pb_none p).1 hb) h0
section
variable {mode:Int}{key blind r:Nat}{input info:ByteArray}
noncomputable abbrev pubK (key:Nat):Tri:=ptT (nt key gG)
theorem asT_pub (key:Nat):asT (pubK key)=nt key gG:=(ptT_of (nt_on gG_on key)).1
theorem gG_nz:gG≠none:=by unfold gG;simp
theorem elT_pub (hk:keyB key=true):elT (pubK key)=true:=elT_ptT (nt_on gG_on key) (nt_nz gG_on gG_nz (keyB_iff.1 hk))
theorem twp_pub (key:Nat)(info:ByteArray):twp info (pubK key)=nt (kt key info) gG:=by
  unfold twp kt;rw [asT_pub,nt_mod gG_on,Nat.add_comm,nt_add gG_on]
theorem facC_key (hk:keyB key=true)(h:facC mode key info=0):∃f:Nat,(1≤f∧f<2305843010818082053)∧((mode=2∧f=kt key info∧facT mode key info=f∧facB mode key info=M.ivn 2305843010818082053 f)∨(¬ mode=2∧f=key∧facT mode key info=f∧facB mode key info=f)):=by
  by_cases hm:mode=2
  · have h0:kt key info≠0:=fun e=>by
      unfold facC at h;rw [if_pos ⟨hm,e⟩] at h;cases h
    refine⟨kt key info,⟨Nat.one_le_iff_ne_zero.2 h0,kt_lt _ _⟩,.inl ⟨hm,rfl,if_pos hm,?_⟩⟩;unfold facB;rw [if_pos hm,if_neg h0]
  · exact⟨key,keyB_iff.1 hk,.inr ⟨hm,rfl,if_neg hm,if_neg hm⟩⟩
theorem evaE_one (t:Tri):evaE mode key info [t]= [nt (facB mode key info) (asT t)]:=rfl
end
end
end Go.Proofs.YtmjniccfjffclaaGreatDoor
