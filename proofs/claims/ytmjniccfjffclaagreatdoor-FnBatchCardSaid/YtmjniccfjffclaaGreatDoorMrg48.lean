import Derived.Test.YtmjniccfjffclaaGreatDoorMrg47
set_option linter.unusedVariables false
set_option maxRecDepth 100000
set_option maxHeartbeats 16000000
namespace Go.Proofs.YtmjniccfjffclaaGreatDoor
open Go.Proofs.Tryz Go.RowKit
open Go.Value (int)
open Go.IntKind (u64)
section
open M
theorem sumW_any (ws:List Int)(gw nw cw:Nat)(ps:List Pt)(n gp cp:Nat)(w:World)(hn:n≤200)(hwl:n≤nw)(hws:∀i,i<n→0≤lk ws i∧lk ws i<18446744073709551616)
    (hgw:gw<w.heap.size)(hwc:∀i,i<n→w.cell? ⟨gw,i,none⟩=some (int u64 (lk ws i)))(hl:ps.length=n)(hon:∀p∈ps,on p)(hp:Cps w gp ps):
    Cr 116 #[.slice (some ⟨gw,0,none⟩) nw cw,.slice (some ⟨gp,0,none⟩) n cp] w (.agg #[int u64 (px (mixTo ws ps n)),int u64 (py (mixTo ws ps n)),.bool (pb (mixTo ws ps n))]):=by
  obtain⟨MX,hMX⟩:∃MX,Hid (MX=mixTo ws ps):=⟨_,rfl⟩;rw [←hMX.out]
  have hst:Hid (∀j,j<n→∃(p:Pt) (k:Nat),ps[j]? =some p∧on p∧k<18446744073709551616∧lk ws j=(k:Int)∧MX (j+1)=ad (MX j) (nt k p)∧on (MX j)):=fun j hj=>by
    obtain⟨p,hp⟩:∃p,ps[j]? =some p:=⟨_,List.getElem?_eq_getElem (by omega)⟩;have h1:=hws j hj;refine⟨p,(lk ws j).toNat,hp,hon p (List.mem_of_getElem? hp),by omega,by omega,?_,?_⟩
    · rw [hMX.out,mixTo];have e1:ps.getD j none=p:=by rw [List.getD_eq_getElem?_getD,hp];rfl
      rw [e1]
    · rw [hMX.out];exact mixTo_on hon j
  have hM0:MX 0=none:=by rw [hMX.out];rfl
  have hwc':Hid (∀i,i<n→w.cell? ⟨gw,i,none⟩=some (int u64 (lk ws i))):=hwc;clear hMX hws hwc hon;have r4:=K3.new w 75 0 0 false;have b4:=balc w (Obj.cells #[int u64 0,int u64 0,.bool false] 75);have TN:=triV none;rw [ptW_eq] at TN;change∀w,Calls _ _ #[.agg #[int u64 0,int u64 0,.bool true]] _ _ at TN;go_enter func116,ntmps116;go_wp2_with fail;refine(zpP _).mono ?_;rintro e w1 ⟨rfl,b1⟩;replace r4:=r4.keep b1;replace b4:=b4.tr b1;clear b1;go_wp2_with fail;refine(TN _).mono ?_;rintro e w2 ⟨rfl,b2⟩;replace r4:=(r4.keep b2).alloc (Obj.cells #[int u64 (fv (pX none)),int u64 (fv (pY none)),int u64 (fv (pZ none))] 156);replace b4:=b4.tr b2;have hs2:=b4.size;replace b4:=b4.alloc b4.size (Obj.cells #[int u64 (fv (pX none)),int u64 (fv (pY none)),int u64 (fv (pZ none))] 156);have t5:=T3.new w2 (fv (pX none)) (fv (pY none)) (fv (pZ none));have hne:w.heap.size≠w2.heap.size:=by have h1:=r4.lt;have h2:=b2.size;simp at h1;intro h;have:=r4;unfold K3 at this;rw [h,heap_alloc_new] at this;cases this
  clear TN b2;go_wp2;generalize w2.heap.size=B5 at*
  go_loopw [12] (fun iv wr=>∃(j:Nat) (q:Pt) (X Y Z:Fp),j≤n∧iv= .int .i64 (j:Int)∧Hid (q=MX j)∧Hid (rep X Y Z q)∧T3 wr B5 (fv X) (fv Y) (fv Z)∧K3 wr 75 w.heap.size 0 0 false∧Bl w wr) (fun i _=>n-(intOf i).toNat)
  case atStart=>exact ⟨0,none,pX none,pY none,pZ none,by omega,rfl,hM0.symm,rep_self none,t5,r4,b4⟩
  case round=>
    clear t5 r4 b4 hM0;obtain⟨j,q,X,Y,Z,hj,rfl,hq,hrep,t5,r4,hbl⟩:=hrel;by_cases hlt:j<n
    · have hli:(j:Int)<(n:Int):=by omega
      obtain⟨p,k,hpj,hop,hk,hlk,hnx,hoq⟩:=hst.out j hlt;rw [←hq.out] at hnx hoq;have pp:=hp.below hbl hp.lt;have c0:=pp.c0 j p hpj;have c1:=pp.c1 j p hpj;have c2:=pp.c2 j p hpj;rw [Nat.zero_add] at c0 c1 c2;have hr:=trB_rep (t:=(pX p,pY p,pZ p)) hop (rep_self p) (bitsF k (Lib.bitLen k) (Lib.bitLen k));rw [valB_all k (by omega)] at hr;have K1:=triV p;rw [ptW_eq] at K1;have K2:=fun w=>mulP (pX p) (pY p) (pZ p) k w hk _ rfl
      obtain⟨T,hT⟩:∃T,T=trB (pX p,pY p,pZ p) (bitsF k (Lib.bitLen k) (Lib.bitLen k)):=⟨_,rfl⟩;rw [←hT] at hr K2;obtain⟨tX,tY,tZ⟩:=T;have K3':=trV X Y Z tX tY tZ
      have hrn:Hid (rep (cX X Y Z tX tY tZ) (cY X Y Z tX tY tZ) (cZ X Y Z tX tY tZ) (MX (j+1))):=by
        simp only [Hid];rw [hnx];exact rep_c hoq (nt_on hop k) hrep.out hr
      dsimp only at K2;generalize cX X Y Z tX tY tZ=NX at*;generalize cY X Y Z tX tY tZ=NY at*;generalize cZ X Y Z tX tY tZ=NZ at*;have a0:=hwc'.out j hlt;rw [hlk] at a0;replace a0:=(hbl.cell (p:=⟨gw,j,none⟩) hgw).trans a0;have hgw':gw<wr.heap.size:=Nat.lt_of_lt_of_le hgw hbl.size;clear hT hr hrep hq hnx hoq hpj pp hlk hop;go_wp2;have hal:=balc wr (Obj.cells #[int u64 (px p),int u64 (py p),.bool (pb p)] 75);have rp:=K3.new wr 75 (px p) (py p) (pb p);replace a0:=(hal.cell (p:=⟨gw,j,none⟩) hgw').trans a0;replace t5:=t5.alloc (Obj.cells #[int u64 (px p),int u64 (py p),.bool (pb p)] 75);replace r4:=r4.alloc (Obj.cells #[int u64 (px p),int u64 (py p),.bool (pb p)] 75);replace hbl:=hbl.tr hal;clear c0 c1 c2 hal;generalize wr.alloc (Obj.cells #[int u64 (px p),int u64 (py p),.bool (pb p)] 75)=W3 at*;generalize wr.heap.size=B7 at*;have w0:W3.drew.cell? ⟨gw,0+j,none⟩=some (int u64 (k:Int)):=by rw [Nat.zero_add];exact a0
      have c0:W3.drew.cell? ⟨B7,0,none⟩=_:=rp.c0;have c1:W3.drew.cell? ⟨B7,1,none⟩=_:=rp.c1;have c2:W3.drew.cell? ⟨B7,2,none⟩=_:=rp.c2;have d0:W3.drew.cell? ⟨B5,0,none⟩=_:=t5.c0;have d1:W3.drew.cell? ⟨B5,1,none⟩=_:=t5.c1;have d2:W3.drew.cell? ⟨B5,2,none⟩=_:=t5.c2
      refine pool_prT 10 [.val (.agg #[int u64 (fv X),int u64 (fv Y),int u64 (fv Z)]),
          .val (.agg #[int u64 (px p),int u64 (py p),.bool (pb p)]),
          .val (.agg #[int u64 (fv (pX p)),int u64 (fv (pY p)),int u64 (fv (pZ p))]),
          .val (.slice (some ⟨gw,0,none⟩) nw cw),
          .val (.int .i64 (j:Int)),
          .val (.pointer (some ⟨gw,0+j,none⟩)),
          .val (.pointer (some ⟨gw,0+j,none⟩)),
          .val (int u64 (k:Int)),
          .val (.agg #[int u64 (fv tX),int u64 (fv tY),int u64 (fv tZ)]),
          .val (.agg #[int u64 (fv NX),int u64 (fv NY),int u64 (fv NZ)])] [[5],[7],[18],[0],[6],[20,21],[22],[23],[19,24],[17,25]] (fun f=> [(some 17,.agg #[int u64 (fv X),int u64 (fv Y),int u64 (fv Z)]),(some 18,.agg #[int u64 (px p),int u64 (py p),.bool (pb p)]),(some 19,.agg #[int u64 (fv (pX p)),int u64 (fv (pY p)),int u64 (fv (pZ p))]),(some 20,.slice (some ⟨gw,0,none⟩) nw cw),(some 21,.int .i64 (j:Int)),(some 22,.pointer (some ⟨gw,0+j,none⟩)),(some 23,.pointer (some ⟨gw,0+j,none⟩)),(some 24,int u64 (k:Int)),(some 25,.agg #[int u64 (fv tX),int u64 (fv tY),int u64 (fv tZ)]),(some 26,.agg #[int u64 (fv NX),int u64 (fv NY),int u64 (fv NZ)])]) (by kernel_rfl) (by kernel_rfl) (by kernel_rfl) (by kernel_rfl) (by decide) (by kernel_rfl) (fun _=>by kernel_rfl) ?_ ?_
      · intro ix hix
        match ix,hix with
        |0,_=>exact obv [(5,.pointer (some ⟨B5,0,none⟩))] rfl rfl (fun A w ⟨e0,_⟩ hB=>ld_tr e0 (keepC d0 hB) (keepC d1 hB) (keepC d2 hB))
        |1,_=>exact obv [(7,.pointer (some ⟨B7,0,none⟩))] rfl rfl (fun A w ⟨e0,_⟩ hB=>ld_cp e0 (keepC c0 hB) (keepC c1 hB) (keepC c2 hB))
        |2,_=>exact obv [(18,.agg #[int u64 (px p),int u64 (py p),.bool (pb p)])] rfl rfl (fun A w ⟨e0,_⟩ hB=>cl1 cf_impl_curvePoint_triple e0 (K1 w))
        |3,_=>exact obv [(0,.slice (some ⟨gw,0,none⟩) nw cw)] rfl rfl (fun A w ⟨e0,_⟩ hB=>doV_move e0)
        |4,_=>exact obv [(6,.int .i64 (j:Int))] rfl rfl (fun A w ⟨e0,_⟩ hB=>doV_move e0)
        |5,_=>exact obv [(20,.slice (some ⟨gw,0,none⟩) nw cw),(21,.int .i64 (j:Int))] rfl rfl (fun A w ⟨e0,e1,_⟩ hB=>ix_nNs e0 e1 (by omega))
        |6,_=>exact obv [(22,.pointer (some ⟨gw,0+j,none⟩))] rfl rfl (fun A w ⟨e0,_⟩ hB=>fa_nN1 e0)
        |7,_=>exact obv [(23,.pointer (some ⟨gw,0+j,none⟩))] rfl rfl (fun A w ⟨e0,_⟩ hB=>ld_u64 e0 (keepC w0 hB))
        |8,_=>exact obv [(19,.agg #[int u64 (fv (pX p)),int u64 (fv (pY p)),int u64 (fv (pZ p))]),(24,int u64 (k:Int))] rfl rfl (fun A w ⟨e0,e1,_⟩ hB=>cl2 cf_impl_triple_multiple e0 e1 (K2 w))
        |9,_=>exact obv [(17,.agg #[int u64 (fv X),int u64 (fv Y),int u64 (fv Z)]),(25,.agg #[int u64 (fv tX),int u64 (fv tY),int u64 (fv tZ)])] rfl rfl (fun A w ⟨e0,e1,_⟩ hB=>cl2 cf_impl_triple_plus e0 e1 (K3' w))
        |ix+10,h=>exact absurd h (by simp)
      intro f W4 hb4 _ fuel hfuel;have hb4':Bl W3 W4:=(Below.refl _ W3).drew.trans hb4;replace t5:=t5.keep hb4';replace r4:=r4.keep hb4';replace hbl:=hbl.tr hb4';simp only [puts,List.foldl,Act.put,List.setIfInBounds_toArray,List.set_cons_zero,List.set_cons_succ];refine last_do1 10 hfuel (by kernel_rfl) (by kernel_rfl) rfl rfl ?_;refine fun Q K hK=>st_tr (z0:=fv NX) (z1:=fv NY) (z2:=fv NZ) rfl rfl t5 Q K (fun v w' e=>hK v w' ?_)
      subst e;have R1:=t5.set (fv NX) (fv NY) (fv NZ)
      have R2:K3 (setT W4 B5 (fv NX) (fv NY) (fv NZ)) 75 w.heap.size 0 0 false:=by
        unfold K3 setT;rw [setCell_heap3 _ _ _ _ _ hne,setCell_heap3 _ _ _ _ _ hne,setCell_heap3 _ _ _ _ _ hne];exact r4
      have R3':Bl w (setT W4 B5 (fv NX) (fv NY) (fv NZ)):=setT_below hbl hs2;change Bl w (((W4.setCell _ _).setCell _ _).setCell _ _) at R3';change T3 (((W4.setCell _ _).setCell _ _).setCell _ _) _ _ _ _ at R1;change K3 (((W4.setCell _ _).setCell _ _).setCell _ _) _ _ _ _ _ at R2;clear c0 c1 c2 d0 d1 d2 a0 w0 K1 K2 K3' hb4 hb4' t5 r4 hbl rp;generalize ((W4.setCell _ _).setCell _ _).setCell _ _=W5 at*;go_wp2;go_roundw
      case rel=>
        first
          |exact ⟨j+1,MX (j+1),NX,NY,NZ,by omega,by go_num,rfl,hrn,R1,R2,R3'⟩
          |((repeat apply Exists.intro);exact⟨⟨j+1,MX (j+1),NX,NY,NZ,by omega,by go_num,rfl,hrn,R1,R2,R3'⟩,rfl⟩)
      case measure=>simp [intOf];omega
    · obtain rfl:j=n:=by omega
      have hq':=hq.out;subst hq';have P:=pntV hrep.out;rw [ptW_eq] at P;have c0:=t5.c0;have c1:=t5.c1;have c2:=t5.c2;clear hrep hst;go_wp2_with fail;refine(P _).mono ?_;rintro e w6 ⟨rfl,b6⟩;replace r4:=r4.keep b6;replace hbl:=hbl.tr b6;clear c0 c1 c2 P;have d0:=r4.c0;have d1:=r4.c1;have d2:=r4.c2;have f0:=r4.frz;go_wp2;exact bodyPost_ret (v:= .agg #[int u64 (px (MX j)),int u64 (py (MX j)),.bool (pb (MX j))]) (cp_res (fn:=Tryz.f116) (p:=4) results116 _ rfl (r4.set (px (MX j)) (py (MX j)) (pb (MX j)))) rfl ⟨rfl,set3_below hbl (Nat.le_refl _)⟩
theorem chlI_of (k:Nat)(b m z x y:Pt)(a1:Option Addr)(n1 k1:Nat)(a2:Option Addr)(n2 k2:Nat)(w:World)(hT:TabK w)(hk:k<3):
    Cr 83 #[.agg #[.string (ctxB k),int u64 (px b),int u64 (py b),.bool (pb b),.slice a1 n1 k1,.slice a2 n2 k2],.agg #[int u64 (px m),int u64 (py m),.bool (pb m)],.agg #[int u64 (px z),int u64 (py z),.bool (pb z)],.agg #[int u64 (px x),int u64 (py x),.bool (pb x)],.agg #[int u64 (px y),int u64 (py y),.bool (pb y)]] w (.agg #[int u64 (chal k b m z x y:Nat)]):=by
  have hgw:7<w.heap.size:=World.block_lt_of_cell? w _ (hT 0 (by omega))
  have hTX:(chalT b m z x y).size=59:=by
    unfold chalT;simp only [ByteArray.size_append,sizB_size,ptB_size];rw [show challB.size=9 from rfl]
  have hWT:∀(i:Nat) (w:World),w.heap[i]? =some (.cells #[.iface 75 (.agg #[int u64 (px b),int u64 (py b),.bool (pb b)]),.iface 75 (.agg #[int u64 (px m),int u64 (py m),.bool (pb m)]),.iface 75 (.agg #[int u64 (px z),int u64 (py z),.bool (pb z)]),.iface 75 (.agg #[int u64 (px x),int u64 (py x),.bool (pb x)]),.iface 75 (.agg #[int u64 (px y),int u64 (py y),.bool (pb y)]),.iface 196 (.string challB)] 231)→
      Cr 119 #[.string ⟨#[]⟩,.slice (some ⟨i,0,none⟩) 6 6] w (.string (chalT b m z x y)):=fun i w hr=>by
    have e:catA ⟨#[]⟩ [sizB (ptB b),sizB (ptB m),sizB (ptB z),sizB (ptB x),sizB (ptB y),challB]=chalT b m z x y:=by
      show(⟨#[]⟩:ByteArray)++sizB (ptB b)++sizB (ptB m)++sizB (ptB z)++sizB (ptB x)++sizB (ptB y)++challB=_;rw [eml];rfl
    have:=with_blk ⟨#[]⟩ [(.iface 75 (.agg #[int u64 (px b),int u64 (py b),.bool (pb b)]),sizB (ptB b)),(.iface 75 (.agg #[int u64 (px m),int u64 (py m),.bool (pb m)]),sizB (ptB m)),(.iface 75 (.agg #[int u64 (px z),int u64 (py z),.bool (pb z)]),sizB (ptB z)),(.iface 75 (.agg #[int u64 (px x),int u64 (py x),.bool (pb x)]),sizB (ptB x)),(.iface 75 (.agg #[int u64 (px y),int u64 (py y),.bool (pb y)]),sizB (ptB y)),(.iface 196 (.string challB),challB)] i 6 _ _ w hr rfl rfl (by omega) (by
      intro vs hvs;simp only [List.mem_cons,List.not_mem_nil,or_false] at hvs;rcases hvs with rfl|rfl|rfl|rfl|rfl|rfl
      · exact writC b
      · exact writC m
      · exact writC z
      · exact writC x
      · exact writC y
      · exact writP challB) (by
        show(catA ⟨#[]⟩ [sizB (ptB b),sizB (ptB m),sizB (ptB z),sizB (ptB x),sizB (ptB y),challB]).size≤_
        rw [e,hTX];decide)
    change Calls _ _ _ _ (fun e w'=>e= .returned (.string (catA ⟨#[]⟩ [sizB (ptB b),sizB (ptB m),sizB (ptB z),sizB (ptB x),sizB (ptB y),challB]))∧_) at this;rw [e] at this;exact this
  have hSC:∀w:World,TabK w→Cr 118 #[.string (ctxB k),.string (chalT b m z x y)] w (.agg #[int u64 (chal k b m z x y:Nat)]):=fun w hT=>scaI_any _ k w hT hk (by rw [hTX];omega)
  generalize ((chal k b m z x y:Nat):Int)=c at*;generalize chalT b m z x y=TXT at*;obtain⟨X,hX⟩:∃X,X=(((((w.alloc (Obj.cells #[.string (ctxB k),int u64 (px b),int u64 (py b),.bool (pb b),.slice a1 n1 k1,.slice a2 n2 k2] 78)).alloc (Obj.cells #[int u64 (px m),int u64 (py m),.bool (pb m)] 75)).alloc (Obj.cells #[int u64 (px z),int u64 (py z),.bool (pb z)] 75)).alloc (Obj.cells #[int u64 (px x),int u64 (py x),.bool (pb x)] 75)).alloc (Obj.cells #[int u64 (px y),int u64 (py y),.bool (pb y)] 75)).alloc (Obj.cells #[int u64 0] 86):=⟨_,rfl⟩;have r0:B6 X w.heap.size (ctxB k) (px b) (py b) (pb b) a1 n1 k1 a2 n2 k2:=by rw [hX];exact(((((B6.new _ _ _ _ _ _ _ _ _ _ _).alloc _).alloc _).alloc _).alloc _).alloc _
  have r1:K3 X 75 (w.heap.size+1) (px m) (py m) (pb m):=by rw [hX];exact(((((K3.new _ _ _ _ _).at (by simp)).alloc _).alloc _).alloc _).alloc _
  have r2:K3 X 75 (w.heap.size+1+1) (px z) (py z) (pb z):=by rw [hX];exact((((K3.new _ _ _ _ _).at (by simp)).alloc _).alloc _).alloc _
  have r3:K3 X 75 (w.heap.size+1+1+1) (px x) (py x) (pb x):=by rw [hX];exact(((K3.new _ _ _ _ _).at (by simp)).alloc _).alloc _
  have r4:K3 X 75 (w.heap.size+1+1+1+1) (px y) (py y) (pb y):=by rw [hX];exact((K3.new _ _ _ _ _).at (by simp)).alloc _
  have r5:RN X (w.heap.size+1+1+1+1+1) 0:=by rw [hX];unfold RN;have:=heap_alloc_new (((((w.alloc (Obj.cells #[.string (ctxB k),int u64 (px b),int u64 (py b),.bool (pb b),.slice a1 n1 k1,.slice a2 n2 k2] 78)).alloc (Obj.cells #[int u64 (px m),int u64 (py m),.bool (pb m)] 75)).alloc (Obj.cells #[int u64 (px z),int u64 (py z),.bool (pb z)] 75)).alloc (Obj.cells #[int u64 (px x),int u64 (py x),.bool (pb x)] 75)).alloc (Obj.cells #[int u64 (px y),int u64 (py y),.bool (pb y)] 75)) (Obj.cells #[int u64 0] 86);simpa using this
  have hb:Bl w X:=by
    rw [hX];exact((((((Below.refl _ w).alloc (Nat.le_refl _) _).alloc (by simp) _).alloc (by simp;omega) _).alloc (by simp;omega) _).alloc (by simp;omega) _).alloc (by simp;omega) _
  go_enter func83,ntmps83;go_wp2;rw [←hX];clear hX;have hT1:TabK X.drew:=fun i hi=>(hb.cell (p:=⟨7,i,none⟩) hgw).trans (hT i hi)
  have hg1:7<X.drew.heap.size:=Nat.lt_of_lt_of_le hgw hb.size;have s0:X.drew.cell? ⟨w.heap.size,0,none⟩=_:=r0.c0;have a0:X.drew.cell? ⟨w.heap.size,1,none⟩=_:=r0.c1;have a1':X.drew.cell? ⟨w.heap.size,2,none⟩=_:=r0.c2;have a2':X.drew.cell? ⟨w.heap.size,3,none⟩=_:=r0.c3;have b0:X.drew.cell? ⟨w.heap.size+1,0,none⟩=_:=r1.c0;have b1:X.drew.cell? ⟨w.heap.size+1,1,none⟩=_:=r1.c1;have b2:X.drew.cell? ⟨w.heap.size+1,2,none⟩=_:=r1.c2;have c0:X.drew.cell? ⟨w.heap.size+1+1,0,none⟩=_:=r2.c0;have c1:X.drew.cell? ⟨w.heap.size+1+1,1,none⟩=_:=r2.c1;have c2:X.drew.cell? ⟨w.heap.size+1+1,2,none⟩=_:=r2.c2;have d0:X.drew.cell? ⟨w.heap.size+1+1+1,0,none⟩=_:=r3.c0;have d1:X.drew.cell? ⟨w.heap.size+1+1+1,1,none⟩=_:=r3.c1;have d2:X.drew.cell? ⟨w.heap.size+1+1+1,2,none⟩=_:=r3.c2;have e0':X.drew.cell? ⟨w.heap.size+1+1+1+1,0,none⟩=_:=r4.c0;have e1':X.drew.cell? ⟨w.heap.size+1+1+1+1,1,none⟩=_:=r4.c1;have e2':X.drew.cell? ⟨w.heap.size+1+1+1+1,2,none⟩=_:=r4.c2
  refine pool_prT 17 [.val (.pointer (some ⟨w.heap.size,0,none⟩)),
      .val (.string (ctxB k)),
      .val (.pointer (some ⟨w.heap.size,1,none⟩)),
      .val (.agg #[int u64 (px b),int u64 (py b),.bool (pb b)]),
      .val (.iface 75 (.agg #[int u64 (px b),int u64 (py b),.bool (pb b)])),
      .val (.agg #[int u64 (px m),int u64 (py m),.bool (pb m)]),
      .val (.iface 75 (.agg #[int u64 (px m),int u64 (py m),.bool (pb m)])),
      .val (.agg #[int u64 (px z),int u64 (py z),.bool (pb z)]),
      .val (.iface 75 (.agg #[int u64 (px z),int u64 (py z),.bool (pb z)])),
      .val (.agg #[int u64 (px x),int u64 (py x),.bool (pb x)]),
      .val (.iface 75 (.agg #[int u64 (px x),int u64 (py x),.bool (pb x)])),
      .val (.agg #[int u64 (px y),int u64 (py y),.bool (pb y)]),
      .val (.iface 75 (.agg #[int u64 (px y),int u64 (py y),.bool (pb y)])),
      .val (.iface 196 (.string challB)),
      .new (.cells #[.iface 75 (.agg #[int u64 (px b),int u64 (py b),.bool (pb b)]),.iface 75 (.agg #[int u64 (px m),int u64 (py m),.bool (pb m)]),.iface 75 (.agg #[int u64 (px z),int u64 (py z),.bool (pb z)]),.iface 75 (.agg #[int u64 (px x),int u64 (py x),.bool (pb x)]),.iface 75 (.agg #[int u64 (px y),int u64 (py y),.bool (pb y)]),.iface 196 (.string challB)] 231) (.cells #[.iface 75 (.agg #[int u64 (px b),int u64 (py b),.bool (pb b)]),.iface 75 (.agg #[int u64 (px m),int u64 (py m),.bool (pb m)]),.iface 75 (.agg #[int u64 (px z),int u64 (py z),.bool (pb z)]),.iface 75 (.agg #[int u64 (px x),int u64 (py x),.bool (pb x)]),.iface 75 (.agg #[int u64 (px y),int u64 (py y),.bool (pb y)]),.iface 196 (.string challB)] 231) 1006,
      .val (.string TXT),
      .val (.agg #[int u64 c])] [[5],[11],[5],[13],[14],[6],[16],[7],[18],[8],[20],[9],[22],[],[15,17,19,21,23,24],[25],[12,26]] (fun f=> [(some 11,.pointer (some ⟨w.heap.size,0,none⟩)),(some 12,.string (ctxB k)),(some 13,.pointer (some ⟨w.heap.size,1,none⟩)),(some 14,.agg #[int u64 (px b),int u64 (py b),.bool (pb b)]),(some 15,.iface 75 (.agg #[int u64 (px b),int u64 (py b),.bool (pb b)])),(some 16,.agg #[int u64 (px m),int u64 (py m),.bool (pb m)]),(some 17,.iface 75 (.agg #[int u64 (px m),int u64 (py m),.bool (pb m)])),(some 18,.agg #[int u64 (px z),int u64 (py z),.bool (pb z)]),(some 19,.iface 75 (.agg #[int u64 (px z),int u64 (py z),.bool (pb z)])),(some 20,.agg #[int u64 (px x),int u64 (py x),.bool (pb x)]),(some 21,.iface 75 (.agg #[int u64 (px x),int u64 (py x),.bool (pb x)])),(some 22,.agg #[int u64 (px y),int u64 (py y),.bool (pb y)]),(some 23,.iface 75 (.agg #[int u64 (px y),int u64 (py y),.bool (pb y)])),(some 24,.iface 196 (.string challB)),(some 25,.slice (some ⟨f 14,0,none⟩) 6 6),(some 26,.string TXT),(some 27,.agg #[int u64 c])]) (by kernel_rfl) (by kernel_rfl) (by kernel_rfl) (by kernel_rfl) (by decide) (by kernel_rfl) (fun _=>by kernel_rfl) ?_ ?_
  · intro ix hix
    match ix,hix with
    |0,_=>exact obv [(5,.pointer (some ⟨w.heap.size,0,none⟩))] rfl rfl (fun A w ⟨e0,_⟩ hB=>fa_bat0 e0)
    |1,_=>exact obv [(11,.pointer (some ⟨w.heap.size,0,none⟩))] rfl rfl (fun A w ⟨e0,_⟩ hB=>ld_ctx e0 (keepC s0 hB))
    |2,_=>exact obv [(5,.pointer (some ⟨w.heap.size,0,none⟩))] rfl rfl (fun A w ⟨e0,_⟩ hB=>fa_bat1 e0)
    |3,_=>exact obv [(13,.pointer (some ⟨w.heap.size,1,none⟩))] rfl rfl (fun A w ⟨e0,_⟩ hB=>ld_cp e0 (keepC a0 hB) (keepC a1' hB) (keepC a2' hB))
    |4,_=>exact obv [(14,.agg #[int u64 (px b),int u64 (py b),.bool (pb b)])] rfl rfl (fun A w ⟨e0,_⟩ hB=>mi_cp e0)
    |5,_=>exact obv [(6,.pointer (some ⟨w.heap.size+1,0,none⟩))] rfl rfl (fun A w ⟨e0,_⟩ hB=>ld_cp e0 (keepC b0 hB) (keepC b1 hB) (keepC b2 hB))
    |6,_=>exact obv [(16,.agg #[int u64 (px m),int u64 (py m),.bool (pb m)])] rfl rfl (fun A w ⟨e0,_⟩ hB=>mi_cp e0)
    |7,_=>exact obv [(7,.pointer (some ⟨w.heap.size+1+1,0,none⟩))] rfl rfl (fun A w ⟨e0,_⟩ hB=>ld_cp e0 (keepC c0 hB) (keepC c1 hB) (keepC c2 hB))
    |8,_=>exact obv [(18,.agg #[int u64 (px z),int u64 (py z),.bool (pb z)])] rfl rfl (fun A w ⟨e0,_⟩ hB=>mi_cp e0)
    |9,_=>exact obv [(8,.pointer (some ⟨w.heap.size+1+1+1,0,none⟩))] rfl rfl (fun A w ⟨e0,_⟩ hB=>ld_cp e0 (keepC d0 hB) (keepC d1 hB) (keepC d2 hB))
    |10,_=>exact obv [(20,.agg #[int u64 (px x),int u64 (py x),.bool (pb x)])] rfl rfl (fun A w ⟨e0,_⟩ hB=>mi_cp e0)
    |11,_=>exact obv [(9,.pointer (some ⟨w.heap.size+1+1+1+1,0,none⟩))] rfl rfl (fun A w ⟨e0,_⟩ hB=>ld_cp e0 (keepC e0' hB) (keepC e1' hB) (keepC e2' hB))
    |12,_=>exact obv [(22,.agg #[int u64 (px y),int u64 (py y),.bool (pb y)])] rfl rfl (fun A w ⟨e0,_⟩ hB=>mi_cp e0)
    |13,_=>exact obv [] rfl rfl (fun A w _ hB=>mi_plain rfl)
    |14,_=>exact ob_slc 6 [(15,.iface 75 (.agg #[int u64 (px b),int u64 (py b),.bool (pb b)])),(17,.iface 75 (.agg #[int u64 (px m),int u64 (py m),.bool (pb m)])),(19,.iface 75 (.agg #[int u64 (px z),int u64 (py z),.bool (pb z)])),(21,.iface 75 (.agg #[int u64 (px x),int u64 (py x),.bool (pb x)])),(23,.iface 75 (.agg #[int u64 (px y),int u64 (py y),.bool (pb y)])),(24,.iface 196 (.string challB))] rfl rfl (fun _=>by kernel_rfl) (fun A w ⟨e0,e1,e2,e3,e4,e5,_⟩=>sl_parts6 e0 e1 e2 e3 e4 e5)
    |15,_=>exact ob_use 25 14 1006 (.cells #[.iface 75 (.agg #[int u64 (px b),int u64 (py b),.bool (pb b)]),.iface 75 (.agg #[int u64 (px m),int u64 (py m),.bool (pb m)]),.iface 75 (.agg #[int u64 (px z),int u64 (py z),.bool (pb z)]),.iface 75 (.agg #[int u64 (px x),int u64 (py x),.bool (pb x)]),.iface 75 (.agg #[int u64 (px y),int u64 (py y),.bool (pb y)]),.iface 196 (.string challB)] 231) (fun f=> [(25,.slice (some ⟨f 14,0,none⟩) 6 6)]) rfl rfl (by decide) (by kernel_rfl) rfl (fun _=>by kernel_rfl) (fun f A w ⟨e0,_⟩ hB hr=>cl2 cf_impl_transcript_with rfl e0 (hWT _ w hr))
    |16,_=>exact obv [(12,.string (ctxB k)),(26,.string TXT)] rfl rfl (fun A w ⟨e0,e1,_⟩ hB=>cl2 cf_impl_context_scalar e0 e1 (hSC w (keepT hT1 hg1 hB)))
    |ix+17,h=>exact absurd h (by simp)
  intro f W3 hb3 _ fuel hfuel;have hb3':Bl X W3:=(Below.refl _ X).drew.trans hb3;have r6:=r5.keep hb3';have hb4:=hb.tr hb3';clear s0 a0 a1' a2' b0 b1 b2 c0 c1 c2 d0 d1 d2 e0' e1' e2' r0 r1 r2 r3 r4 r5 hT1 hg1 hb hb3 hb3' hWT hSC;simp only [puts,List.foldl,Act.put,List.setIfInBounds_toArray,List.set_cons_zero,List.set_cons_succ];refine last_do1 17 hfuel (by kernel_rfl) (by kernel_rfl) rfl rfl ?_;refine fun Q K hK=>st_nN (z0:=c) rfl rfl r6 Q K (fun v w' e=>hK v w' ?_)
  subst e;go_wp2;exact bodyPost_ret (v:= .agg #[int u64 c]) (rn_res (fn:=Tryz.f83) (p:=10) results83 _ rfl (r6.set c)) rfl ⟨rfl,hb4.setCell (p:=⟨w.heap.size+1+1+1+1+1,0,none⟩) (show w.heap.size≤w.heap.size+1+1+1+1+1 by omega) _⟩
theorem wgts_in' (k:Nat)(b:Pt)(cs ds:List Pt)(n i:Nat)(hi:i<n):0≤lk (wgts k b cs ds n) i∧lk (wgts k b cs ds n) i<18446744073709551616:=by
  rw [wgts_at k b cs ds n i hi];have:=scaN_lt (wgtT k b i (cs.getD i none) (ds.getD i none)) k;unfold wgt;omega
theorem cp2_res {W:World}{b b2:Nat}{x y x2 y2:Int}{c c2:Bool}{fn:Func}{p p2:Tmp}(h:fn.results=#[.cell p 75,.cell p2 75])(tmps:Array Value)(hp:tmps.getD p undef= .pointer (some ⟨b,0,none⟩))(hp2:tmps.getD p2 undef= .pointer (some ⟨b2,0,none⟩))(hc:K3 W 75 b x y c)(hc2:K3 W 75 b2 x2 y2 c2):
    (results fn tmps).run prog W= .ok (.tuple #[.agg #[int u64 x,int u64 y,.bool c],.agg #[int u64 x2,int u64 y2,.bool c2]]) W:=by
  have hp':tmps[p]?.getD undef= .pointer (some ⟨b,0,none⟩):=by simpa using hp
  have hp2':tmps[p2]?.getD undef= .pointer (some ⟨b2,0,none⟩):=by simpa using hp2
  simp [results,h,hp',hp2',asAddr,run_loadVar_mid W b 0 75 [int u64 x,int u64 y,.bool c] _ hc.range underlying75 rfl (by kernel_rfl),run_loadVar_mid W b2 0 75 [int u64 x2,int u64 y2,.bool c2] _ hc2.range underlying75 rfl (by kernel_rfl)]
theorem cmpI_any (k n g1 k1 g2 k2:Nat)(b:Pt)(cs ds:List Pt)(w:World)(hT:TabK w)(hk:k<3)(h1:1≤n)(hn:n≤200)(hlc:cs.length=n)(hld:ds.length=n)(hoc:∀p∈cs,on p)(hod:∀p∈ds,on p)(hc:Cps w g1 cs)(hd:Cps w g2 ds):
    Cr 81 #[.agg #[.string (ctxB k),int u64 (px b),int u64 (py b),.bool (pb b),.slice (some ⟨g1,0,none⟩) n k1,.slice (some ⟨g2,0,none⟩) n k2]] w (.tuple #[ptW (mixTo (wgts k b cs ds n) cs n),ptW (mixTo (wgts k b cs ds n) ds n)]):=by
  rw [ptW_eq,ptW_eq];have hgw:7<w.heap.size:=World.block_lt_of_cell? w _ (hT 0 (by omega));obtain⟨mC,hmC⟩:∃q,q=mixTo (wgts k b cs ds n) cs n:=⟨_,rfl⟩;obtain⟨mD,hmD⟩:∃q,q=mixTo (wgts k b cs ds n) ds n:=⟨_,rfl⟩;rw [←hmC,←hmD];have hWt:=fun w' hb=>wgtI_of k n g1 k1 g2 k2 b cs ds w' (keepT hT hgw hb) hk h1 hn hlc hld (hc.below (B:=w.heap.size) hb hc.lt) (hd.below (B:=w.heap.size) hb hd.lt)
  have M1:∀g cap w',Bl w w'→g<w'.heap.size→(∀i,i<n→w'.cell? ⟨g,i,none⟩=some (int u64 (lk (wgts k b cs ds n) i)))→Cr 116 #[.slice (some ⟨g,0,none⟩) n cap,.slice (some ⟨g1,0,none⟩) n k1] w' (.agg #[int u64 (px mC),int u64 (py mC),.bool (pb mC)]):=fun g cap w' hb hg hcl=>by
    rw [hmC];exact sumW_any _ g n cap cs n g1 k1 w' hn (Nat.le_refl _) (fun i hi=>wgts_in' k b cs ds n i hi) hg hcl hlc hoc (hc.below hb hc.lt)
  have M2:∀g cap w',Bl w w'→g<w'.heap.size→(∀i,i<n→w'.cell? ⟨g,i,none⟩=some (int u64 (lk (wgts k b cs ds n) i)))→Cr 116 #[.slice (some ⟨g,0,none⟩) n cap,.slice (some ⟨g2,0,none⟩) n k2] w' (.agg #[int u64 (px mD),int u64 (py mD),.bool (pb mD)]):=fun g cap w' hb hg hcl=>by
    rw [hmD];exact sumW_any _ g n cap ds n g2 k2 w' hn (Nat.le_refl _) (fun i hi=>wgts_in' k b cs ds n i hi) hg hcl hld hod (hd.below hb hd.lt)
  have hcel:∀(W:World) (g cap:Nat),W.ownsRow w.heap.size 86 1 (.slice (some ⟨g,0,none⟩) n cap) n ((wgts k b cs ds n).map (Value.int .u64))→g<W.heap.size∧∀i,i<n→W.cell? ⟨g,i,none⟩=some (int u64 (lk (wgts k b cs ds n) i)):=fun W g cap h=>⟨(h.lt g rfl).2,fun i hi=>own_cell h i hi⟩
  generalize wgts k b cs ds n=ws at*;clear hmC hmD;obtain⟨X,hX⟩:∃X,X=((w.alloc (Obj.cells #[.string (ctxB k),int u64 (px b),int u64 (py b),.bool (pb b),.slice (some ⟨g1,0,none⟩) n k1,.slice (some ⟨g2,0,none⟩) n k2] 78)).alloc (Obj.cells #[int u64 0,int u64 0,.bool false] 75)).alloc (Obj.cells #[int u64 0,int u64 0,.bool false] 75):=⟨_,rfl⟩;have r0:B6 X w.heap.size (ctxB k) (px b) (py b) (pb b) (some ⟨g1,0,none⟩) n k1 (some ⟨g2,0,none⟩) n k2:=by rw [hX];exact((B6.new _ _ _ _ _ _ _ _ _ _ _).alloc _).alloc _
  have r1:K3 X 75 (w.heap.size+1) 0 0 false:=by rw [hX];exact((K3.new _ _ _ _ _).at (by simp)).alloc _
  have r2:K3 X 75 (w.heap.size+1+1) 0 0 false:=by rw [hX];exact(K3.new _ _ _ _ _).at (by simp)
  have hb:Bl w X:=by rw [hX];exact(((Below.refl _ w).alloc (Nat.le_refl _) _).alloc (by simp) _).alloc (by simp;omega) _
  rw [hX] at r0 r1 r2 hb;clear hX;go_enter func81,ntmps81;go_wp2_with fail;refine(hWt _ hb).mono ?_;rintro e w1 ⟨g,cap,rfl,hown,b1⟩;have hown':w1.ownsRow w.heap.size 86 1 (.slice (some ⟨g,0,none⟩) n cap) n (ws.map (Value.int .u64)):=hown.mono hb.size;replace r0:=r0.keep b1;replace r1:=r1.keep b1;replace r2:=r2.keep b1;replace hb:=hb.tr b1;obtain⟨hgl,hcl⟩:=hcel w1 g cap hown';clear hown hown' hcel hWt b1;have hcl':Hid (∀i,i<n→w1.cell? ⟨g,i,none⟩=some (int u64 (lk ws i))):=hcl;clear hcl;go_wp2;have s4:w1.drew.cell? ⟨w.heap.size,4,none⟩=_:=r0.c4;have s5:w1.drew.cell? ⟨w.heap.size,5,none⟩=_:=r0.c5
  have N1:∀w',Below w1.drew.heap.size w1.drew w'→Cr 116 #[.slice (some ⟨g,0,none⟩) n cap,.slice (some ⟨g1,0,none⟩) n k1] w' (.agg #[int u64 (px mC),int u64 (py mC),.bool (pb mC)]):=fun w' hB=>
    M1 g cap w' (hb.drew.trans (hB.mono hb.size)) (Nat.lt_of_lt_of_le hgl hB.size) (fun i hi=>(hB.cell (p:=⟨g,i,none⟩) hgl).trans (hcl'.out i hi))
  have N2:∀w',Below w1.drew.heap.size w1.drew w'→Cr 116 #[.slice (some ⟨g,0,none⟩) n cap,.slice (some ⟨g2,0,none⟩) n k2] w' (.agg #[int u64 (px mD),int u64 (py mD),.bool (pb mD)]):=fun w' hB=>
    M2 g cap w' (hb.drew.trans (hB.mono hb.size)) (Nat.lt_of_lt_of_le hgl hB.size) (fun i hi=>(hB.cell (p:=⟨g,i,none⟩) hgl).trans (hcl'.out i hi))
  clear M1 M2
  refine pool_prT 8 [.val (.slice (some ⟨g,0,none⟩) n cap),
      .val (.pointer (some ⟨w.heap.size,4,none⟩)),
      .val (.slice (some ⟨g1,0,none⟩) n k1),
      .val (.agg #[int u64 (px mC),int u64 (py mC),.bool (pb mC)]),
      .val (.slice (some ⟨g,0,none⟩) n cap),
      .val (.pointer (some ⟨w.heap.size,5,none⟩)),
      .val (.slice (some ⟨g2,0,none⟩) n k2),
      .val (.agg #[int u64 (px mD),int u64 (py mD),.bool (pb mD)])] [[4],[1],[8],[7,9],[4],[1],[12],[11,13]] (fun f=> [(some 7,.slice (some ⟨g,0,none⟩) n cap),(some 8,.pointer (some ⟨w.heap.size,4,none⟩)),(some 9,.slice (some ⟨g1,0,none⟩) n k1),(some 10,.agg #[int u64 (px mC),int u64 (py mC),.bool (pb mC)]),(some 11,.slice (some ⟨g,0,none⟩) n cap),(some 12,.pointer (some ⟨w.heap.size,5,none⟩)),(some 13,.slice (some ⟨g2,0,none⟩) n k2),(some 14,.agg #[int u64 (px mD),int u64 (py mD),.bool (pb mD)])]) (by kernel_rfl) (by kernel_rfl) (by kernel_rfl) (by kernel_rfl) (by decide) (by kernel_rfl) (fun _=>by kernel_rfl) ?_ ?_
  · intro ix hix
    match ix,hix with
    |0,_=>exact obv [(4,.slice (some ⟨g,0,none⟩) n cap)] rfl rfl (fun A w ⟨e0,_⟩ hB=>doV_move e0)
    |1,_=>exact obv [(1,.pointer (some ⟨w.heap.size,0,none⟩))] rfl rfl (fun A w ⟨e0,_⟩ hB=>fa_bat2 e0)
    |2,_=>exact obv [(8,.pointer (some ⟨w.heap.size,4,none⟩))] rfl rfl (fun A w ⟨e0,_⟩ hB=>ld_cpsl e0 (keepC s4 hB))
    |3,_=>exact obv [(7,.slice (some ⟨g,0,none⟩) n cap),(9,.slice (some ⟨g1,0,none⟩) n k1)] rfl rfl (fun A w ⟨e0,e1,_⟩ hB=>cl2 cf_impl_weighted e0 e1 (N1 w hB))
    |4,_=>exact obv [(4,.slice (some ⟨g,0,none⟩) n cap)] rfl rfl (fun A w ⟨e0,_⟩ hB=>doV_move e0)
    |5,_=>exact obv [(1,.pointer (some ⟨w.heap.size,0,none⟩))] rfl rfl (fun A w ⟨e0,_⟩ hB=>fa_bat3 e0)
    |6,_=>exact obv [(12,.pointer (some ⟨w.heap.size,5,none⟩))] rfl rfl (fun A w ⟨e0,_⟩ hB=>ld_cpsl e0 (keepC s5 hB))
    |7,_=>exact obv [(11,.slice (some ⟨g,0,none⟩) n cap),(13,.slice (some ⟨g2,0,none⟩) n k2)] rfl rfl (fun A w ⟨e0,e1,_⟩ hB=>cl2 cf_impl_weighted e0 e1 (N2 w hB))
    |ix+8,h=>exact absurd h (by simp)
  intro f W3 hb3 _ fuel hfuel;have hb3':Bl w1 W3:=(Below.refl _ w1).drew.trans hb3;replace r1:=r1.keep hb3';replace r2:=r2.keep hb3';replace hb:=hb.tr hb3';clear N1 N2 s4 s5 hb3 hb3' r0 hcl';simp only [puts,List.foldl,Act.put,List.setIfInBounds_toArray,List.set_cons_zero,List.set_cons_succ];refine last_do2 8 9 hfuel (by kernel_rfl) (by kernel_rfl) (by kernel_rfl) rfl rfl rfl rfl (st_cp (z0:=px mC) (z1:=py mC) (z2:=pb mC) rfl rfl r1) ?_;rintro v w' rfl;have q1:=r1.set (px mC) (py mC) (pb mC);have q2:=r2.other (b':=w.heap.size+1) (by omega) (px mC) (py mC) (pb mC);have hb5:Bl w (set3 W3 (w.heap.size+1) (px mC) (py mC) (pb mC)):=set3_below hb (by omega);change K3 (((W3.setCell _ _).setCell _ _).setCell _ _) _ _ _ _ _ at q1;change K3 (((W3.setCell _ _).setCell _ _).setCell _ _) _ _ _ _ _ at q2;change Bl w (((W3.setCell _ _).setCell _ _).setCell _ _) at hb5;clear r1 r2 hb;generalize ((W3.setCell _ _).setCell _ _).setCell _ _=W4 at*;refine fun Q K hK=>st_cp (z0:=px mD) (z1:=py mD) (z2:=pb mD) rfl rfl q2 Q K (fun v w' e=>hK v w' ?_)
  subst e;have p1:=q1.other (b':=w.heap.size+1+1) (by omega) (px mD) (py mD) (pb mD);have p2:=q2.set (px mD) (py mD) (pb mD);go_wp2;exact bodyPost_ret (v:= .tuple #[.agg #[int u64 (px mC),int u64 (py mC),.bool (pb mC)],.agg #[int u64 (px mD),int u64 (py mD),.bool (pb mD)]]) (cp2_res (fn:=Tryz.f81) (p:=2) (p2:=3) results81 _ rfl rfl p1 p2) rfl ⟨rfl,set3_below hb5 (by omega)⟩
theorem RN.new (w:World)(z:Int):RN (w.alloc (.cells #[int u64 z] 86)) w.heap.size z:=heap_alloc_new w _
theorem RN.alloc' {W:World}{b:Nat}{z:Int}(h:RN W b z)(o:Obj):RN (W.alloc o) b z:=(Below.heap_alloc W o b (Array.getElem?_eq_some_iff.1 h).1).trans h
theorem RN.at' {W:World}{b b':Nat}{z:Int}(h:RN W b z)(e:b=b'):RN W b' z:=e▸h
theorem prf_res {W:World}{b:Nat}{x y:Int}{fn:Func}{p:Tmp}(h:fn.results=#[.cell p 28])(tmps:Array Value)(hp:tmps.getD p undef= .pointer (some ⟨b,0,none⟩))(hc:P2 W 28 b x y):
    (results fn tmps).run prog W= .ok (.agg #[int u64 x,int u64 y]) W:=
  results_mid h tmps W b 0 [int u64 x,int u64 y] _ hp hc.range underlying28 rfl (by kernel_rfl)
theorem prvI_any (md n g1 k1 g2 k2 k r:Nat)(a b:Pt)(cs ds:List Pt)(w:World)(hT:TabK w)(hmd:md<3)(h1:1≤n)(hn:n≤200)(hlc:cs.length=n)(hld:ds.length=n)(ha:on a)(hoc:∀p∈cs,on p)(hc:Cps w g1 cs)(hd:Cps w g2 ds)
    (hk:k<2305843010818082053)(hr:r<2305843010818082053)(m:Pt)(hm:m=mixTo (wgts md b cs ds n) cs n)(c:Nat)(hcc:c=chal md b m (nt k m) (nt r a) (nt r m)):
    Cr 149 #[.agg #[.string (ctxB md),int u64 (px b),int u64 (py b),.bool (pb b),.slice (some ⟨g1,0,none⟩) n k1,.slice (some ⟨g2,0,none⟩) n k2],.agg #[int u64 k],.agg #[int u64 (px a),int u64 (py a),.bool (pb a)],.agg #[int u64 r]] w (.agg #[int u64 c,int u64 ((r+(2305843010818082053-c*k%2305843010818082053)%2305843010818082053)%2305843010818082053:Nat)]):=by
  have hgw:7<w.heap.size:=World.block_lt_of_cell? w _ (hT 0 (by omega));have hom:on m:=by rw [hm];exact mixTo_on hoc n
  have hcl:c<2305843010818082053:=by rw [hcc];exact scaN_lt _ _
  have hWt:∀w',Bl w w'→Calls prog 115 #[.agg #[.string (ctxB md),int u64 (px b),int u64 (py b),.bool (pb b),.slice (some ⟨g1,0,none⟩) n k1,.slice (some ⟨g2,0,none⟩) n k2]] w' fun e w''=>∃x,e= .returned (slG n x)∧w''.ownsRow w.heap.size 86 1 (slG n x) n ((wgts md b cs ds n).map (Value.int .u64))∧Bl w' w'':=fun w' hb=>by
    refine(wgtI_of md n g1 k1 g2 k2 b cs ds w' (keepT hT hgw hb) hmd h1 hn hlc hld (hc.below (B:=w.heap.size) hb hc.lt) (hd.below (B:=w.heap.size) hb hd.lt)).mono ?_;rintro e w'' ⟨g,cap,rfl,hown,hb2⟩;have e:=slG_of n g cap (own_cap hown);exact⟨g*18446744073709551616+cap,by rw [e],by rw [e];exact hown.mono hb.size,hb2⟩
  have hMx:∀x w',Bl w w'→w'.ownsRow w.heap.size 86 1 (slG n x) n ((wgts md b cs ds n).map (Value.int .u64))→Cr 116 #[slG n x,.slice (some ⟨g1,0,none⟩) n k1] w' (.agg #[int u64 (px m),int u64 (py m),.bool (pb m)]):=fun x w' hb hown=>by
    rw [hm];unfold slG at hown⊢;exact sumW_any _ _ n _ cs n g1 k1 w' hn (Nat.le_refl _) (fun i hi=>wgts_in' md b cs ds n i hi) (hown.lt _ rfl).2 (fun i hi=>own_cell hown i hi) hlc hoc (hc.below hb hc.lt)
  have T1:=fun w=>ctmV hom k (by omega) w
  have T2:=fun w=>ctmV ha r (by omega) w
  have T3':=fun w=>ctmV hom r (by omega) w
  rw [ptW_eq,ptW_eq] at T1 T2 T3';have CH:=fun w hT=>chlI_of md b m (nt k m) (nt r a) (nt r m) (some ⟨g1,0,none⟩) n k1 (some ⟨g2,0,none⟩) n k2 w hT hmd
  rw [←hcc] at CH;have MU:=fun w=>timN_any c k w hcl hk
  have hx:c*k%2305843010818082053<2305843010818082053:=Nat.mod_lt _ (by decide);have MN:=fun w=>mnN_any r (c*k%2305843010818082053) w hr hx
  generalize ((r+(2305843010818082053-c*k%2305843010818082053)%2305843010818082053)%2305843010818082053:Nat)=s at*;generalize c*k%2305843010818082053=ck at*;generalize nt k m=z at*;generalize nt r m=y at*;generalize nt r a=x at*;generalize wgts md b cs ds n=ws at*;clear hm hcc hx;obtain⟨X,hX⟩:∃X,X=((((w.alloc (Obj.cells #[.string (ctxB md),int u64 (px b),int u64 (py b),.bool (pb b),.slice (some ⟨g1,0,none⟩) n k1,.slice (some ⟨g2,0,none⟩) n k2] 78)).alloc (Obj.cells #[int u64 (k:Int)] 86)).alloc (Obj.cells #[int u64 (px a),int u64 (py a),.bool (pb a)] 75)).alloc (Obj.cells #[int u64 (r:Int)] 86)).alloc (Obj.cells #[int u64 0,int u64 0] 28):=⟨_,rfl⟩;have r0:B6 X w.heap.size (ctxB md) (px b) (py b) (pb b) (some ⟨g1,0,none⟩) n k1 (some ⟨g2,0,none⟩) n k2:=by rw [hX];exact((((B6.new _ _ _ _ _ _ _ _ _ _ _).alloc _).alloc _).alloc _).alloc _
  have rk:RN X (w.heap.size+1) (k:Int):=by rw [hX];exact((((RN.new _ _).at' (by simp)).alloc' _).alloc' _).alloc' _
  have ra:K3 X 75 (w.heap.size+1+1) (px a) (py a) (pb a):=by rw [hX];exact(((K3.new _ _ _ _ _).at (by simp)).alloc _).alloc _
  have rr:RN X (w.heap.size+1+1+1) (r:Int):=by rw [hX];exact((RN.new _ _).at' (by simp)).alloc' _
  have rp:P2 X 28 (w.heap.size+1+1+1+1) 0 0:=by rw [hX];exact(P2.new _ _ _ _).at (by simp)
  have hb:Bl w X:=by
    rw [hX];exact(((((Below.refl _ w).alloc (Nat.le_refl _) _).alloc (by simp) _).alloc (by simp;omega) _).alloc (by simp;omega) _).alloc (by simp;omega) _
  go_enter func149,ntmps149;go_wp2;rw [←hX];clear hX;have s0:X.drew.cell? ⟨w.heap.size,0,none⟩=_:=r0.c0;have s1:X.drew.cell? ⟨w.heap.size,1,none⟩=_:=r0.c1;have s2:X.drew.cell? ⟨w.heap.size,2,none⟩=_:=r0.c2;have s3:X.drew.cell? ⟨w.heap.size,3,none⟩=_:=r0.c3;have s4:X.drew.cell? ⟨w.heap.size,4,none⟩=_:=r0.c4;have s5:X.drew.cell? ⟨w.heap.size,5,none⟩=_:=r0.c5;have hbD:∀w',G.Sides [] X.drew w'→Bl w w':=fun w' h=>hb.drew.trans (h.below.mono hb.size)
  refine G.pool_list [] [.val (.agg #[.string (ctxB md),int u64 (px b),int u64 (py b),.bool (pb b),.slice (some ⟨g1,0,none⟩) n k1,.slice (some ⟨g2,0,none⟩) n k2]),
      .got (slG n) (fun x w'=>w'.ownsRow w.heap.size 86 1 (slG n x) n (ws.map (Value.int .u64))),
      .val (.pointer (some ⟨w.heap.size,4,none⟩)),
      .val (.slice (some ⟨g1,0,none⟩) n k1),
      .val (.agg #[int u64 (px m),int u64 (py m),.bool (pb m)]),
      .new (.cells #[int u64 0,int u64 0,.bool false] 75) (.cells #[int u64 (px m),int u64 (py m),.bool (pb m)] 75) 6,
      .put 5] [[4],[11],[4],[13],[12,14],[],[9,15]] (fun f=> [(some 11,.agg #[.string (ctxB md),int u64 (px b),int u64 (py b),.bool (pb b),.slice (some ⟨g1,0,none⟩) n k1,.slice (some ⟨g2,0,none⟩) n k2]),(some 12,slG n (f 1)),(some 13,.pointer (some ⟨w.heap.size,4,none⟩)),(some 14,.slice (some ⟨g1,0,none⟩) n k1),(some 15,.agg #[int u64 (px m),int u64 (py m),.bool (pb m)]),(some 9,.pointer (some ⟨f 5,0,none⟩)),(none,undef)]) (by kernel_rfl) (by kernel_rfl) (by kernel_rfl) (by kernel_rfl) (fun _=>by kernel_rfl) (G.last_of [.cells #[int u64 0,int u64 0,.bool false] 75] (fun F R hm=>by simp only [List.mem_cons,List.not_mem_nil,or_false,reduceCtorEq,false_or,G.Knd.got.injEq] at hm;obtain⟨-,rfl⟩:=hm;exact(own_lasts _ _ _ _ _ _ (fun ob hm=>by simp at hm;subst hm;exact⟨_,_,rfl,by decide⟩))) (fun ob ob' k hm=>by simp at hm;simp [hm]) (fun b ob ob' hm=>by simp at hm)) (fun b ob ob' hm=>by simp at hm) ?_ ?_
  · intro ix hix
    match ix,hix with
    |0,_=>exact G.obv [(4,.pointer (some ⟨w.heap.size,0,none⟩))] rfl rfl (fun A w ⟨e0,_⟩ hB=>ld_bat e0 (hB.cell s0 (by simp)) (hB.cell s1 (by simp)) (hB.cell s2 (by simp)) (hB.cell s3 (by simp)) (hB.cell s4 (by simp)) (hB.cell s5 (by simp)))
    |1,_=>exact G.ob_got (fun f=> [(11,.agg #[.string (ctxB md),int u64 (px b),int u64 (py b),.bool (pb b),.slice (some ⟨g1,0,none⟩) n k1,.slice (some ⟨g2,0,none⟩) n k2])]) rfl rfl (fun _=>by kernel_rfl) (fun f A w ⟨e0,_⟩ hB hh=>cg1 cf_impl_batch_weights e0 (hWt w (hbD w hB)))
    |2,_=>exact G.obv [(4,.pointer (some ⟨w.heap.size,0,none⟩))] rfl rfl (fun A w ⟨e0,_⟩ hB=>fa_bat2 e0)
    |3,_=>exact G.obv [(13,.pointer (some ⟨w.heap.size,4,none⟩))] rfl rfl (fun A w ⟨e0,_⟩ hB=>ld_cpsl e0 (hB.cell s4 (by simp)))
    |4,_=>exact G.ob_had (fun f=> [(12,slG n (f 1)),(14,.slice (some ⟨g1,0,none⟩) n k1)]) rfl rfl (fun _=>by kernel_rfl) (fun f A w ⟨e0,e1,_⟩ hB hh=>cl2 cf_impl_weighted e0 e1 (hMx _ w (hbD w hB) (hh 12 (by decide) 1 rfl (by decide) _ _ rfl)))
    |5,_=>exact G.ob_new rfl rfl (fun A w=>al_cp)
    |6,_=>exact G.ob_put 9 (fun f=> [(9,.pointer (some ⟨f 5,0,none⟩)),(15,.agg #[int u64 (px m),int u64 (py m),.bool (pb m)])]) rfl rfl rfl (by decide) (by kernel_rfl) rfl (fun _=>by kernel_rfl) (fun f A w ⟨e0,e1,_⟩ hr=>pu_cp e0 e1 hr)
    |ix+7,h=>exact absurd h (by simp)
  intro f W1 hS1 hnew _ _ _;have hb1:Bl X W1:=(Below.refl _ X).drew.trans hS1.below;have rm:K3 W1 75 (f 5) (px m) (py m) (pb m):=(hnew 5 _ _ _ rfl (by decide)).2;generalize f 5=BM at*;replace r0:=r0.keep hb1;replace rk:=rk.keep hb1;replace ra:=ra.keep hb1;replace rr:=rr.keep hb1;replace rp:=rp.keep hb1;replace hb:=hb.tr hb1;clear s0 s1 s2 s3 s4 s5 hbD hS1 hb1 hnew hWt hMx;simp only [puts,List.foldl,Act.put,List.setIfInBounds_toArray,List.set_cons_zero,List.set_cons_succ];go_wp2;have hT1:TabK W1.drew:=fun i hi=>(hb.cell (p:=⟨7,i,none⟩) hgw).trans (hT i hi)
  have hg1:7<W1.drew.heap.size:=Nat.lt_of_lt_of_le hgw hb.size;have s0:W1.drew.cell? ⟨w.heap.size,0,none⟩=_:=r0.c0;have s1:W1.drew.cell? ⟨w.heap.size,1,none⟩=_:=r0.c1;have s2:W1.drew.cell? ⟨w.heap.size,2,none⟩=_:=r0.c2;have s3:W1.drew.cell? ⟨w.heap.size,3,none⟩=_:=r0.c3;have s4:W1.drew.cell? ⟨w.heap.size,4,none⟩=_:=r0.c4;have s5:W1.drew.cell? ⟨w.heap.size,5,none⟩=_:=r0.c5;have kk:W1.drew.cell? ⟨w.heap.size+1,0,none⟩=some (int u64 (k:Int)):=rk.cell;have nn:W1.drew.cell? ⟨w.heap.size+1+1+1,0,none⟩=some (int u64 (r:Int)):=rr.cell;have a0:W1.drew.cell? ⟨w.heap.size+1+1,0,none⟩=_:=ra.c0;have a1:W1.drew.cell? ⟨w.heap.size+1+1,1,none⟩=_:=ra.c1;have a2:W1.drew.cell? ⟨w.heap.size+1+1,2,none⟩=_:=ra.c2;have m0:W1.drew.cell? ⟨BM,0,none⟩=_:=rm.c0;have m1:W1.drew.cell? ⟨BM,1,none⟩=_:=rm.c1;have m2:W1.drew.cell? ⟨BM,2,none⟩=_:=rm.c2
  refine pool_list [.val (.agg #[.string (ctxB md),int u64 (px b),int u64 (py b),.bool (pb b),.slice (some ⟨g1,0,none⟩) n k1,.slice (some ⟨g2,0,none⟩) n k2]),
      .val (.agg #[int u64 (px m),int u64 (py m),.bool (pb m)]),
      .val (.agg #[int u64 (px m),int u64 (py m),.bool (pb m)]),
      .val (.pointer (some ⟨w.heap.size+1,0,none⟩)),
      .val (int u64 (k:Int)),
      .val (.agg #[int u64 (px z),int u64 (py z),.bool (pb z)]),
      .val (.agg #[int u64 (px a),int u64 (py a),.bool (pb a)]),
      .val (.pointer (some ⟨w.heap.size+1+1+1,0,none⟩)),
      .val (int u64 (r:Int)),
      .val (.agg #[int u64 (px x),int u64 (py x),.bool (pb x)]),
      .val (.agg #[int u64 (px m),int u64 (py m),.bool (pb m)]),
      .val (.pointer (some ⟨w.heap.size+1+1+1,0,none⟩)),
      .val (int u64 (r:Int)),
      .val (.agg #[int u64 (px y),int u64 (py y),.bool (pb y)]),
      .val (.agg #[int u64 (c:Int)]),
      .new (.cells #[int u64 0] 86) (.cells #[int u64 (c:Int)] 86) 16,
      .put 15] [[4],[9],[9],[5],[19],[18,20],[6],[7],[23],[22,24],[9],[7],[27],[26,28],[16,17,21,25,29],[],[10,30]] (fun f=> [(some 16,.agg #[.string (ctxB md),int u64 (px b),int u64 (py b),.bool (pb b),.slice (some ⟨g1,0,none⟩) n k1,.slice (some ⟨g2,0,none⟩) n k2]),(some 17,.agg #[int u64 (px m),int u64 (py m),.bool (pb m)]),(some 18,.agg #[int u64 (px m),int u64 (py m),.bool (pb m)]),(some 19,.pointer (some ⟨w.heap.size+1,0,none⟩)),(some 20,int u64 (k:Int)),(some 21,.agg #[int u64 (px z),int u64 (py z),.bool (pb z)]),(some 22,.agg #[int u64 (px a),int u64 (py a),.bool (pb a)]),(some 23,.pointer (some ⟨w.heap.size+1+1+1,0,none⟩)),(some 24,int u64 (r:Int)),(some 25,.agg #[int u64 (px x),int u64 (py x),.bool (pb x)]),(some 26,.agg #[int u64 (px m),int u64 (py m),.bool (pb m)]),(some 27,.pointer (some ⟨w.heap.size+1+1+1,0,none⟩)),(some 28,int u64 (r:Int)),(some 29,.agg #[int u64 (px y),int u64 (py y),.bool (pb y)]),(some 30,.agg #[int u64 (c:Int)]),(some 10,.pointer (some ⟨f 15,0,none⟩)),(none,undef)]) (by kernel_rfl) (by kernel_rfl) (by kernel_rfl) (by kernel_rfl) (fun _=>by kernel_rfl) ?_ ?_
  · intro ix hix
    match ix,hix with
    |0,_=>exact obv [(4,.pointer (some ⟨w.heap.size,0,none⟩))] rfl rfl (fun A w ⟨e0,_⟩ hB=>ld_bat e0 (keepC s0 hB) (keepC s1 hB) (keepC s2 hB) (keepC s3 hB) (keepC s4 hB) (keepC s5 hB))
    |1,_=>exact obv [(9,.pointer (some ⟨BM,0,none⟩))] rfl rfl (fun A w ⟨e0,_⟩ hB=>ld_cp e0 (keepC m0 hB) (keepC m1 hB) (keepC m2 hB))
    |2,_=>exact obv [(9,.pointer (some ⟨BM,0,none⟩))] rfl rfl (fun A w ⟨e0,_⟩ hB=>ld_cp e0 (keepC m0 hB) (keepC m1 hB) (keepC m2 hB))
    |3,_=>exact obv [(5,.pointer (some ⟨w.heap.size+1,0,none⟩))] rfl rfl (fun A w ⟨e0,_⟩ hB=>fa_nN1 e0)
    |4,_=>exact obv [(19,.pointer (some ⟨w.heap.size+1,0,none⟩))] rfl rfl (fun A w ⟨e0,_⟩ hB=>ld_u64 e0 (keepC kk hB))
    |5,_=>exact obv [(18,.agg #[int u64 (px m),int u64 (py m),.bool (pb m)]),(20,int u64 (k:Int))] rfl rfl (fun A w ⟨e0,e1,_⟩ hB=>cl2 cf_impl_curvePoint_times e0 e1 (T1 w))
    |6,_=>exact obv [(6,.pointer (some ⟨w.heap.size+1+1,0,none⟩))] rfl rfl (fun A w ⟨e0,_⟩ hB=>ld_cp e0 (keepC a0 hB) (keepC a1 hB) (keepC a2 hB))
    |7,_=>exact obv [(7,.pointer (some ⟨w.heap.size+1+1+1,0,none⟩))] rfl rfl (fun A w ⟨e0,_⟩ hB=>fa_nN1 e0)
    |8,_=>exact obv [(23,.pointer (some ⟨w.heap.size+1+1+1,0,none⟩))] rfl rfl (fun A w ⟨e0,_⟩ hB=>ld_u64 e0 (keepC nn hB))
    |9,_=>exact obv [(22,.agg #[int u64 (px a),int u64 (py a),.bool (pb a)]),(24,int u64 (r:Int))] rfl rfl (fun A w ⟨e0,e1,_⟩ hB=>cl2 cf_impl_curvePoint_times e0 e1 (T2 w))
    |10,_=>exact obv [(9,.pointer (some ⟨BM,0,none⟩))] rfl rfl (fun A w ⟨e0,_⟩ hB=>ld_cp e0 (keepC m0 hB) (keepC m1 hB) (keepC m2 hB))
    |11,_=>exact obv [(7,.pointer (some ⟨w.heap.size+1+1+1,0,none⟩))] rfl rfl (fun A w ⟨e0,_⟩ hB=>fa_nN1 e0)
    |12,_=>exact obv [(27,.pointer (some ⟨w.heap.size+1+1+1,0,none⟩))] rfl rfl (fun A w ⟨e0,_⟩ hB=>ld_u64 e0 (keepC nn hB))
    |13,_=>exact obv [(26,.agg #[int u64 (px m),int u64 (py m),.bool (pb m)]),(28,int u64 (r:Int))] rfl rfl (fun A w ⟨e0,e1,_⟩ hB=>cl2 cf_impl_curvePoint_times e0 e1 (T3' w))
    |14,_=>exact obv [(16,.agg #[.string (ctxB md),int u64 (px b),int u64 (py b),.bool (pb b),.slice (some ⟨g1,0,none⟩) n k1,.slice (some ⟨g2,0,none⟩) n k2]),(17,.agg #[int u64 (px m),int u64 (py m),.bool (pb m)]),(21,.agg #[int u64 (px z),int u64 (py z),.bool (pb z)]),(25,.agg #[int u64 (px x),int u64 (py x),.bool (pb x)]),(29,.agg #[int u64 (px y),int u64 (py y),.bool (pb y)])] rfl rfl (fun A w ⟨e0,e1,e2,e3,e4,_⟩ hB=>cl5 cf_impl_batch_challenge e0 e1 e2 e3 e4 (CH w (keepT hT1 hg1 hB)))
    |15,_=>exact ob_new rfl rfl (fun A w=>al_nN)
    |16,_=>exact ob_put 10 (fun f=> [(10,.pointer (some ⟨f 15,0,none⟩)),(30,.agg #[int u64 (c:Int)])]) rfl rfl rfl (by decide) (by kernel_rfl) rfl (fun _=>by kernel_rfl) (fun f A w ⟨e0,e1,_⟩ hr=>pu_nN e0 e1 hr)
    |ix+17,h=>exact absurd h (by simp)
  intro f W2 hb2 hnew _;have hb2':Bl W1 W2:=(Below.refl _ W1).drew.trans hb2;have rc:RN W2 (f 15) (c:Int):=(hnew 15 _ _ _ rfl (by decide)).2;generalize f 15=BC at*;replace rk:=rk.keep hb2';replace rr:=rr.keep hb2';replace rp:=rp.keep hb2';replace hb:=hb.tr hb2';clear s0 s1 s2 s3 s4 s5 kk nn a0 a1 a2 m0 m1 m2 hb2 hb2' hnew T1 T2 T3' CH hT1 hg1 r0 ra rm;simp only [puts,List.foldl,Act.put,List.setIfInBounds_toArray,List.set_cons_zero,List.set_cons_succ];go_wp2;have kk:W2.drew.cell? ⟨w.heap.size+1,0,none⟩=some (int u64 (k:Int)):=rk.cell;have nn:W2.drew.cell? ⟨w.heap.size+1+1+1,0,none⟩=some (int u64 (r:Int)):=rr.cell;have c0:W2.drew.cell? ⟨BC,0,none⟩=some (int u64 (c:Int)):=rc.cell
  refine pool_prT 9 [.val (.pointer (some ⟨BC,0,none⟩)),
      .val (int u64 (c:Int)),
      .val (.agg #[int u64 (r:Int)]),
      .val (.agg #[int u64 (c:Int)]),
      .val (.agg #[int u64 (k:Int)]),
      .val (.agg #[int u64 (ck:Int)]),
      .val (.agg #[int u64 (s:Int)]),
      .val (int u64 (s:Int)),
      .val (.agg #[int u64 (c:Int),int u64 (s:Int)])] [[10],[31],[7],[10],[5],[34,35],[33,36],[37],[32,38]] (fun f=> [(some 31,.pointer (some ⟨BC,0,none⟩)),(some 32,int u64 (c:Int)),(some 33,.agg #[int u64 (r:Int)]),(some 34,.agg #[int u64 (c:Int)]),(some 35,.agg #[int u64 (k:Int)]),(some 36,.agg #[int u64 (ck:Int)]),(some 37,.agg #[int u64 (s:Int)]),(some 38,int u64 (s:Int)),(some 39,.agg #[int u64 (c:Int),int u64 (s:Int)])]) (by kernel_rfl) (by kernel_rfl) (by kernel_rfl) (by kernel_rfl) (by decide) (by kernel_rfl) (fun _=>by kernel_rfl) ?_ ?_
  · intro ix hix
    match ix,hix with
    |0,_=>exact obv [(10,.pointer (some ⟨BC,0,none⟩))] rfl rfl (fun A w ⟨e0,_⟩ hB=>fa_nN1 e0)
    |1,_=>exact obv [(31,.pointer (some ⟨BC,0,none⟩))] rfl rfl (fun A w ⟨e0,_⟩ hB=>ld_u64 e0 (keepC c0 hB))
    |2,_=>exact obv [(7,.pointer (some ⟨w.heap.size+1+1+1,0,none⟩))] rfl rfl (fun A w ⟨e0,_⟩ hB=>ld_nN e0 (keepC nn hB))
    |3,_=>exact obv [(10,.pointer (some ⟨BC,0,none⟩))] rfl rfl (fun A w ⟨e0,_⟩ hB=>ld_nN e0 (keepC c0 hB))
    |4,_=>exact obv [(5,.pointer (some ⟨w.heap.size+1,0,none⟩))] rfl rfl (fun A w ⟨e0,_⟩ hB=>ld_nN e0 (keepC kk hB))
    |5,_=>exact obv [(34,.agg #[int u64 (c:Int)]),(35,.agg #[int u64 (k:Int)])] rfl rfl (fun A w ⟨e0,e1,_⟩ hB=>cl2 cf_impl_number_impl_primeN_times e0 e1 (MU w))
    |6,_=>exact obv [(33,.agg #[int u64 (r:Int)]),(36,.agg #[int u64 (ck:Int)])] rfl rfl (fun A w ⟨e0,e1,_⟩ hB=>cl2 cf_impl_number_impl_primeN_minus e0 e1 (MN w))
    |7,_=>exact obv [(37,.agg #[int u64 (s:Int)])] rfl rfl (fun A w ⟨e0,_⟩ hB=>fl_nN1 e0)
    |8,_=>exact obv [(32,int u64 (c:Int)),(38,int u64 (s:Int))] rfl rfl (fun A w ⟨e0,e1,_⟩ hB=>bu_prf e0 e1)
    |ix+9,h=>exact absurd h (by simp)
  intro f W3 hb3 _ fuel hfuel;have hb3':Bl W2 W3:=(Below.refl _ W2).drew.trans hb3;replace rp:=rp.keep hb3';replace hb:=hb.tr hb3';clear kk nn c0 hb3 hb3' MU MN rk rr rc;simp only [puts,List.foldl,Act.put,List.setIfInBounds_toArray,List.set_cons_zero,List.set_cons_succ];refine last_do1 9 hfuel (by kernel_rfl) (by kernel_rfl) rfl rfl ?_;refine fun Q K hK=>st_prf (z0:=(c:Int)) (z1:=(s:Int)) rfl rfl rp Q K (fun v w' e=>hK v w' ?_)
  subst e;go_wp2;exact bodyPost_ret (v:= .agg #[int u64 (c:Int),int u64 (s:Int)]) (prf_res (fn:=Tryz.f149) (p:=8) results149 _ rfl (rp.set c s)) rfl ⟨rfl,P2_below hb (by omega) _ _⟩
section
variable (cx info:ByteArray)(b:Pt)(s r c' s':Int)(g1 k1 g2 k2 n:Nat)(F0 F1 F2 F3 F4 F5 F6:FuncId)(w:World)(hcf:∀(args:Array Value) (w:World),(callFunc F5 args).run prog w= .ok (.enter F5 args) w)
include hcf
theorem pvpI_no
    (TM:Cc 42 #[.agg #[int u64 (px gG),int u64 (py gG),.bool (pb gG)],int u64 s] (.agg #[int u64 (px b),int u64 (py b),.bool (pb b)]))
    (CL:Cc F5 #[.agg #[.string cx,.string info],.agg #[int u64 (px b),int u64 (py b),.bool (pb b)],.slice (some ⟨g1,0,none⟩) n k1,.slice (some ⟨g2,0,none⟩) n k2] (.tuple #[.agg zBat,.bool false])):
    Cr 108 #[.agg #[.string cx,.string info,.func (.func F0) #[] #[],.func (.func F1) #[] #[],.func (.func F2) #[] #[],.func (.func F3) #[] #[],.func (.func F4) #[] #[],.func (.func F5) #[] #[],.func (.func F6) #[] #[]],.agg #[int u64 s],.slice (some ⟨g1,0,none⟩) n k1,.slice (some ⟨g2,0,none⟩) n k2,.agg #[int u64 r]] w (.agg #[int u64 0,int u64 0]):=by
  unfold zBat at CL;obtain⟨X,hX⟩:∃X,X=((((w.alloc (Obj.cells #[.string cx,.string info,.func (.func F0) #[] #[],.func (.func F1) #[] #[],.func (.func F2) #[] #[],.func (.func F3) #[] #[],.func (.func F4) #[] #[],.func (.func F5) #[] #[],.func (.func F6) #[] #[]] 130)).alloc (Obj.cells #[int u64 s] 86)).alloc (Obj.cells #[int u64 r] 86)).alloc (Obj.cells #[int u64 0,int u64 0] 28)):=⟨_,rfl⟩;have r0:Bk X 130 (w.heap.size) #[.string cx,.string info,.func (.func F0) #[] #[],.func (.func F1) #[] #[],.func (.func F2) #[] #[],.func (.func F3) #[] #[],.func (.func F4) #[] #[],.func (.func F5) #[] #[],.func (.func F6) #[] #[]]:=by rw [hX];exact((((Bk.new _ _ _).alloc _).alloc _).alloc _)
  have r1:Bk X 86 (w.heap.size+1) #[int u64 s]:=by rw [hX];exact((((Bk.new _ _ _).at (by simp)).alloc _).alloc _)
  have r2:Bk X 86 (w.heap.size+1+1) #[int u64 r]:=by rw [hX];exact(((Bk.new _ _ _).at (by simp)).alloc _)
  have rp:P2 X 28 (w.heap.size+1+1+1) 0 0:=by rw [hX];exact(P2.new _ _ _ _).at (by simp)
  have hb:Bl w X:=by rw [hX];exact(((((Below.refl _ w).alloc (Nat.le_refl _) _).alloc (by simp) _).alloc (by simp;omega) _).alloc (by simp;omega) _)
  go_enter func108,ntmps108;go_wp2;rw [←hX];clear hX;have s0:X.drew.cell? ⟨w.heap.size,0,none⟩=_:=r0.cell (k:=0) rfl;have s1:X.drew.cell? ⟨w.heap.size,1,none⟩=_:=r0.cell (k:=1) rfl;have s7:X.drew.cell? ⟨w.heap.size,7,none⟩=_:=r0.cell (k:=7) rfl;have z0:X.drew.cell? ⟨w.heap.size+1,0,none⟩=_:=r1.cell (k:=0) rfl
  refine G.pool_list (W:=X) [] [.val (.pointer (some ⟨w.heap.size,2,none⟩)),
      .val (.pointer (some ⟨w.heap.size,7,none⟩)),
      .val (.func (.func F5) #[] #[]),
      .val (.pointer (some ⟨w.heap.size,0,none⟩)),
      .val (.agg #[.string cx,.string info]),
      .val (.agg #[int u64 (px gG),int u64 (py gG),.bool (pb gG)]),
      .val (.pointer (some ⟨w.heap.size+1,0,none⟩)),
      .val (int u64 s),
      .val (.agg #[int u64 (px b),int u64 (py b),.bool (pb b)]),
      .val (.slice (some ⟨g1,0,none⟩) n k1),
      .val (.slice (some ⟨g2,0,none⟩) n k2),
      .val (.tuple #[.agg #[.string ⟨#[]⟩,int u64 0,int u64 0,.bool false,.slice none 0 0,.slice none 0 0],.bool false]),
      .val (.tuple #[.agg #[.string ⟨#[]⟩,int u64 0,int u64 0,.bool false,.slice none 0 0,.slice none 0 0],.bool false]),
      .val (.agg #[.string ⟨#[]⟩,int u64 0,int u64 0,.bool false,.slice none 0 0,.slice none 0 0]),
      .val (.bool false),
      .new (.cells #[.string ⟨#[]⟩,int u64 0,int u64 0,.bool false,.slice none 0 0,.slice none 0 0] 78) (.cells #[.string ⟨#[]⟩,int u64 0,int u64 0,.bool false,.slice none 0 0,.slice none 0 0] 78) 16,
      .put 15,
      .val (.bool false)] [[5],[14],[15],[5],[17],[],[6],[20],[19,21],[2],[3],[16,18,22,23,24],[25],[13],[13],[],[11,26],[27]] (fun f=> [(some 14,.pointer (some ⟨w.heap.size,2,none⟩)),(some 15,.pointer (some ⟨w.heap.size,7,none⟩)),(some 16,.func (.func F5) #[] #[]),(some 17,.pointer (some ⟨w.heap.size,0,none⟩)),(some 18,.agg #[.string cx,.string info]),(some 19,.agg #[int u64 (px gG),int u64 (py gG),.bool (pb gG)]),(some 20,.pointer (some ⟨w.heap.size+1,0,none⟩)),(some 21,int u64 s),(some 22,.agg #[int u64 (px b),int u64 (py b),.bool (pb b)]),(some 23,.slice (some ⟨g1,0,none⟩) n k1),(some 24,.slice (some ⟨g2,0,none⟩) n k2),(some 25,.tuple #[.agg #[.string ⟨#[]⟩,int u64 0,int u64 0,.bool false,.slice none 0 0,.slice none 0 0],.bool false]),(some 13,.tuple #[.agg #[.string ⟨#[]⟩,int u64 0,int u64 0,.bool false,.slice none 0 0,.slice none 0 0],.bool false]),(some 26,.agg #[.string ⟨#[]⟩,int u64 0,int u64 0,.bool false,.slice none 0 0,.slice none 0 0]),(some 27,.bool false),(some 11,.pointer (some ⟨f 15,0,none⟩)),(none,undef),(some 12,.bool false)]) (by kernel_rfl) (by kernel_rfl) (by kernel_rfl) (by kernel_rfl) (fun _=>by kernel_rfl) (G.last_of [.cells #[.string ⟨#[]⟩,int u64 0,int u64 0,.bool false,.slice none 0 0,.slice none 0 0] 78] (fun F R hm=>by simp at hm) (fun ob ob' k hm=>by simp at hm;simp [hm]) (fun b ob ob' hm=>by simp at hm)) (fun b ob ob' hm=>by simp at hm) ?_ ?_
  · intro ix hix
    match ix,hix with
    |0,_=>exact G.obv [(5,.pointer (some ⟨w.heap.size,0,none⟩))] rfl rfl (fun A w ⟨e0,_⟩ hB=>fa_pro1 e0)
    |1,_=>exact G.obv [(14,.pointer (some ⟨w.heap.size,2,none⟩))] rfl rfl (fun A w ⟨e0,_⟩ hB=>fa_rul5 e0)
    |2,_=>exact G.obv [(15,.pointer (some ⟨w.heap.size,7,none⟩))] rfl rfl (fun A w ⟨e0,_⟩ hB=>ld_fn5 e0 (hB.cell s7 (by simp)))
    |3,_=>exact G.obv [(5,.pointer (some ⟨w.heap.size,0,none⟩))] rfl rfl (fun A w ⟨e0,_⟩ hB=>fa_pro0 e0)
    |4,_=>exact G.obv [(17,.pointer (some ⟨w.heap.size,0,none⟩))] rfl rfl (fun A w ⟨e0,_⟩ hB=>ld_set e0 (hB.cell s0 (by simp)) (hB.cell s1 (by simp)))
    |5,_=>exact G.obv [] rfl rfl (fun A w _ hB=>cl0 cf_impl_basePoint (bspI w))
    |6,_=>exact G.obv [(6,.pointer (some ⟨w.heap.size+1,0,none⟩))] rfl rfl (fun A w ⟨e0,_⟩ hB=>fa_nN1 e0)
    |7,_=>exact G.obv [(20,.pointer (some ⟨w.heap.size+1,0,none⟩))] rfl rfl (fun A w ⟨e0,_⟩ hB=>ld_u64 e0 (hB.cell z0 (by simp)))
    |8,_=>exact G.obv [(19,.agg #[int u64 (px gG),int u64 (py gG),.bool (pb gG)]),(21,int u64 s)] rfl rfl (fun A w ⟨e0,e1,_⟩ hB=>cl2 cf_impl_curvePoint_times e0 e1 (TM w))
    |9,_=>exact G.obv [(2,.slice (some ⟨g1,0,none⟩) n k1)] rfl rfl (fun A w ⟨e0,_⟩ hB=>doV_move e0)
    |10,_=>exact G.obv [(3,.slice (some ⟨g2,0,none⟩) n k2)] rfl rfl (fun A w ⟨e0,_⟩ hB=>doV_move e0)
    |11,_=>exact G.obv [(16,.func (.func F5) #[] #[]),(18,.agg #[.string cx,.string info]),(22,.agg #[int u64 (px b),int u64 (py b),.bool (pb b)]),(23,.slice (some ⟨g1,0,none⟩) n k1),(24,.slice (some ⟨g2,0,none⟩) n k2)] rfl rfl (fun A w ⟨e0,e1,e2,e3,e4,_⟩ hB=>cv4 hcf e0 e1 e2 e3 e4 (CL w))
    |12,_=>exact G.obv [(25,.tuple #[.agg #[.string ⟨#[]⟩,int u64 0,int u64 0,.bool false,.slice none 0 0,.slice none 0 0],.bool false])] rfl rfl (fun A w ⟨e0,_⟩ hB=>doV_move e0)
    |13,_=>exact G.obv [(13,.tuple #[.agg #[.string ⟨#[]⟩,int u64 0,int u64 0,.bool false,.slice none 0 0,.slice none 0 0],.bool false])] rfl rfl (fun A w ⟨e0,_⟩ hB=>xt2_0 e0)
    |14,_=>exact G.obv [(13,.tuple #[.agg #[.string ⟨#[]⟩,int u64 0,int u64 0,.bool false,.slice none 0 0,.slice none 0 0],.bool false])] rfl rfl (fun A w ⟨e0,_⟩ hB=>xt2_1 e0)
    |15,_=>exact G.ob_new rfl rfl (fun A w=>al_bat)
    |16,_=>exact G.ob_put 11 (fun f=> [(11,.pointer (some ⟨f 15,0,none⟩)),(26,.agg #[.string ⟨#[]⟩,int u64 0,int u64 0,.bool false,.slice none 0 0,.slice none 0 0])]) rfl rfl rfl (by decide) (by kernel_rfl) rfl (fun _=>by kernel_rfl) (fun f A w ⟨e0,e1,_⟩ hr=>pu_bat e0 e1 hr)
    |17,_=>exact G.obv [(27,.bool false)] rfl rfl (fun A w ⟨e0,_⟩ hB=>doV_assign e0)
    |ix+18,h=>exact absurd h (by simp)
  intro f W1 hS _ _ _ _;have hb1:Bl X W1:=(Below.refl _ X).drew.trans hS.below;replace rp:=rp.keep hb1;replace hb:=hb.tr hb1;clear hS hb1 s0 s1 s7 z0 TM CL r0 r1 r2;simp only [puts,List.foldl,Act.put,List.setIfInBounds_toArray,List.set_cons_zero,List.set_cons_succ];have d0:=rp.c0;have d1:=rp.c1;have e0:=rp.frz;go_wp2;exact bodyPost_ret (v:= .agg #[int u64 0,int u64 0]) (prf_res (fn:=Tryz.f108) (p:=10) results108 _ rfl (rp.set 0 0)) rfl ⟨rfl,P2_below hb (by omega) _ _⟩
theorem pvpI_yes (q1 q2:Nat)(l1 l2:Nat)
    (TM:Cc 42 #[.agg #[int u64 (px gG),int u64 (py gG),.bool (pb gG)],int u64 s] (.agg #[int u64 (px b),int u64 (py b),.bool (pb b)]))
    (CL:Cc F5 #[.agg #[.string cx,.string info],.agg #[int u64 (px b),int u64 (py b),.bool (pb b)],.slice (some ⟨g1,0,none⟩) n k1,.slice (some ⟨g2,0,none⟩) n k2] (.tuple #[.agg #[.string cx,int u64 (px b),int u64 (py b),.bool (pb b),.slice (some ⟨q1,0,none⟩) n l1,.slice (some ⟨q2,0,none⟩) n l2],.bool true]))
    (PV:Cb w 149 #[.agg #[.string cx,int u64 (px b),int u64 (py b),.bool (pb b),.slice (some ⟨q1,0,none⟩) n l1,.slice (some ⟨q2,0,none⟩) n l2],.agg #[int u64 s],.agg #[int u64 (px gG),int u64 (py gG),.bool (pb gG)],.agg #[int u64 r]] (.agg #[int u64 c',int u64 s'])):
    Cr 108 #[.agg #[.string cx,.string info,.func (.func F0) #[] #[],.func (.func F1) #[] #[],.func (.func F2) #[] #[],.func (.func F3) #[] #[],.func (.func F4) #[] #[],.func (.func F5) #[] #[],.func (.func F6) #[] #[]],.agg #[int u64 s],.slice (some ⟨g1,0,none⟩) n k1,.slice (some ⟨g2,0,none⟩) n k2,.agg #[int u64 r]] w (.agg #[int u64 c',int u64 s']):=by
  obtain⟨X,hX⟩:∃X,X=((((w.alloc (Obj.cells #[.string cx,.string info,.func (.func F0) #[] #[],.func (.func F1) #[] #[],.func (.func F2) #[] #[],.func (.func F3) #[] #[],.func (.func F4) #[] #[],.func (.func F5) #[] #[],.func (.func F6) #[] #[]] 130)).alloc (Obj.cells #[int u64 s] 86)).alloc (Obj.cells #[int u64 r] 86)).alloc (Obj.cells #[int u64 0,int u64 0] 28)):=⟨_,rfl⟩;have r0:Bk X 130 (w.heap.size) #[.string cx,.string info,.func (.func F0) #[] #[],.func (.func F1) #[] #[],.func (.func F2) #[] #[],.func (.func F3) #[] #[],.func (.func F4) #[] #[],.func (.func F5) #[] #[],.func (.func F6) #[] #[]]:=by rw [hX];exact((((Bk.new _ _ _).alloc _).alloc _).alloc _)
  have r1:Bk X 86 (w.heap.size+1) #[int u64 s]:=by rw [hX];exact((((Bk.new _ _ _).at (by simp)).alloc _).alloc _)
  have r2:Bk X 86 (w.heap.size+1+1) #[int u64 r]:=by rw [hX];exact(((Bk.new _ _ _).at (by simp)).alloc _)
  have rp:P2 X 28 (w.heap.size+1+1+1) 0 0:=by rw [hX];exact(P2.new _ _ _ _).at (by simp)
  have hb:Bl w X:=by rw [hX];exact(((((Below.refl _ w).alloc (Nat.le_refl _) _).alloc (by simp) _).alloc (by simp;omega) _).alloc (by simp;omega) _)
  go_enter func108,ntmps108;go_wp2;rw [←hX];clear hX;have s0:X.drew.cell? ⟨w.heap.size,0,none⟩=_:=r0.cell (k:=0) rfl;have s1:X.drew.cell? ⟨w.heap.size,1,none⟩=_:=r0.cell (k:=1) rfl;have s7:X.drew.cell? ⟨w.heap.size,7,none⟩=_:=r0.cell (k:=7) rfl;have z0:X.drew.cell? ⟨w.heap.size+1,0,none⟩=_:=r1.cell (k:=0) rfl
  refine G.pool_list (W:=X) [] [.val (.pointer (some ⟨w.heap.size,2,none⟩)),
      .val (.pointer (some ⟨w.heap.size,7,none⟩)),
      .val (.func (.func F5) #[] #[]),
      .val (.pointer (some ⟨w.heap.size,0,none⟩)),
      .val (.agg #[.string cx,.string info]),
      .val (.agg #[int u64 (px gG),int u64 (py gG),.bool (pb gG)]),
      .val (.pointer (some ⟨w.heap.size+1,0,none⟩)),
      .val (int u64 s),
      .val (.agg #[int u64 (px b),int u64 (py b),.bool (pb b)]),
      .val (.slice (some ⟨g1,0,none⟩) n k1),
      .val (.slice (some ⟨g2,0,none⟩) n k2),
      .val (.tuple #[.agg #[.string cx,int u64 (px b),int u64 (py b),.bool (pb b),.slice (some ⟨q1,0,none⟩) n l1,.slice (some ⟨q2,0,none⟩) n l2],.bool true]),
      .val (.tuple #[.agg #[.string cx,int u64 (px b),int u64 (py b),.bool (pb b),.slice (some ⟨q1,0,none⟩) n l1,.slice (some ⟨q2,0,none⟩) n l2],.bool true]),
      .val (.agg #[.string cx,int u64 (px b),int u64 (py b),.bool (pb b),.slice (some ⟨q1,0,none⟩) n l1,.slice (some ⟨q2,0,none⟩) n l2]),
      .val (.bool true),
      .new (.cells #[.string ⟨#[]⟩,int u64 0,int u64 0,.bool false,.slice none 0 0,.slice none 0 0] 78) (.cells #[.string cx,int u64 (px b),int u64 (py b),.bool (pb b),.slice (some ⟨q1,0,none⟩) n l1,.slice (some ⟨q2,0,none⟩) n l2] 78) 16,
      .put 15,
      .val (.bool true)] [[5],[14],[15],[5],[17],[],[6],[20],[19,21],[2],[3],[16,18,22,23,24],[25],[13],[13],[],[11,26],[27]] (fun f=> [(some 14,.pointer (some ⟨w.heap.size,2,none⟩)),(some 15,.pointer (some ⟨w.heap.size,7,none⟩)),(some 16,.func (.func F5) #[] #[]),(some 17,.pointer (some ⟨w.heap.size,0,none⟩)),(some 18,.agg #[.string cx,.string info]),(some 19,.agg #[int u64 (px gG),int u64 (py gG),.bool (pb gG)]),(some 20,.pointer (some ⟨w.heap.size+1,0,none⟩)),(some 21,int u64 s),(some 22,.agg #[int u64 (px b),int u64 (py b),.bool (pb b)]),(some 23,.slice (some ⟨g1,0,none⟩) n k1),(some 24,.slice (some ⟨g2,0,none⟩) n k2),(some 25,.tuple #[.agg #[.string cx,int u64 (px b),int u64 (py b),.bool (pb b),.slice (some ⟨q1,0,none⟩) n l1,.slice (some ⟨q2,0,none⟩) n l2],.bool true]),(some 13,.tuple #[.agg #[.string cx,int u64 (px b),int u64 (py b),.bool (pb b),.slice (some ⟨q1,0,none⟩) n l1,.slice (some ⟨q2,0,none⟩) n l2],.bool true]),(some 26,.agg #[.string cx,int u64 (px b),int u64 (py b),.bool (pb b),.slice (some ⟨q1,0,none⟩) n l1,.slice (some ⟨q2,0,none⟩) n l2]),(some 27,.bool true),(some 11,.pointer (some ⟨f 15,0,none⟩)),(none,undef),(some 12,.bool true)]) (by kernel_rfl) (by kernel_rfl) (by kernel_rfl) (by kernel_rfl) (fun _=>by kernel_rfl) (G.last_of [.cells #[.string ⟨#[]⟩,int u64 0,int u64 0,.bool false,.slice none 0 0,.slice none 0 0] 78] (fun F R hm=>by simp at hm) (fun ob ob' k hm=>by simp at hm;simp [hm]) (fun b ob ob' hm=>by simp at hm)) (fun b ob ob' hm=>by simp at hm) ?_ ?_
  · intro ix hix
    match ix,hix with
    |0,_=>exact G.obv [(5,.pointer (some ⟨w.heap.size,0,none⟩))] rfl rfl (fun A w ⟨e0,_⟩ hB=>fa_pro1 e0)
    |1,_=>exact G.obv [(14,.pointer (some ⟨w.heap.size,2,none⟩))] rfl rfl (fun A w ⟨e0,_⟩ hB=>fa_rul5 e0)
    |2,_=>exact G.obv [(15,.pointer (some ⟨w.heap.size,7,none⟩))] rfl rfl (fun A w ⟨e0,_⟩ hB=>ld_fn5 e0 (hB.cell s7 (by simp)))
    |3,_=>exact G.obv [(5,.pointer (some ⟨w.heap.size,0,none⟩))] rfl rfl (fun A w ⟨e0,_⟩ hB=>fa_pro0 e0)
    |4,_=>exact G.obv [(17,.pointer (some ⟨w.heap.size,0,none⟩))] rfl rfl (fun A w ⟨e0,_⟩ hB=>ld_set e0 (hB.cell s0 (by simp)) (hB.cell s1 (by simp)))
    |5,_=>exact G.obv [] rfl rfl (fun A w _ hB=>cl0 cf_impl_basePoint (bspI w))
    |6,_=>exact G.obv [(6,.pointer (some ⟨w.heap.size+1,0,none⟩))] rfl rfl (fun A w ⟨e0,_⟩ hB=>fa_nN1 e0)
    |7,_=>exact G.obv [(20,.pointer (some ⟨w.heap.size+1,0,none⟩))] rfl rfl (fun A w ⟨e0,_⟩ hB=>ld_u64 e0 (hB.cell z0 (by simp)))
    |8,_=>exact G.obv [(19,.agg #[int u64 (px gG),int u64 (py gG),.bool (pb gG)]),(21,int u64 s)] rfl rfl (fun A w ⟨e0,e1,_⟩ hB=>cl2 cf_impl_curvePoint_times e0 e1 (TM w))
    |9,_=>exact G.obv [(2,.slice (some ⟨g1,0,none⟩) n k1)] rfl rfl (fun A w ⟨e0,_⟩ hB=>doV_move e0)
    |10,_=>exact G.obv [(3,.slice (some ⟨g2,0,none⟩) n k2)] rfl rfl (fun A w ⟨e0,_⟩ hB=>doV_move e0)
    |11,_=>exact G.obv [(16,.func (.func F5) #[] #[]),(18,.agg #[.string cx,.string info]),(22,.agg #[int u64 (px b),int u64 (py b),.bool (pb b)]),(23,.slice (some ⟨g1,0,none⟩) n k1),(24,.slice (some ⟨g2,0,none⟩) n k2)] rfl rfl (fun A w ⟨e0,e1,e2,e3,e4,_⟩ hB=>cv4 hcf e0 e1 e2 e3 e4 (CL w))
    |12,_=>exact G.obv [(25,.tuple #[.agg #[.string cx,int u64 (px b),int u64 (py b),.bool (pb b),.slice (some ⟨q1,0,none⟩) n l1,.slice (some ⟨q2,0,none⟩) n l2],.bool true])] rfl rfl (fun A w ⟨e0,_⟩ hB=>doV_move e0)
    |13,_=>exact G.obv [(13,.tuple #[.agg #[.string cx,int u64 (px b),int u64 (py b),.bool (pb b),.slice (some ⟨q1,0,none⟩) n l1,.slice (some ⟨q2,0,none⟩) n l2],.bool true])] rfl rfl (fun A w ⟨e0,_⟩ hB=>xt2_0 e0)
    |14,_=>exact G.obv [(13,.tuple #[.agg #[.string cx,int u64 (px b),int u64 (py b),.bool (pb b),.slice (some ⟨q1,0,none⟩) n l1,.slice (some ⟨q2,0,none⟩) n l2],.bool true])] rfl rfl (fun A w ⟨e0,_⟩ hB=>xt2_1 e0)
    |15,_=>exact G.ob_new rfl rfl (fun A w=>al_bat)
    |16,_=>exact G.ob_put 11 (fun f=> [(11,.pointer (some ⟨f 15,0,none⟩)),(26,.agg #[.string cx,int u64 (px b),int u64 (py b),.bool (pb b),.slice (some ⟨q1,0,none⟩) n l1,.slice (some ⟨q2,0,none⟩) n l2])]) rfl rfl rfl (by decide) (by kernel_rfl) rfl (fun _=>by kernel_rfl) (fun f A w ⟨e0,e1,_⟩ hr=>pu_bat e0 e1 hr)
    |17,_=>exact G.obv [(27,.bool true)] rfl rfl (fun A w ⟨e0,_⟩ hB=>doV_assign e0)
    |ix+18,h=>exact absurd h (by simp)
  intro f W1 hS hnew _ _ _;have hb1:Bl X W1:=(Below.refl _ X).drew.trans hS.below;have rb:Bk W1 78 (f 15) #[.string cx,int u64 (px b),int u64 (py b),.bool (pb b),.slice (some ⟨q1,0,none⟩) n l1,.slice (some ⟨q2,0,none⟩) n l2]:=(hnew 15 _ _ _ rfl (by decide)).2;have hlt:w.heap.size+1+1+1<f 15:=Nat.lt_of_lt_of_le rp.lt (hnew 15 _ _ _ rfl (by decide)).1;generalize f 15=BB at*;replace r1:=r1.keep hb1;replace r2:=r2.keep hb1;replace rp:=rp.keep hb1;replace hb:=hb.tr hb1;clear hS hb1 s0 s1 s7 z0 TM CL r0 hnew;simp only [puts,List.foldl,Act.put,List.setIfInBounds_toArray,List.set_cons_zero,List.set_cons_succ];go_wp2;have u0:W1.drew.cell? ⟨BB,0,none⟩=_:=rb.cell (k:=0) rfl;have u1:W1.drew.cell? ⟨BB,1,none⟩=_:=rb.cell (k:=1) rfl;have u2:W1.drew.cell? ⟨BB,2,none⟩=_:=rb.cell (k:=2) rfl;have u3:W1.drew.cell? ⟨BB,3,none⟩=_:=rb.cell (k:=3) rfl;have u4:W1.drew.cell? ⟨BB,4,none⟩=_:=rb.cell (k:=4) rfl;have u5:W1.drew.cell? ⟨BB,5,none⟩=_:=rb.cell (k:=5) rfl;have z1:W1.drew.cell? ⟨w.heap.size+1,0,none⟩=_:=r1.cell (k:=0) rfl;have z2:W1.drew.cell? ⟨w.heap.size+1+1,0,none⟩=_:=r2.cell (k:=0) rfl;have nB:BB∉ [w.heap.size+1+1+1]:=fun h=>absurd (List.mem_singleton.1 h) (by omega)
  have n1:w.heap.size+1∉ [w.heap.size+1+1+1]:=fun h=>absurd (List.mem_singleton.1 h) (by omega)
  have n2:w.heap.size+1+1∉ [w.heap.size+1+1+1]:=fun h=>absurd (List.mem_singleton.1 h) (by omega)
  have lp:w.heap.size+1+1+1<W1.drew.heap.size:=rp.lt;have hU:∀w',G.Sides [w.heap.size+1+1+1] W1.drew w'→Bl w w':=fun w' h=>h.under hb.drew (by intro b h;rw [List.mem_singleton.1 h];omega) hb.size
  have PV':∀w',G.Sides [w.heap.size+1+1+1] W1.drew w'→_:=fun w' h=>PV w' (hU w' h)
  refine G.pool_list (W:=W1) [w.heap.size+1+1+1] [.val (.agg #[.string cx,int u64 (px b),int u64 (py b),.bool (pb b),.slice (some ⟨q1,0,none⟩) n l1,.slice (some ⟨q2,0,none⟩) n l2]),
      .val (.agg #[int u64 s]),
      .val (.agg #[int u64 (px gG),int u64 (py gG),.bool (pb gG)]),
      .val (.agg #[int u64 r]),
      .val (.agg #[int u64 c',int u64 s']),
      .set (w.heap.size+1+1+1) (.cells #[int u64 0,int u64 0] 28) (.cells #[int u64 c',int u64 s'] 28)] [[11],[6],[],[9],[31,32,33,34],[10,35]] (fun f=> [(some 31,.agg #[.string cx,int u64 (px b),int u64 (py b),.bool (pb b),.slice (some ⟨q1,0,none⟩) n l1,.slice (some ⟨q2,0,none⟩) n l2]),(some 32,.agg #[int u64 s]),(some 33,.agg #[int u64 (px gG),int u64 (py gG),.bool (pb gG)]),(some 34,.agg #[int u64 r]),(some 35,.agg #[int u64 c',int u64 s']),(none,undef)]) (by kernel_rfl) (by kernel_rfl) (by kernel_rfl) (by kernel_rfl) (fun _=>by kernel_rfl) (G.last_of [.cells #[int u64 0,int u64 0] 28] (fun F R hm=>by simp at hm) (fun ob ob' k hm=>by simp at hm) (fun b ob ob' hm=>by simp at hm;simp [hm])) (fun b ob ob' hm=>by simp at hm;obtain⟨rfl,rfl,-⟩:=hm;exact rp) ?_ ?_
  · intro ix hix
    match ix,hix with
    |0,_=>exact G.obv [(11,.pointer (some ⟨BB,0,none⟩))] rfl rfl (fun A w ⟨e0,_⟩ hB=>ld_bat e0 (hB.cell u0 nB) (hB.cell u1 nB) (hB.cell u2 nB) (hB.cell u3 nB) (hB.cell u4 nB) (hB.cell u5 nB))
    |1,_=>exact G.obv [(6,.pointer (some ⟨w.heap.size+1,0,none⟩))] rfl rfl (fun A w ⟨e0,_⟩ hB=>ld_nN e0 (hB.cell z1 n1))
    |2,_=>exact G.obv [] rfl rfl (fun A w _ hB=>cl0 cf_impl_basePoint (bspI w))
    |3,_=>exact G.obv [(9,.pointer (some ⟨w.heap.size+1+1,0,none⟩))] rfl rfl (fun A w ⟨e0,_⟩ hB=>ld_nN e0 (hB.cell z2 n2))
    |4,_=>exact G.obv [(31,.agg #[.string cx,int u64 (px b),int u64 (py b),.bool (pb b),.slice (some ⟨q1,0,none⟩) n l1,.slice (some ⟨q2,0,none⟩) n l2]),(32,.agg #[int u64 s]),(33,.agg #[int u64 (px gG),int u64 (py gG),.bool (pb gG)]),(34,.agg #[int u64 r])] rfl rfl (fun A w ⟨e0,e1,e2,e3,_⟩ hB=>cl4 cf_impl_batch_prove e0 e1 e2 e3 (PV' w hB))
    |5,_=>exact G.ob_set (fun f=> [(10,.pointer (some ⟨w.heap.size+1+1+1,0,none⟩)),(35,.agg #[int u64 c',int u64 s'])]) rfl rfl rfl (by simp) lp (fun j ob1 ob2 h=>by (rcases j with _|_|_|_|_|_|j)<;>simp [G.kindOf] at h⊢ <;>omega) (fun _=>by kernel_rfl) (fun f A w ⟨e0,e1,_⟩ hh hr=>pu_prf e0 e1 hr)
    |ix+6,h=>exact absurd h (by simp)
  intro f W2 hS _ _ _ hset;have q:P2 W2 28 (w.heap.size+1+1+1) c' s':=hset 5 _ _ _ rfl (by decide);have hb2:=hU W2 hS;clear hset hS u0 u1 u2 u3 u4 u5 z1 z2 PV PV' hU;simp only [puts,List.foldl,Act.put,List.setIfInBounds_toArray,List.set_cons_zero,List.set_cons_succ];go_wp2;exact bodyPost_ret (v:= .agg #[int u64 c',int u64 s']) (prf_res (fn:=Tryz.f108) (p:=10) results108 _ rfl q) rfl ⟨rfl,hb2⟩
end
end
end Go.Proofs.YtmjniccfjffclaaGreatDoor
