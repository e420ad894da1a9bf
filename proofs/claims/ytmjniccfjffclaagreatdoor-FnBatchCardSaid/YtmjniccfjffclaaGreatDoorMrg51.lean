import Derived.Test.YtmjniccfjffclaaGreatDoorMrg50
set_option linter.unusedVariables false
set_option maxRecDepth 100000
set_option maxHeartbeats 16000000
namespace Go.Proofs.YtmjniccfjffclaaGreatDoor
open Go.Proofs.Tryz Go.RowKit
open Go.Value (int)
open Go.IntKind (u64)
section
open M
section
variable (mode ax ay bx by' k r fx fy kk rr:Int)(ac bc fc oa ok or':Bool)(gc oc nc cc gd od nd cd:Nat)(w:World)
theorem chkI_no (ob:Bool)(h:ob=false∨oa=false∨ok=false∨or'=false)
    (F:∀w',Bl w w'→Calls prog 37 #[.int .i64 mode,.agg #[int u64 bx,int u64 by',.bool bc],.slice (some ⟨gc,oc,none⟩) nc cc,.slice (some ⟨gd,od,none⟩) nd cd] w' fun e w''=>∃s x y c a1 n1 k1 a2 n2 k2,e= .returned (.tuple #[.agg #[.string s,int u64 x,int u64 y,.bool c,.slice a1 n1 k1,.slice a2 n2 k2],.bool ob])∧Bl w' w'')
    (FA:Cc 38 #[.agg #[int u64 ax,int u64 ay,.bool ac]] (.tuple #[.agg #[int u64 fx,int u64 fy,.bool fc],.bool oa]))
    (EK:Cc 39 #[int u64 k,.agg #[]] (.tuple #[.agg #[int u64 kk],.bool ok]))
    (ER:Cc 39 #[int u64 r,.agg #[]] (.tuple #[.agg #[int u64 rr],.bool or'])):
    Cr 9 #[.int .i64 mode,.agg #[int u64 ax,int u64 ay,.bool ac],.agg #[int u64 bx,int u64 by',.bool bc],.slice (some ⟨gc,oc,none⟩) nc cc,.slice (some ⟨gd,od,none⟩) nd cd,.agg #[int u64 k,int u64 r]] w (.bool false):=by
  obtain⟨X,hX⟩:∃X,X=((w.alloc (Obj.cells #[int u64 ax,int u64 ay,.bool ac] 34)).alloc (Obj.cells #[int u64 bx,int u64 by',.bool bc] 34)).alloc (Obj.cells #[int u64 k,int u64 r] 28):=⟨_,rfl⟩;have ra:R3 X w.heap.size ax ay ac:=by rw [hX];exact((R3.new _ ax ay ac).alloc _).alloc _
  have rp:P2 X 28 (w.heap.size+1+1) k r:=by rw [hX];exact(P2.new _ _ k r).at (by simp)
  have hb:Bl w X:=by rw [hX];exact((((Below.refl _ w).alloc (Nat.le_refl _) _).alloc (by simp) _).alloc (by simp;omega) _)
  rw [hX] at ra rp hb;clear hX;go_enter func9,ntmps9;go_wp2_with fail;refine(F _ hb).mono ?_;rintro e w1 ⟨s,x,y,c,a1,n1,k1,a2,n2,k2,rfl,b1⟩;have hal:=balc w1 (Obj.cells #[.string s,int u64 x,int u64 y,.bool c,.slice a1 n1 k1,.slice a2 n2 k2] 78);replace ra:=(ra.keep' b1).keep' hal;replace rp:=(rp.keep b1).keep hal;replace hb:=hb.tr b1;replace hb:=hb.tr hal;have c0:=ra.c0;have c1:=ra.c1;have c2:=ra.c2;clear F b1 hal;go_wp2_with fail;refine(FA _).mono ?_;rintro e w2 ⟨rfl,b2⟩;have hal:=balc w2 (Obj.cells #[int u64 fx,int u64 fy,.bool fc] 75);replace rp:=(rp.keep b2).keep hal;replace hb:=hb.tr b2;replace hb:=hb.tr hal;have d0:=rp.c0;clear FA b2 hal ra c0 c1 c2;go_wp2_with fail;refine(EK _).mono ?_;rintro e w3 ⟨rfl,b3⟩;have hal:=balc w3 (Obj.cells #[int u64 kk] 86);replace rp:=(rp.keep b3).keep hal;replace hb:=hb.tr b3;replace hb:=hb.tr hal;clear EK b3 hal d0;have d1:=rp.c1;go_wp2_with fail;refine(ER _).mono ?_;rintro e w4 ⟨rfl,b4⟩;have hal:=balc w4 (Obj.cells #[int u64 rr] 86);replace hb:=hb.tr b4;replace hb:=hb.tr hal;clear ER b4 hal d1
  cases ob with
  | false=>
    clear h;go_wp2;go_ret;exact⟨rfl,hb⟩
  | true=>
    cases oa with
    | false=>
      clear h;go_wp2;go_ret;exact⟨rfl,hb⟩
    | true=>
      cases ok with
      | false=>
        clear h;go_wp2;go_ret;exact⟨rfl,hb⟩
      | true=>
        obtain rfl:or'=false:=by simpa using h
        clear h;go_wp2;go_ret;exact⟨rfl,hb⟩
theorem chkI_of (P:World→Nat→Nat→Prop)(s:ByteArray)(gx gy:Int)(gz acc:Bool)(n:Nat)
    (F:∀w',Bl w w'→Calls prog 37 #[.int .i64 mode,.agg #[int u64 bx,int u64 by',.bool bc],.slice (some ⟨gc,oc,none⟩) nc cc,.slice (some ⟨gd,od,none⟩) nd cd] w' fun e w''=>∃g1 k1 g2 k2,e= .returned (.tuple #[.agg #[.string s,int u64 gx,int u64 gy,.bool gz,.slice (some ⟨g1,0,none⟩) n k1,.slice (some ⟨g2,0,none⟩) n k2],.bool true])∧P w'' g1 g2∧Bl w' w'')
    (hP:∀w1 w2 g1 g2,P w1 g1 g2→Bl w1 w2→P w2 g1 g2)
    (FA:Cc 38 #[.agg #[int u64 ax,int u64 ay,.bool ac]] (.tuple #[.agg #[int u64 fx,int u64 fy,.bool fc],.bool true]))
    (EK:Cc 39 #[int u64 k,.agg #[]] (.tuple #[.agg #[int u64 kk],.bool true]))
    (ER:Cc 39 #[int u64 r,.agg #[]] (.tuple #[.agg #[int u64 rr],.bool true]))
    (PV:∀w' g1 k1 g2 k2,Bl w w'→P w' g1 g2→Cr 40 #[.agg #[.string s,int u64 gx,int u64 gy,.bool gz,.slice (some ⟨g1,0,none⟩) n k1,.slice (some ⟨g2,0,none⟩) n k2],.agg #[int u64 fx,int u64 fy,.bool fc],.agg #[int u64 kk],.agg #[int u64 rr]] w' (.bool acc)):
    Cr 9 #[.int .i64 mode,.agg #[int u64 ax,int u64 ay,.bool ac],.agg #[int u64 bx,int u64 by',.bool bc],.slice (some ⟨gc,oc,none⟩) nc cc,.slice (some ⟨gd,od,none⟩) nd cd,.agg #[int u64 k,int u64 r]] w (.bool acc):=by
  obtain⟨X,hX⟩:∃X,X=((w.alloc (Obj.cells #[int u64 ax,int u64 ay,.bool ac] 34)).alloc (Obj.cells #[int u64 bx,int u64 by',.bool bc] 34)).alloc (Obj.cells #[int u64 k,int u64 r] 28):=⟨_,rfl⟩;have ra:R3 X w.heap.size ax ay ac:=by rw [hX];exact((R3.new _ ax ay ac).alloc _).alloc _
  have rp:P2 X 28 (w.heap.size+1+1) k r:=by rw [hX];exact(P2.new _ _ k r).at (by simp)
  have hb:Bl w X:=by rw [hX];exact((((Below.refl _ w).alloc (Nat.le_refl _) _).alloc (by simp) _).alloc (by simp;omega) _)
  rw [hX] at ra rp hb;clear hX;go_enter func9,ntmps9;go_wp2_with fail;refine(F _ hb).mono ?_;rintro e w1 ⟨g1,k1,g2,k2,rfl,p1,b1⟩;have hal:=balc w1 (Obj.cells #[.string s,int u64 gx,int u64 gy,.bool gz,.slice (some ⟨g1,0,none⟩) n k1,.slice (some ⟨g2,0,none⟩) n k2] 78);have r6:=B6.new w1 s gx gy gz (some ⟨g1,0,none⟩) n k1 (some ⟨g2,0,none⟩) n k2;replace ra:=(ra.keep' b1).keep' hal;replace rp:=(rp.keep b1).keep hal;replace p1:=hP _ _ _ _ p1 hal;replace hb:=hb.tr b1;replace hb:=hb.tr hal;have c0:=ra.c0;have c1:=ra.c1;have c2:=ra.c2;clear F b1 hal;go_wp2_with fail;refine(FA _).mono ?_;rintro e w2 ⟨rfl,b2⟩;have hal:=balc w2 (Obj.cells #[int u64 fx,int u64 fy,.bool fc] 75);have rf:=K3.new w2 75 fx fy fc;replace rp:=(rp.keep b2).keep hal;replace r6:=(r6.keep b2).keep hal;replace p1:=hP _ _ _ _ (hP _ _ _ _ p1 b2) hal;replace hb:=hb.tr b2;replace hb:=hb.tr hal;have d0:=rp.c0;clear FA b2 hal ra c0 c1 c2;go_wp2_with fail;refine(EK _).mono ?_;rintro e w3 ⟨rfl,b3⟩;have hal:=balc w3 (Obj.cells #[int u64 kk] 86);have rk:=RN.new w3 kk;replace rp:=(rp.keep b3).keep hal;replace r6:=(r6.keep b3).keep hal;replace rf:=(rf.keep b3).keep hal;replace p1:=hP _ _ _ _ (hP _ _ _ _ p1 b3) hal;replace hb:=hb.tr b3;replace hb:=hb.tr hal;clear EK b3 hal d0;have d1:=rp.c1;go_wp2_with fail;refine(ER _).mono ?_;rintro e w4 ⟨rfl,b4⟩;have hal:=balc w4 (Obj.cells #[int u64 rr] 86);replace r6:=(r6.keep b4).keep hal;replace rf:=(rf.keep b4).keep hal;replace rk:=(rk.keep b4).keep hal;replace p1:=hP _ _ _ _ (hP _ _ _ _ p1 b4) hal;replace hb:=hb.tr b4;replace hb:=hb.tr hal;clear ER b4 hal d1;have s0:=r6.c0;have s1:=r6.c1;have s2:=r6.c2;have s3:=r6.c3;have s4:=r6.c4;have s5:=r6.c5;have f0:=rf.c0;have f1:=rf.c1;have f2:=rf.c2;have k0:=rk.cell;go_wp2_with fail;refine(PV _ g1 k1 g2 k2 hb p1).mono ?_;rintro e w5 ⟨rfl,b5⟩;replace hb:=hb.tr b5;clear PV b5 s0 s1 s2 s3 s4 s5 f0 f1 f2 k0;go_wp2;go_ret;exact⟨rfl,hb⟩
end
theorem fbI_flag (mode:Int)(b:Tri)(cs ds:List Tri)(gc oc cc gd od cd:Nat)(w:World)(hc:Pts w gc oc cs)(hd:Pts w gd od ds):
    Calls prog 37 #[.int .i64 mode,triW b,.slice (some ⟨gc,oc,none⟩) cs.length cc,.slice (some ⟨gd,od,none⟩) ds.length cd] w fun e w'=>∃s x y c a1 n1 k1 a2 n2 k2,e= .returned (.tuple #[.agg #[.string s,int u64 x,int u64 y,.bool c,.slice a1 n1 k1,.slice a2 n2 k2],.bool (batB mode b b cs ds)])∧Bl w w':=by
  cases h:batB mode b b cs ds with
  |false=>exact fbI_no mode b cs ds gc oc cc gd od cd w hc hd h
  | true=>
    refine(fbI_yes mode b cs ds gc oc cc gd od cd w hc hd h).mono ?_;rintro e w' ⟨g1,k1,g2,k2,rfl,-,-,hb⟩;exact⟨_,_,_,_,_,_,_,_,_,_,rfl,hb⟩
theorem batB_ab (mode:Int)(a b:Tri)(cs ds:List Tri):batB mode a b cs ds=(batB mode b b cs ds&&onT a):=by
  rw [Bool.eq_iff_iff,Bool.and_eq_true,batB_iff,batB_iff];constructor
  · rintro⟨h1,h2,h3,h4⟩;exact⟨⟨h1,h3,h3,h4⟩,h2⟩
  · rintro⟨⟨h1,h3,-,h4⟩,h2⟩;exact⟨h1,h2,h3,h4⟩
theorem chkI_any (mode:Int)(a b:Tri)(cs ds:List Tri)(c s gc oc cc gd od cd:Nat)(w:World)(hT:TabK w)(hc:Pts w gc oc cs)(hd:Pts w gd od ds):
    Cr 9 #[.int .i64 mode,triW a,triW b,.slice (some ⟨gc,oc,none⟩) cs.length cc,.slice (some ⟨gd,od,none⟩) ds.length cd,.agg #[int u64 c,int u64 s]] w (.bool (chkB mode a b cs ds c s)):=by
  have hgw:7<w.heap.size:=World.block_lt_of_cell? w _ (hT 0 (by omega));by_cases h:batB mode a b cs ds=true∧c<2305843010818082053∧s<2305843010818082053
  · obtain⟨hB,hlc,hls⟩:=h;have hbb:=batB_b hB;have h':=hB;rw [batB_iff] at h';obtain⟨h1,h2,h3,h4,h5,-,-⟩:=h';obtain⟨md,rfl⟩:∃k:Nat,mode=(k:Int):=⟨mode.toNat,by omega⟩
    have e:chkB md a b cs ds c s=(((chkC md c s a b cs ds:Nat):Int)==(c:Int)):=by
      unfold chkB;rw [hB,decide_eq_true hlc,decide_eq_true hls,Int.toNat_natCast];rw [Bool.eq_iff_iff];simp;omega
    rw [e];have F:=fun w' hb=>fbI_yes md b cs ds gc oc cc gd od cd w' (hc.below (B:=w.heap.size) hb hc.lt) (hd.below (B:=w.heap.size) hb hd.lt) hbb
    rw [Int.toNat_natCast] at F;have FA:=fnd_tri a;rw [h2] at FA;refine chkI_of md _ _ _ _ c s _ _ c s _ _ _ gc oc cs.length cc gd od ds.length cd w (fun w' g1 g2=>Cps w' g1 (cs.map asT)∧Cps w' g2 (ds.map asT)) (ctxB md) (px (asT b)) (py (asT b)) (pb (asT b)) _ cs.length (fun w' hb=>(F w' hb).mono ?_) (fun w1 w2 g1 g2 hp hb=>⟨hp.1.keep hb,hp.2.keep hb⟩) FA (fun w=>exN_less c w (by omega)) (fun w=>exN_less s w (by omega)) (fun w' g1 k1 g2 k2 hb hp=> ?_)
    · rintro e w'' ⟨g1,k1,g2,k2,rfl,p1,p2,p3⟩;exact⟨g1,k1,g2,k2,rfl,⟨p1,p2⟩,p3⟩
    · exact accI_any md cs.length g1 k1 g2 k2 c s (asT a) (asT b) (cs.map asT) (ds.map asT) w' (keepT hT hgw hb) (by omega) h4.1 h4.2 (map_len _ _ _ rfl) (map_len _ _ _ h5.symm) (asT_on a) (asT_on b) (asT_list cs) (asT_list ds) hp.1 hp.2 hlc hls (comM md b cs ds cs) (comM md b cs ds ds) rfl rfl (chkC md c s a b cs ds) rfl
  · have e:chkB mode a b cs ds c s=false:=by
      cases hh:chkB mode a b cs ds c s with
      |false=>rfl
      | true=>
        unfold chkB at hh;simp only [Bool.and_eq_true,decide_eq_true_eq] at hh;exact absurd ⟨hh.1.1.1,hh.1.1.2,hh.1.2⟩ h
    rw [e];refine chkI_no mode _ _ _ _ c s _ _ _ _ _ _ _ (onT a) _ _ gc oc cs.length cc gd od ds.length cd w (batB mode b b cs ds) ?_ (fun w' hb=>fbI_flag mode b cs ds gc oc cc gd od cd w' (hc.below hb hc.lt) (hd.below hb hd.lt)) (fnd_tri a) (exN_any c) (exN_any s);rw [batB_ab] at h
    cases h1:batB mode b b cs ds with
    |false=>exact .inl rfl
    | true=>
      cases h2:onT a with
      |false=>exact .inr (.inl rfl)
      | true=>
        by_cases hk:c<2305843010818082053
        · exact .inr (.inr (.inr (decide_eq_false (fun hr=>h ⟨by rw [h1,h2];rfl,hk,hr⟩))))
        · exact .inr (.inr (.inl (decide_eq_false hk)))
theorem timI_of (k x y p q x4 y4:Int)(c pb c4 ok:Bool)(w:World)
    (F1:Cc 38 #[.agg #[int u64 x,int u64 y,.bool c]] (.tuple #[.agg #[int u64 p,int u64 q,.bool pb],.bool ok]))
    (Tm:Cc 42 #[.agg #[int u64 p,int u64 q,.bool pb],int u64 k] (.agg #[int u64 x4,int u64 y4,.bool c4])):
    Cr 11 #[int u64 k,.agg #[int u64 x,int u64 y,.bool c]] w (.agg #[int u64 x4,int u64 y4,.bool c4]):=by
  have hfl:=fldK;obtain⟨X,hX⟩:∃X,X=(w.alloc (Obj.cells #[int u64 x,int u64 y,.bool c] 34)).alloc (Obj.cells #[int u64 0,int u64 0,.bool false] 34):=⟨_,rfl⟩;have hr:K3 X 34 (w.heap.size+1) 0 0 false:=by rw [hX];exact(K3.new _ _ 0 0 false).at (by simp)
  have hb:Bl w X:=by rw [hX];exact((Below.refl _ w).alloc (Nat.le_refl _) _).alloc (by simp) _
  rw [hX] at hr hb;clear hX;go_enter func11,ntmps11;go_wp2_with fail;refine(F1 _).mono ?_;rintro e w1 ⟨rfl,b1⟩;replace hr:=(hr.keep b1).alloc (Obj.cells #[int u64 p,int u64 q,.bool pb] 75);replace hb:=keepB hb hb.size b1;replace hb:=hb.alloc hb.size (Obj.cells #[int u64 p,int u64 q,.bool pb] 75);clear b1 F1;go_wp2_with fail;refine(Tm _).mono ?_;rintro e w3 ⟨rfl,b3⟩;replace hr:=hr.keep b3;replace hb:=keepB hb hb.size b3;clear b3 Tm;have c0:=hr.c0;have c1:=hr.c1;have c2:=hr.c2;have f0:=hr.frz 0;have f1:=hr.frz 1;have f2:=hr.frz 2;go_wp2;exact bodyPost_ret (v:= .agg #[int u64 x4,int u64 y4,.bool c4]) (pt_res (fn:=Tryz.f11) (p:=4) results11 _ rfl (hr.set _ _ _)) rfl ⟨rfl,set3_below hb (by omega)⟩
theorem timI_pt (k x y:Nat)(c:Bool)(w:World)(hk:k<18446744073709551616):
    Cr 11 #[int u64 k,.agg #[int u64 x,int u64 y,.bool c]] w (ptW (nt k (asPt x y c))):=by
  have N:=ctmV (asPt_on x y c) k hk;rw [ptW_eq,ptW_eq] at N;rw [ptW_eq];exact timI_of _ _ _ _ _ _ _ _ _ _ _ w (fndW x y c) N
theorem own_qp {W:World}{B:Nat}{z:Value}{ps:List Pt}(h:W.ownsRow B 34 3 z ps.length (cells3 ps))(hon:∀p∈ps,on p):∃q cap,z= .slice q ps.length cap∧PtQ W q (ps.map ptT):=by
  rcases h.2 with ⟨rfl,h0⟩|⟨g,cap,cur,rfl,-⟩
  · have:ps= []:=List.eq_nil_of_length_eq_zero h0;subst this;exact⟨none,0,rfl,.inl rfl⟩
  · exact⟨_,cap,rfl,.inr ⟨g,rfl,own_pts h hon⟩⟩
theorem pts_at {W:World}{g:Nat}{ps:List Pt}(h:Pts W g 0 (ps.map ptT))(hon:∀p∈ps,on p)(i:Nat)(hi:i<ps.length):fnBatch.At W g i (ps.getD i none):=by
  have e:ps[i]? =some (ps.getD i none):=by
    rw [List.getD_eq_getElem?_getD,List.getElem?_eq_getElem hi];rfl
  obtain⟨-,e1,e2,e3,-⟩:=ptT_of (hon _ (List.mem_of_getElem? e));have hm:(ps.map ptT)[i]? =some (ptT (ps.getD i none)):=by rw [List.getElem?_map,e];rfl
  have c0:=h.c0 i _ hm;have c1:=h.c1 i _ hm;have c2:=h.c2 i _ hm;rw [Nat.zero_add] at c0 c1 c2;exact⟨by rw [e1];exact c0,by rw [e2];exact c1,by rw [e3];exact c2⟩
theorem btcL (a0:Option Addr)(l0 cap0:Nat)(w:World)(hv0:Cod w (.slice a0 l0 cap0))(h0:l0≤1048576)(hT:TabK w)(hs:∃s0 s1 s2 s3,Sn w s0 s1 s2 s3):
    Cr 3 #[.slice a0 l0 cap0] w (.bool true):=by
  obtain⟨s0,s1,s2,s3,hs⟩:=hs;have hgw:7<w.heap.size:=World.block_lt_of_cell? w _ (hT 0 (by omega));obtain⟨m,key,t,ps,r,hon,hl4,DF⟩:=dev_uni _ w hv0;have hl:(ps.map ptT).length=ps.length:=List.length_map _;obtain⟨es,hes⟩:∃es,es=ps.map ptT:=⟨_,rfl⟩;have hG:=evaG_on m key t es r;have ES:=fun (w':World) (g cap:Nat) (hp:Pts w' g 0 es)=>evaS_any m key t es r g cap w' hp
  have EI:=fun (w':World) (g cap:Nat) (hb:Bl w w') (hp:Pts w' g 0 es)=>evaI_all m key t es r g cap s0 s1 s2 s3 w' (keepT hT hgw hb) (hs.keep hb) hp
  rw [show es.length=ps.length by rw [hes,hl]] at ES EI;obtain⟨-,k1,k2,k3,-⟩:=ptT_of (nt_on gG_on key);obtain⟨-,b3,b4,b5,-⟩:=ptT_of (bldT_on 2 t (pubK key))
  refine fnBatch.walk_of a0 l0 cap0 ps.length (evaG m key t es r).length m (evaC m key t es r) key r (evaK m key t es r).1 (evaK m key t es r).2 (px (nt key gG)) (py (nt key gG)) (px (nt 1 (hsh 2 anyW))) (py (nt 1 (hsh 2 anyW))) (px (bldT 2 t (pubK key))) (py (bldT 2 t (pubK key))) (pb (nt key gG)) (pb (nt 1 (hsh 2 anyW))) (pb (bldT 2 t (pubK key))) t (fun i=>ps.getD i none) (fun i=>nt (facB m key t) (ps.getD i none)) (fun w g=>Pts w g 0 es) (fun w q=>PtQ w q ((evaG m key t es r).map ptT)) w (by omega) hl4
    (fun h hb=>h.keep hb) (fun h hb=>h.keep hb) (fun h i hi=>pts_at (hes▸h) hon i hi)
    (fun w' hb=>(DF w' hb).mono (by
      rintro e w'' ⟨⟨g,cap,rfl,ho⟩,b⟩
      exact⟨⟨g,cap,rfl,hes▸own_pts ho hon⟩,b⟩))
    (fun w' g cap hb hp=>(ES w' g cap hp).mono (by
      rintro e w'' ⟨v,rfl,ho,b⟩;obtain⟨q,cap',rfl,hq⟩:=own_qp ho hG
      exact⟨⟨q,cap',rfl,hq⟩,b⟩))
    (fun w' g cap hb hp=>(EI w' g cap hb hp).mono (by
      rintro e w'' ⟨v,rfl,ho,b,-⟩;obtain⟨q,cap',rfl,hq⟩:=own_qp ho hG
      exact⟨⟨q,cap',rfl,hq⟩,b⟩)) ?_
  by_cases hc:evaC m key t es r=0
  · obtain⟨⟨z1,z2,z3,z4,z5⟩,z6⟩:=evaC_zero hc;obtain⟨⟨hm1,hm2⟩,-⟩:=txtB_iff.1 z1;have hkl:=(keyB_iff.1 z2).2;have eG:evaG m key t es r=evaE m key t es:=if_pos hc;have hEl:=evaE_length m key t es
    have hmap:evaE m key t es=ps.map (nt (facB m key t)):=by
      unfold evaE;rw [hes,List.map_map]
      exact List.map_congr_left fun p hp=>by
        show nt _ (asT (ptT p))=_;rw [(ptT_of (hon p hp)).1]
    have hF:∀i,i<ps.length→(evaE m key t es).getD i none=nt (facB m key t) (ps.getD i none):=fun i hi=>by
      rw [hmap,List.getD_eq_getElem?_getD,List.getElem?_map,List.getD_eq_getElem?_getD,List.getElem?_eq_getElem hi];rfl
    have hle:es.length=ps.length:=by rw [hes,hl]
    have TI:∀w',Cr 11 #[int u64 (key:Int),.agg #[int u64 (px gG),int u64 (py gG),.bool (pb gG)]] w' (.agg #[int u64 (px (nt key gG)),int u64 (py (nt key gG)),.bool (pb (nt key gG))]):=fun w'=>by
      have h:=timI_pt key gT.1 gT.2.1 gT.2.2 w' (Nat.lt_trans hkl (by decide));change Calls _ _ #[_,triW gT] _ (fun e w''=>e= .returned (ptW (nt key (asT gT)))∧_) at h;rw [gT_W,asT_g,ptW_eq] at h;exact h
    have hnn: ¬ (evaG m key t es r).map ptT= []:=fun e=>by
      have:=congrArg List.length e;rw [eG,List.length_map,hEl,List.length_nil] at this;omega
    refine .inr ⟨hc,by rw [eG,hEl,hle],fun {w q} hq=> ?_,fun j w' g hj hb hB=> ?_,?_⟩
    · rcases hq with e|⟨g,rfl,hp⟩
      · exact absurd e hnn
      · refine⟨g,rfl,hp.lt,fun i hi=> ?_⟩;rw [←hF i hi];rw [eG] at hp;exact pts_at hp (evaE_on m key t es) i (by rw [hEl,hle];exact hi)
    · have e:ps[j]? =some (ps.getD j none):=by
        rw [List.getD_eq_getElem?_getD,List.getElem?_eq_getElem hj];rfl
      have hmem:=List.mem_of_getElem? e;have honj:=hon _ hmem;obtain⟨ea,e1,e2,e3,-⟩:=ptT_of honj;generalize ps.getD j none=p at*;rw [e1,e2,e3] at hB;have hcj:evaC m key t [ptT p] r=0:=evaC_part hc (by rw [hes];exact List.mem_map.2 ⟨p,hmem,rfl⟩)
      have hGj:evaG m key t [ptT p] r= [nt (facB m key t) p]:=by
        unfold evaG;rw [if_pos hcj,evaE_one,ea]
      refine(evaI_all m key t [ptT p] r g 1 s0 s1 s2 s3 w' (keepT hT hgw hb) (hs.keep hb) (Pts.one hB)).mono ?_;rintro e w'' ⟨v,rfl,ho,b,-⟩;rw [hGj] at ho;rw [hcj];obtain⟨g1,c1,rfl,-,-⟩:=ho.form (by simp);have hon1:∀q∈ [nt (facB m key t) p],on q:=fun q hq=>by rw [List.mem_singleton.1 hq];exact nt_on honj _
      have hp1:=own_pts ho hon1;exact⟨⟨g1,c1,_,_,rfl,hp1.lt,pts_at hp1 hon1 0 (by simp)⟩,b⟩
    · rcases(show m=0∨m=1∨m=2 by omega) with rfl|rfl|rfl
      · exact .inl rfl
      · refine .inr (.inl ⟨rfl,TI,fun w' g cap q cap' hb hp hq=> ?_⟩);rcases hq with e|⟨g',rfl,hq⟩
        · exact absurd e hnn
        · have h:=chkI_any 1 gT (pubK key) es ((evaG 1 key t es r).map ptT) (evaK 1 key t es r).1 (evaK 1 key t es r).2 g 0 cap g' 0 cap' w' (keepT hT hgw hb) hp hq;rw [gT_W,eG,eva_chk1 hc,List.length_map,hEl,hle] at h;rw [k1,k2,k3];exact h
      · refine .inr (.inr ⟨rfl,TI,fun w' hb=> ?_,fun w' g cap q cap' hb hp hq=> ?_⟩)
        · have h:=bliI_any 2 anyW t (pubK key) 1 s0 s1 s2 s3 w' (keepT hT hgw hb) (hs.keep hb);have hz:=bld_any hc;rw [hz,show bldA 2 anyW t (pubK key) 1=_ from if_pos hz] at h;rw [k1,k2,k3];exact h
        · rcases hq with e|⟨g',rfl,hq⟩
          · exact absurd e hnn
          · have h:=chkI_any 2 gT (ptT (bldT 2 t (pubK key))) ((evaG 2 key t es r).map ptT) es (evaK 2 key t es r).1 (evaK 2 key t es r).2 g' 0 cap' g 0 cap w' (keepT hT hgw hb) hq hp;rw [gT_W,eG,eva_chk2 hc,List.length_map,hEl,hle] at h;rw [b3,b4,b5];exact h
  · exact .inl hc
end
section
open Go.ChangeShapes Go.WideShapes Go.ChangeAt
theorem cellsU8:prog.cellsOf 5=1:=by kernel_rfl
theorem cod_of {H:Type}{enc:TypeId×Value→H}{W:World}{a0:Option Addr}{len cap:Nat}{d0:DataW H}{p:List MemPlace}
    (h0:DataW.Trod enc prog W 0 (fun _=>true) true 22 (.slice a0 len cap) d0 p)(hl:len≤1048576):Cod W (.slice a0 len cap):=by
  obtain⟨fuel,hf⟩:=h0;rcases open_ints underlying22 underlying5 cellsU8 hf with ⟨hcs,hx⟩|⟨a,len',cap',zs,hcs,_,hl',hm,hz,hx,hcell,hwz⟩
  · simp [Value.cells] at hcs;obtain⟨rfl,rfl,rfl⟩:=hcs;exact .inl ⟨_,_,rfl⟩
  · simp [Value.cells] at hcs;obtain⟨rfl,rfl,rfl⟩:=hcs;simp only [if_true] at hz;by_cases h1:len=0
    · subst h1;exact .inl ⟨_,_,rfl⟩
    · have hsp:a.spot=none:=by
        have:=hcell 0 (by omega);simp only [Addr.add,if_true] at this;unfold World.cell? at this;split at this
        · split at this
          · cases this
          · rename_i h;simpa using h
        · cases this
      obtain⟨b,o,sp⟩:=a;obtain rfl:sp=none:=hsp;refine .inr ⟨b,o,len,cap,by omega,hl,rfl,fun i hi=> ?_⟩;have hc:=hcell i (by omega);have ha:(⟨b,o,none⟩:Addr).add i=⟨b,o+i,none⟩:=by unfold Addr.add;split<;>simp_all
      rw [ha] at hc;have hw:=hwz (zs.getD i 0) (by rw [List.getD_eq_getElem?_getD,List.getElem?_eq_getElem (by omega)];exact List.getElem_mem _);have h2:0≤zs.getD i 0∧zs.getD i 0≤255:=by simpa [Lit.wf,IntKind.min,IntKind.max,IntKind.signed,IntKind.bits] using hw
      exact⟨(zs.getD i 0).toNat,by omega,by rw [hc];congr 2;omega⟩
end
end Go.Proofs.YtmjniccfjffclaaGreatDoor
