import Derived.Test.YtmjniccfjffclaaGreatDoorMrg48
import Derived.Test.YtmjniccfjffclaaGreatDoorMrg45
set_option linter.unusedVariables false
set_option maxRecDepth 100000
set_option maxHeartbeats 16000000
namespace Go.Proofs.YtmjniccfjffclaaGreatDoor
open Go.Proofs.Tryz Go.RowKit
open Go.Value (int)
open Go.IntKind (u64)
section
open M
theorem map_len {α β:Type}(f:α→β)(l:List α)(n:Nat)(h:l.length=n):(l.map f).length=n:=by simp [h]
section
variable (mode ax ay bx by' k r fx fy kk rr:Int)(ac bc fc oa ok or':Bool)(gc oc nc cc gd od nd cd:Nat)(w:World)
theorem chkI_no (ob:Bool)(h:ob=false∨oa=false∨ok=false∨or'=false)
    (F:∀w',Bl w w'→Calls prog 37 #[.int .i64 mode,.agg #[int u64 bx,int u64 by',.bool bc],.slice (some ⟨gc,oc,none⟩) nc cc,.slice (some ⟨gd,od,none⟩) nd cd] w' fun e w''=>∃s x y c a1 n1 k1 a2 n2 k2,e= .returned (.tuple #[.agg #[.string s,int u64 x,int u64 y,.bool c,.slice a1 n1 k1,.slice a2 n2 k2],.bool ob])∧Bl w' w'')
    (FA:Cc 38 #[.agg #[int u64 ax,int u64 ay,.bool ac]] (.tuple #[.agg #[int u64 fx,int u64 fy,.bool fc],.bool oa]))
    (EK:Cc 39 #[int u64 k,.agg #[]] (.tuple #[.agg #[int u64 kk],.bool ok]))
    (ER:Cc 39 #[int u64 r,.agg #[]] (.tuple #[.agg #[int u64 rr],.bool or'])):
    Cr 9 #[.int .i64 mode,.agg #[int u64 ax,int u64 ay,.bool ac],.agg #[int u64 bx,int u64 by',.bool bc],.slice (some ⟨gc,oc,none⟩) nc cc,.slice (some ⟨gd,od,none⟩) nd cd,.agg #[int u64 k,int u64 r]] w (.bool false):=by
  obtain⟨X,hX⟩:∃X,X=((w.alloc (Obj.cells #[int u64 ax,int u64 ay,.bool ac] 34)).alloc (Obj.cells #[int u64 bx,int u64 by',.bool bc] 34)).alloc (Obj.cells #[int u64 k,int u64 r] 28):=⟨_,rfl⟩;have ra:R3 X w.heap.size ax ay ac:=by rw [hX];exact((R3.new _ ax ay ac).alloc _).alloc _
  have rp:P2 X 28 (w.heap.size+1+1) k r:=by rw [hX];exact(P2.new _ _ k r).at (by simp)
  have hb:Bl w X:=by rw [hX];exact((((Below.refl _ w).alloc (Nat.le_refl _) _).alloc (by simp) _).alloc (by simp;omega) _)
  rw [hX] at ra rp hb;clear hX;go_enter func9,ntmps9;go_wp2_with fail;refine(F _ hb).mono ?_;rintro e w1 ⟨s,x,y,c,a1,n1,k1,a2,n2,k2,rfl,b1⟩;have hal:=balc w1 (Obj.cells #[.string s,int u64 x,int u64 y,.bool c,.slice a1 n1 k1,.slice a2 n2 k2] 78);replace ra:=(ra.keep' b1).keep' hal;replace rp:=(rp.keep b1).keep hal;replace hb:=hb.tr b1;replace hb:=hb.tr hal;have c0:=ra.c0;have c1:=ra.c1;have c2:=ra.c2;clear F b1 hal;go_wp2_with fail;refine(FA _).mono ?_;rintro e w2 ⟨rfl,b2⟩;have hal:=balc w2 (Obj.cells #[int u64 fx,int u64 fy,.bool fc] 75);replace rp:=(rp.keep b2).keep hal;replace hb:=hb.tr b2;replace hb:=hb.tr hal;have d0:=rp.c0;clear FA b2 hal ra c0 c1 c2;go_wp2_with fail;refine(EK _).mono ?_;rintro e w3 ⟨rfl,b3⟩;have hal:=balc w3 (Obj.cells #[int u64 kk] 86);replace rp:=(rp.keep b3).keep hal;replace hb:=hb.tr b3;replace hb:=hb.tr hal;clear EK b3 hal d0;have d1:=rp.c1;go_wp2_with fail;refine(ER _).mono ?_;rintro e w4 ⟨rfl,b4⟩;have hal:=balc w4 (Obj.cells #[int u64 rr] 86);replace hb:=hb.tr b4;replace hb:=hb.tr hal;clear ER b4 hal d1
  cases ob with
  | false=>
    clear h;go_wp2;go_ret;exact⟨rfl,hb⟩
  | true=>
    cases oa with
    | false=>
      clear h;go_wp2;go_ret;exact⟨rfl,hb⟩
    | true=>
      cases ok with
      | false=>
        clear h;go_wp2;go_ret;exact⟨rfl,hb⟩
      | true=>
        obtain rfl:or'=false:=by simpa using h
        clear h;go_wp2;go_ret;exact⟨rfl,hb⟩
theorem chkI_of (P:World→Nat→Nat→Prop)(s:ByteArray)(gx gy:Int)(gz acc:Bool)(n:Nat)
    (F:∀w',Bl w w'→Calls prog 37 #[.int .i64 mode,.agg #[int u64 bx,int u64 by',.bool bc],.slice (some ⟨gc,oc,none⟩) nc cc,.slice (some ⟨gd,od,none⟩) nd cd] w' fun e w''=>∃g1 k1 g2 k2,e= .returned (.tuple #[.agg #[.string s,int u64 gx,int u64 gy,.bool gz,.slice (some ⟨g1,0,none⟩) n k1,.slice (some ⟨g2,0,none⟩) n k2],.bool true])∧P w'' g1 g2∧Bl w' w'')
    (hP:∀w1 w2 g1 g2,P w1 g1 g2→Bl w1 w2→P w2 g1 g2)
    (FA:Cc 38 #[.agg #[int u64 ax,int u64 ay,.bool ac]] (.tuple #[.agg #[int u64 fx,int u64 fy,.bool fc],.bool true]))
    (EK:Cc 39 #[int u64 k,.agg #[]] (.tuple #[.agg #[int u64 kk],.bool true]))
    (ER:Cc 39 #[int u64 r,.agg #[]] (.tuple #[.agg #[int u64 rr],.bool true]))
    (PV:∀w' g1 k1 g2 k2,Bl w w'→P w' g1 g2→Cr 40 #[.agg #[.string s,int u64 gx,int u64 gy,.bool gz,.slice (some ⟨g1,0,none⟩) n k1,.slice (some ⟨g2,0,none⟩) n k2],.agg #[int u64 fx,int u64 fy,.bool fc],.agg #[int u64 kk],.agg #[int u64 rr]] w' (.bool acc)):
    Cr 9 #[.int .i64 mode,.agg #[int u64 ax,int u64 ay,.bool ac],.agg #[int u64 bx,int u64 by',.bool bc],.slice (some ⟨gc,oc,none⟩) nc cc,.slice (some ⟨gd,od,none⟩) nd cd,.agg #[int u64 k,int u64 r]] w (.bool acc):=by
  obtain⟨X,hX⟩:∃X,X=((w.alloc (Obj.cells #[int u64 ax,int u64 ay,.bool ac] 34)).alloc (Obj.cells #[int u64 bx,int u64 by',.bool bc] 34)).alloc (Obj.cells #[int u64 k,int u64 r] 28):=⟨_,rfl⟩;have ra:R3 X w.heap.size ax ay ac:=by rw [hX];exact((R3.new _ ax ay ac).alloc _).alloc _
  have rp:P2 X 28 (w.heap.size+1+1) k r:=by rw [hX];exact(P2.new _ _ k r).at (by simp)
  have hb:Bl w X:=by rw [hX];exact((((Below.refl _ w).alloc (Nat.le_refl _) _).alloc (by simp) _).alloc (by simp;omega) _)
  rw [hX] at ra rp hb;clear hX;go_enter func9,ntmps9;go_wp2_with fail;refine(F _ hb).mono ?_;rintro e w1 ⟨g1,k1,g2,k2,rfl,p1,b1⟩;have hal:=balc w1 (Obj.cells #[.string s,int u64 gx,int u64 gy,.bool gz,.slice (some ⟨g1,0,none⟩) n k1,.slice (some ⟨g2,0,none⟩) n k2] 78);have r6:=B6.new w1 s gx gy gz (some ⟨g1,0,none⟩) n k1 (some ⟨g2,0,none⟩) n k2;replace ra:=(ra.keep' b1).keep' hal;replace rp:=(rp.keep b1).keep hal;replace p1:=hP _ _ _ _ p1 hal;replace hb:=hb.tr b1;replace hb:=hb.tr hal;have c0:=ra.c0;have c1:=ra.c1;have c2:=ra.c2;clear F b1 hal;go_wp2_with fail;refine(FA _).mono ?_;rintro e w2 ⟨rfl,b2⟩;have hal:=balc w2 (Obj.cells #[int u64 fx,int u64 fy,.bool fc] 75);have rf:=K3.new w2 75 fx fy fc;replace rp:=(rp.keep b2).keep hal;replace r6:=(r6.keep b2).keep hal;replace p1:=hP _ _ _ _ (hP _ _ _ _ p1 b2) hal;replace hb:=hb.tr b2;replace hb:=hb.tr hal;have d0:=rp.c0;clear FA b2 hal ra c0 c1 c2;go_wp2_with fail;refine(EK _).mono ?_;rintro e w3 ⟨rfl,b3⟩;have hal:=balc w3 (Obj.cells #[int u64 kk] 86);have rk:=RN.new w3 kk;replace rp:=(rp.keep b3).keep hal;replace r6:=(r6.keep b3).keep hal;replace rf:=(rf.keep b3).keep hal;replace p1:=hP _ _ _ _ (hP _ _ _ _ p1 b3) hal;replace hb:=hb.tr b3;replace hb:=hb.tr hal;clear EK b3 hal d0;have d1:=rp.c1;go_wp2_with fail;refine(ER _).mono ?_;rintro e w4 ⟨rfl,b4⟩;have hal:=balc w4 (Obj.cells #[int u64 rr] 86);replace r6:=(r6.keep b4).keep hal;replace rf:=(rf.keep b4).keep hal;replace rk:=(rk.keep b4).keep hal;replace p1:=hP _ _ _ _ (hP _ _ _ _ p1 b4) hal;replace hb:=hb.tr b4;replace hb:=hb.tr hal;clear ER b4 hal d1;have s0:=r6.c0;have s1:=r6.c1;have s2:=r6.c2;have s3:=r6.c3;have s4:=r6.c4;have s5:=r6.c5;have f0:=rf.c0;have f1:=rf.c1;have f2:=rf.c2;have k0:=rk.cell;go_wp2_with fail;refine(PV _ g1 k1 g2 k2 hb p1).mono ?_;rintro e w5 ⟨rfl,b5⟩;replace hb:=hb.tr b5;clear PV b5 s0 s1 s2 s3 s4 s5 f0 f1 f2 k0;go_wp2;go_ret;exact⟨rfl,hb⟩
end
theorem fbI_flag (mode:Int)(b:Tri)(cs ds:List Tri)(gc oc cc gd od cd:Nat)(w:World)(hc:Pts w gc oc cs)(hd:Pts w gd od ds):
    Calls prog 37 #[.int .i64 mode,triW b,.slice (some ⟨gc,oc,none⟩) cs.length cc,.slice (some ⟨gd,od,none⟩) ds.length cd] w fun e w'=>∃s x y c a1 n1 k1 a2 n2 k2,e= .returned (.tuple #[.agg #[.string s,int u64 x,int u64 y,.bool c,.slice a1 n1 k1,.slice a2 n2 k2],.bool (batB mode b b cs ds)])∧Bl w w':=by
  cases h:batB mode b b cs ds with
  |false=>exact fbI_no mode b cs ds gc oc cc gd od cd w hc hd h
  | true=>
    refine(fbI_yes mode b cs ds gc oc cc gd od cd w hc hd h).mono ?_;rintro e w' ⟨g1,k1,g2,k2,rfl,-,-,hb⟩;exact⟨_,_,_,_,_,_,_,_,_,_,rfl,hb⟩
theorem batB_ab (mode:Int)(a b:Tri)(cs ds:List Tri):batB mode a b cs ds=(batB mode b b cs ds&&onT a):=by
  rw [Bool.eq_iff_iff,Bool.and_eq_true,batB_iff,batB_iff];constructor
  · rintro⟨h1,h2,h3,h4⟩;exact⟨⟨h1,h3,h3,h4⟩,h2⟩
  · rintro⟨⟨h1,h3,-,h4⟩,h2⟩;exact⟨h1,h2,h3,h4⟩
theorem chkI_any (mode:Int)(a b:Tri)(cs ds:List Tri)(c s gc oc cc gd od cd:Nat)(w:World)(hT:TabK w)(hc:Pts w gc oc cs)(hd:Pts w gd od ds):
    Cr 9 #[.int .i64 mode,triW a,triW b,.slice (some ⟨gc,oc,none⟩) cs.length cc,.slice (some ⟨gd,od,none⟩) ds.length cd,.agg #[int u64 c,int u64 s]] w (.bool (chkB mode a b cs ds c s)):=by
  have hgw:7<w.heap.size:=World.block_lt_of_cell? w _ (hT 0 (by omega));by_cases h:batB mode a b cs ds=true∧c<2305843010818082053∧s<2305843010818082053
  · obtain⟨hB,hlc,hls⟩:=h;have hbb:=batB_b hB;have h':=hB;rw [batB_iff] at h';obtain⟨h1,h2,h3,h4,h5,-,-⟩:=h';obtain⟨md,rfl⟩:∃k:Nat,mode=(k:Int):=⟨mode.toNat,by omega⟩
    have e:chkB md a b cs ds c s=(((chkC md c s a b cs ds:Nat):Int)==(c:Int)):=by
      unfold chkB;rw [hB,decide_eq_true hlc,decide_eq_true hls,Int.toNat_natCast];rw [Bool.eq_iff_iff];simp;omega
    rw [e];have F:=fun w' hb=>fbI_yes md b cs ds gc oc cc gd od cd w' (hc.below (B:=w.heap.size) hb hc.lt) (hd.below (B:=w.heap.size) hb hd.lt) hbb
    rw [Int.toNat_natCast] at F;have FA:=fnd_tri a;rw [h2] at FA;refine chkI_of md _ _ _ _ c s _ _ c s _ _ _ gc oc cs.length cc gd od ds.length cd w (fun w' g1 g2=>Cps w' g1 (cs.map asT)∧Cps w' g2 (ds.map asT)) (ctxB md) (px (asT b)) (py (asT b)) (pb (asT b)) _ cs.length (fun w' hb=>(F w' hb).mono ?_) (fun w1 w2 g1 g2 hp hb=>⟨hp.1.keep hb,hp.2.keep hb⟩) FA (fun w=>exN_less c w (by omega)) (fun w=>exN_less s w (by omega)) (fun w' g1 k1 g2 k2 hb hp=> ?_)
    · rintro e w'' ⟨g1,k1,g2,k2,rfl,p1,p2,p3⟩;exact⟨g1,k1,g2,k2,rfl,⟨p1,p2⟩,p3⟩
    · exact accI_any md cs.length g1 k1 g2 k2 c s (asT a) (asT b) (cs.map asT) (ds.map asT) w' (keepT hT hgw hb) (by omega) h4.1 h4.2 (map_len _ _ _ rfl) (map_len _ _ _ h5.symm) (asT_on a) (asT_on b) (asT_list cs) (asT_list ds) hp.1 hp.2 hlc hls (comM md b cs ds cs) (comM md b cs ds ds) rfl rfl (chkC md c s a b cs ds) rfl
  · have e:chkB mode a b cs ds c s=false:=by
      cases hh:chkB mode a b cs ds c s with
      |false=>rfl
      | true=>
        unfold chkB at hh;simp only [Bool.and_eq_true,decide_eq_true_eq] at hh;exact absurd ⟨hh.1.1.1,hh.1.1.2,hh.1.2⟩ h
    rw [e];refine chkI_no mode _ _ _ _ c s _ _ _ _ _ _ _ (onT a) _ _ gc oc cs.length cc gd od ds.length cd w (batB mode b b cs ds) ?_ (fun w' hb=>fbI_flag mode b cs ds gc oc cc gd od cd w' (hc.below hb hc.lt) (hd.below hb hd.lt)) (fnd_tri a) (exN_any c) (exN_any s);rw [batB_ab] at h
    cases h1:batB mode b b cs ds with
    |false=>exact .inl rfl
    | true=>
      cases h2:onT a with
      |false=>exact .inr (.inl rfl)
      | true=>
        by_cases hk:c<2305843010818082053
        · exact .inr (.inr (.inr (decide_eq_false (fun hr=>h ⟨by rw [h1,h2];rfl,hk,hr⟩))))
        · exact .inr (.inr (.inl (decide_eq_false hk)))
theorem vfyW (a0:Option Addr)(l0 cap0:Nat)(w:World)(hv0:Cod w (.slice a0 l0 cap0))(h0:l0≤1048576)(hT:TabK w)(hs:∃s0 s1 s2 s3,Sn w s0 s1 s2 s3):
    Cr 5 #[.slice a0 l0 cap0] w (.bool true):=by
  obtain⟨s0,s1,s2,s3,hs⟩:=hs;have hgw:7<w.heap.size:=World.block_lt_of_cell? w _ (hT 0 (by omega));obtain⟨m,s,t,bl,pc,ps,es,t1,t2,tp,DF⟩:=dfin_uni _ w hv0
  refine fnVerified.walk_of a0 l0 cap0 es.length m (finC m s t bl es pc ps t1 t2 tp) bl pc ps _ _ _ _ _ _ _ _ _ s t (finO m s t bl es pc ps t1 t2 tp) (fun w q=>PtQ w q es) w (by omega) (fun h hb=>h.keep hb) DF
    (fun w' q cap hb hp=>finS_q m s t bl es pc ps t1 t2 tp q cap w' hp)
    (fun w' q cap hb hp=>finI_q m s t bl es pc ps t1 t2 tp q cap s0 s1 s2 s3 w' (keepT hT hgw hb) (hs.keep hb) hp) ?_
  by_cases hc:finC m s t bl es pc ps t1 t2 tp=1
  · exact .inl hc
  by_cases hm:m=0
  · exact .inr (.inl hm)
  have h:txtB m s.size t.size=true∧rdyB m bl es pc ps t1 t2 tp=true:=Classical.byContradiction fun h=>hc (if_neg h)
  have hC:finC m s t bl es pc ps t1 t2 tp=if verB m es pc ps t1 t2 tp=true then 0 else 4:=if_pos h
  obtain⟨hx,hr⟩:=h;obtain⟨⟨hm1,hm2⟩,-⟩:=txtB_iff.1 hx;obtain⟨-,-,hev,-⟩:=rdyB_iff.1 hr;obtain⟨te,rfl,-⟩:=evB_one hev;refine .inr (.inr ⟨verB m [te] pc ps t1 t2 tp,?_,?_⟩)
  · rw [hC];cases verB m [te] pc ps t1 t2 tp
    · exact .inr ⟨rfl,rfl⟩
    · exact .inl ⟨rfl,rfl⟩
  · rcases(show m=1∨m=2 by omega) with rfl|rfl
    · refine .inl ⟨rfl,fun w' g q cap hb hp hB=> ?_⟩;obtain⟨g2,rfl,hpt⟩:=hp.one;rw [show verB 1 [te] pc ps t1 t2 tp=chkB 1 gT tp [t1] [te] pc ps from if_pos rfl];have:=chkI_any 1 gT tp [t1] [te] pc ps g 0 1 g2 0 cap w' (keepT hT hgw hb) (Pts.one hB) hpt;rw [gT_W] at this;exact this
    · refine .inr ⟨rfl,fun w' g q cap hb hp hB=> ?_⟩;obtain⟨g2,rfl,hpt⟩:=hp.one;rw [show verB 2 [te] pc ps t1 t2 tp=chkB 2 gT t2 [te] [t1] pc ps from(if_neg (by decide)).trans (if_pos rfl)];have:=chkI_any 2 gT t2 [te] [t1] pc ps g2 0 cap g 0 1 w' (keepT hT hgw hb) hpt (Pts.one hB);rw [gT_W] at this;exact this
end
section
open Go.ChangeShapes Go.WideShapes Go.ChangeAt
theorem cellsU8:prog.cellsOf 5=1:=by kernel_rfl
theorem cod_of {H:Type}{enc:TypeId×Value→H}{W:World}{a0:Option Addr}{len cap:Nat}{d0:DataW H}{p:List MemPlace}
    (h0:DataW.Trod enc prog W 0 (fun _=>true) true 22 (.slice a0 len cap) d0 p)(hl:len≤1048576):Cod W (.slice a0 len cap):=by
  obtain⟨fuel,hf⟩:=h0;rcases open_ints underlying22 underlying5 cellsU8 hf with ⟨hcs,hx⟩|⟨a,len',cap',zs,hcs,_,hl',hm,hz,hx,hcell,hwz⟩
  · simp [Value.cells] at hcs;obtain⟨rfl,rfl,rfl⟩:=hcs;exact .inl ⟨_,_,rfl⟩
  · simp [Value.cells] at hcs;obtain⟨rfl,rfl,rfl⟩:=hcs;simp only [if_true] at hz;by_cases h1:len=0
    · subst h1;exact .inl ⟨_,_,rfl⟩
    · have hsp:a.spot=none:=by
        have:=hcell 0 (by omega);simp only [Addr.add,if_true] at this;unfold World.cell? at this;split at this
        · split at this
          · cases this
          · rename_i h;simpa using h
        · cases this
      obtain⟨b,o,sp⟩:=a;obtain rfl:sp=none:=hsp;refine .inr ⟨b,o,len,cap,by omega,hl,rfl,fun i hi=> ?_⟩;have hc:=hcell i (by omega);have ha:(⟨b,o,none⟩:Addr).add i=⟨b,o+i,none⟩:=by unfold Addr.add;split<;>simp_all
      rw [ha] at hc;have hw:=hwz (zs.getD i 0) (by rw [List.getD_eq_getElem?_getD,List.getElem?_eq_getElem (by omega)];exact List.getElem_mem _);have h2:0≤zs.getD i 0∧zs.getD i 0≤255:=by simpa [Lit.wf,IntKind.min,IntKind.max,IntKind.signed,IntKind.bits] using hw
      exact⟨(zs.getD i 0).toNat,by omega,by rw [hc];congr 2;omega⟩
end
end Go.Proofs.YtmjniccfjffclaaGreatDoor
