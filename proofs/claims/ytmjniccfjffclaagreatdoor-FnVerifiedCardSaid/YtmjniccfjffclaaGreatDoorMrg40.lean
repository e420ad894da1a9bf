import Derived.Test.YtmjniccfjffclaaGreatDoorMrg28
set_option linter.unusedVariables false
set_option maxRecDepth 100000
set_option maxHeartbeats 16000000
namespace Go.Proofs.YtmjniccfjffclaaGreatDoor
open Go.Proofs.Tryz Go.RowKit
open Go.Value (int)
open Go.IntKind (u64)
section
open M
section
variable (mode ax ay bx by':Int)(ac bc oa ob:Bool)(gc oc nc cc gd od nd cd:Nat)(w:World)
theorem batS_no (M:∀w,Calls prog 63 #[.int .i64 mode] w fun e w'=>e= .returned (.bool (decide (0≤mode∧mode≤2)))∧w=w')
    (OA:Cc 48 #[.agg #[int u64 ax,int u64 ay,.bool ac]] (.bool oa))
    (OB:Cc 48 #[.agg #[int u64 bx,int u64 by',.bool bc]] (.bool ob))
    (h: ¬ ((0≤mode∧mode≤2)∧oa=true∧ob=true∧(1≤nc∧nc≤200)∧nc=nd)):
    Cr 65 #[.int .i64 mode,.agg #[int u64 ax,int u64 ay,.bool ac],.agg #[int u64 bx,int u64 by',.bool bc],.slice (some ⟨gc,oc,none⟩) nc cc,.slice (some ⟨gd,od,none⟩) nd cd] w (.bool false):=by
  have hb0:Bl w ((w.alloc (Obj.cells #[int u64 ax,int u64 ay,.bool ac] 34)).alloc (Obj.cells #[int u64 bx,int u64 by',.bool bc] 34)):=((Below.refl _ w).alloc (Nat.le_refl _) _).alloc (by simp) _;have rb:R3 ((w.alloc (Obj.cells #[int u64 ax,int u64 ay,.bool ac] 34)).alloc (Obj.cells #[int u64 bx,int u64 by',.bool bc] 34)) (w.heap.size+1) bx by' bc:=(R3.new _ bx by' bc).at (by simp)
  by_cases hm:0≤mode∧mode≤2
  · rw [decide_eq_true hm] at M
    cases oa with
    | false=>
      clear OB h;go_enter func65,ntmps65;go_wp2_with fail;refine(M _).mono ?_;rintro e w1 ⟨rfl,rfl⟩;go_wp2_with fail;refine(OA _).mono ?_;rintro e w2 ⟨rfl,b2⟩;replace hb0:=hb0.tr b2;go_wp2;go_ret;exact⟨rfl,hb0⟩
    | true=>
      go_enter func65,ntmps65;go_wp2_with fail;refine(M _).mono ?_;rintro e w1 ⟨rfl,rfl⟩;go_wp2_with fail;refine(OA _).mono ?_;rintro e w2 ⟨rfl,b2⟩;replace rb:=rb.below b2 rb.lt;replace hb0:=hb0.tr b2;have c0:=rb.c0;have c1:=rb.c1;have c2:=rb.c2;clear rb M OA b2;go_wp2_with fail;refine(OB _).mono ?_;rintro e w3 ⟨rfl,b3⟩;replace hb0:=hb0.tr b3;clear OB c0 c1 c2 b3
      cases ob with
      | false=>
        go_wp2;go_ret;exact⟨rfl,hb0⟩
      | true=>
        by_cases h1:nc<1
        · have g1:(nc:Int)<1:=by omega
          go_wp2;go_ret;exact⟨rfl,hb0⟩
        · have g1: ¬ (nc:Int)<1:=by omega
          by_cases h2:200<nc
          · have g2:(200:Int)<(nc:Int):=by omega
            go_wp2;go_ret;exact⟨rfl,hb0⟩
          · have g2: ¬ (200:Int)<(nc:Int):=by omega
            have g3:((nc:Int) !=(nd:Int))=true:=by
              simp only [bne_iff_ne,ne_eq];intro e;exact h ⟨hm,by trivial,by trivial,⟨by omega,by omega⟩,by omega⟩
            go_wp2;go_ret;exact⟨rfl,hb0⟩
  · rw [decide_eq_false hm] at M;clear OA OB h;go_enter func65,ntmps65;go_wp2_with fail;refine(M _).mono ?_;rintro e w1 ⟨rfl,rfl⟩;go_wp2;go_ret;exact⟨rfl,hb0⟩
theorem batS_pts (cs ds:List Tri)(hlc:cs.length=nc)(hld:ds.length=nc)(h1:1≤nc)(h2:nc≤200)(hc:Pts w gc oc cs)(hd:Pts w gd od ds)
    (M:∀w,Calls prog 63 #[.int .i64 mode] w fun e w'=>e= .returned (.bool true)∧w=w')
    (OA:Cc 48 #[.agg #[int u64 ax,int u64 ay,.bool ac]] (.bool true))
    (OB:Cc 48 #[.agg #[int u64 bx,int u64 by',.bool bc]] (.bool true)):
    Cr 65 #[.int .i64 mode,.agg #[int u64 ax,int u64 ay,.bool ac],.agg #[int u64 bx,int u64 by',.bool bc],.slice (some ⟨gc,oc,none⟩) nc cc,.slice (some ⟨gd,od,none⟩) nc cd] w (.bool (cs.all onT&&ds.all onT)):=by
  obtain⟨R,hR⟩:∃R,Hid (R=(cs.all onT&&ds.all onT)):=⟨_,rfl⟩;rw [←hR.out];have hb0:Bl w ((w.alloc (Obj.cells #[int u64 ax,int u64 ay,.bool ac] 34)).alloc (Obj.cells #[int u64 bx,int u64 by',.bool bc] 34)):=((Below.refl _ w).alloc (Nat.le_refl _) _).alloc (by simp) _;have rb:R3 ((w.alloc (Obj.cells #[int u64 ax,int u64 ay,.bool ac] 34)).alloc (Obj.cells #[int u64 bx,int u64 by',.bool bc] 34)) (w.heap.size+1) bx by' bc:=(R3.new _ bx by' bc).at (by simp)
  have g1: ¬ (nc:Int)<1:=by omega
  have g2: ¬ (200:Int)<(nc:Int):=by omega
  go_enter func65,ntmps65;go_wp2_with fail;refine(M _).mono ?_;rintro e w1 ⟨rfl,rfl⟩;go_wp2_with fail;refine(OA _).mono ?_;rintro e w2 ⟨rfl,b2⟩;replace rb:=rb.below b2 rb.lt;replace hb0:=hb0.tr b2;have c0:=rb.c0;have c1:=rb.c1;have c2:=rb.c2;clear rb M OA b2;go_wp2_with fail;refine(OB _).mono ?_;rintro e w3 ⟨rfl,b3⟩;replace hb0:=hb0.tr b3;clear OB c0 c1 c2 b3;go_wp2
  go_loopw [11] (fun iv wr=>∃k:Nat,k≤nc∧iv= .int .i64 (k:Int)∧Hid (∀i,i<k→(∃t,cs[i]? =some t∧onT t=true)∧(∃t,ds[i]? =some t∧onT t=true))∧Bl w wr) (fun i _=>nc-(intOf i).toNat)
  case atStart=>exact ⟨0,by omega,rfl,fun i hi=>by omega,hb0⟩
  case round=>
    clear hb0;obtain⟨k,hk,rfl,hall,hbl⟩:=hrel;by_cases hlt:k<nc
    · have hli:(k:Int)<(nc:Int):=by omega
      obtain⟨t,ht⟩:∃t,cs[k]? =some t:=⟨_,List.getElem?_eq_getElem (by omega)⟩;obtain⟨u,hu⟩:∃u,ds[k]? =some u:=⟨_,List.getElem?_eq_getElem (by omega)⟩;have pc:=hc.below hbl hc.lt;have pd:=hd.below hbl hd.lt;have c0:=pc.c0 k t ht;have c1:=pc.c1 k t ht;have c2:=pc.c2 k t ht;have OT:=onS_tri t;have OU:=onS_tri u;have hmt:t∈cs:=List.mem_of_getElem? ht;have hmu:u∈ds:=List.mem_of_getElem? hu
      have hRt:Hid (onT t=false→R=false):=fun h=>by
        rw [hR.out];have:cs.all onT=false:=List.all_eq_false.2 ⟨t,hmt,by rw [h];decide⟩;rw [this];rfl
      have hRu:Hid (onT u=false→R=false):=fun h=>by
        rw [hR.out];have:ds.all onT=false:=List.all_eq_false.2 ⟨u,hmu,by rw [h];decide⟩;rw [this,Bool.and_false]
      have hnx:Hid (onT t=true→onT u=true→∀i,i<k+1→(∃t,cs[i]? =some t∧onT t=true)∧(∃t,ds[i]? =some t∧onT t=true)):=fun h h' i hi=>by
        by_cases hik:i=k
        · subst hik;exact⟨⟨t,ht,h⟩,⟨u,hu,h'⟩⟩
        · exact hall.out i (by omega)
      obtain⟨tx,ty,tc⟩:=t;obtain⟨ux,uy,uc⟩:=u;dsimp only at c0 c1 c2 OT OU;clear ht hmt hmu hall;generalize onT (tx,ty,tc)=ot at*;generalize onT (ux,uy,uc)=ou at*;have hu0:=hu;clear hu
      have d0:Hid (∀W',Bl wr W'→W'.cell? ⟨gd,od+k*3,none⟩=some (int u64 (ux:Int))∧W'.cell? ⟨gd,od+k*3+1,none⟩=some (int u64 (uy:Int))∧W'.cell? ⟨gd,od+k*3+2,none⟩=some (.bool uc)):=fun W' hb=>by
        have hu':=hu0;have q:=pd.keep hb;exact⟨q.c0 k _ hu',q.c1 k _ hu',q.c2 k _ hu'⟩
      clear pc pd hu0;go_wp2_with fail;refine(OT _).mono ?_;rintro e w4 ⟨rfl,b4⟩;obtain⟨e0,e1,e2⟩:=d0.out w4 b4;have hb4:=hbl.tr b4;clear OT d0 c0 c1 c2 b4
      cases ot with
      | false=>
        have hr:=hRt.out (by trivial);subst hr;go_wp2;go_ret;exact⟨rfl,hb4⟩
      | true=>
        go_wp2_with fail;refine(OU _).mono ?_;rintro e w5 ⟨rfl,b5⟩;have hb5:=hb4.tr b5;clear OU e0 e1 e2 b5
        cases ou with
        | false=>
          have hr:=hRu.out (by trivial);subst hr;go_wp2;go_ret;exact⟨rfl,hb5⟩
        | true=>
          have hn2:Hid (∀i,i<k+1→(∃t,cs[i]? =some t∧onT t=true)∧(∃t,ds[i]? =some t∧onT t=true)):=hnx.out (by trivial) (by trivial);clear hnx hRt hRu;go_wp2;go_roundw
          case rel=>
            first
              |exact ⟨k+1,by omega,by go_num,hn2,hb5⟩
              |((repeat apply Exists.intro);exact⟨⟨k+1,by omega,by go_num,hn2,hb5⟩,rfl⟩)
          case measure=>simp [intOf];omega
    · obtain rfl:k=nc:=by omega
      have hr:R=true:=by
        rw [hR.out,Bool.and_eq_true,List.all_eq_true,List.all_eq_true];constructor
        · intro t ht;obtain⟨i,hi⟩:=List.getElem?_of_mem ht;obtain⟨t',h',h''⟩:=(hall.out i (by have:=(List.getElem?_eq_some_iff.1 hi).1;omega)).1;rw [hi] at h';cases h';exact h''
        · intro t ht;obtain⟨i,hi⟩:=List.getElem?_of_mem ht;obtain⟨t',h',h''⟩:=(hall.out i (by have:=(List.getElem?_eq_some_iff.1 hi).1;omega)).2;rw [hi] at h';cases h';exact h''
      subst hr;clear hall hR;go_wp2;go_ret;exact⟨rfl,hbl⟩
end
theorem batS_any (mode:Int)(a b:Tri)(cs ds:List Tri)(gc oc cc gd od cd:Nat)(w:World)(hc:Pts w gc oc cs)(hd:Pts w gd od ds):
    Cr 65 #[.int .i64 mode,triW a,triW b,.slice (some ⟨gc,oc,none⟩) cs.length cc,.slice (some ⟨gd,od,none⟩) ds.length cd] w (.bool (batB mode a b cs ds)):=by
  by_cases h:(0≤mode∧mode≤2)∧onT a=true∧onT b=true∧(1≤cs.length∧cs.length≤200)∧cs.length=ds.length
  · have e:batB mode a b cs ds=(cs.all onT&&ds.all onT):=by
      unfold batB;obtain⟨h1,h2,h3,h4,h5⟩:=h;rw [decide_eq_true h1,h2,h3,decide_eq_true h4,decide_eq_true h5];rfl
    obtain⟨h1,h2,h3,h4,h5⟩:=h;rw [e,←h5];exact batS_pts mode _ _ _ _ _ _ gc oc cs.length cc gd od cd w cs ds rfl h5.symm h4.1 h4.2 hc hd (fun w=>modS_yes mode w h1.1 h1.2) (fun w=>h2▸onS_tri a w) (fun w=>h3▸onS_tri b w)
  · have e:batB mode a b cs ds=false:=by
      cases hh:batB mode a b cs ds with
      |false=>rfl
      | true=>
        rw [batB_iff] at hh;obtain⟨h1,h2,h3,h4,h5,-,-⟩:=hh;exact absurd ⟨h1,h2,h3,h4,h5⟩ h
    rw [e];refine batS_no mode _ _ _ _ _ _ (onT a) (onT b) gc oc cs.length cc gd od ds.length cd w (fun w=> ?_) (fun w=>onS_tri a w) (fun w=>onS_tri b w) h;by_cases hm:0≤mode∧mode≤2
    · rw [decide_eq_true hm];exact modS_yes mode w hm.1 hm.2
    · rw [decide_eq_false hm];exact modS_no mode w hm
theorem does_append {w:World}{o:Oper}{a:Act}(s x:Operand)(t:TypeId)(ho:o.op= .call {callee:= .builtin .append,args:=#[s,x],argTypes:=#[t,t]})
    (base:Nat)(e:TypeId)(i:TypeInfo)(z:Value)(bytes:Nat)(ht:prog.underlying t=some (.slice e))(hi:prog.info? e=some i)(hz:i.zero=some z)
    (hsize:i.size=1)(hby:i.bytes=bytes)(hzs:z.cells.size=1)
    (g n cap:Nat)(xs:List Value)(hs:a.eval s= .slice (some ⟨g,0,none⟩) n cap)(hown:Row w base g n cap xs)
    (ad:Addr)(m c:Nat)(news:List Value)(hx:a.eval x= .slice (some ad) m c)(hl:news.length=m)(hnews:∀j u,news[j]? =some u→w.cell? (ad.add j)=some u)(h1:∀u∈news,u.oneCell'=true)
    (h63:n+m≤maxLen)(hbytes:(n+m)*bytes≤140737488355328)(hbase:base≤w.heap.size):
    Does prog o a w fun v w'=>∃g' cap',v= .slice (some ⟨g',0,none⟩) (n+m) cap'∧Row w' base g' (n+m) cap' (xs++news)∧w.grownBy w' (some g):=
  fun Q K hK=>wp_append_row s x t ho base e i z bytes ht hi hz hsize hby hzs g n cap xs hs hown ad m c news hx hl hnews h1 h63 hbytes hbase w.heap.size rfl
    fun g' cap' w' h2 h3 _ _=>hK _ _ ⟨g',cap',rfl,h2,h3⟩
theorem puS_tri (t:Tri)(w:World):Cr 95 #[.agg #[int u64 (t.1:Int),int u64 (t.2.1:Int),.bool t.2.2]] w (.string (ptB (asT t))):=putS_any t.1 t.2.1 t.2.2 w
theorem infoW5:(prog.info? 23).map (fun i=>(i.zero,i.size,i.bytes))=some (some (int u64 0),1,8):=by kernel_rfl
theorem wgtS_any (k:Nat)(b:Tri)(cs ds:List Tri)(n gc oc cc gd od cd:Nat)(w:World)(hk:k<3)(hlc:cs.length=n)(hld:ds.length=n)(hn:n≤200)(hc:Pts w gc oc cs)(hd:Pts w gd od ds):
    Calls prog 67 #[.int .i64 k,.agg #[int u64 (b.1:Int),int u64 (b.2.1:Int),.bool b.2.2],.slice (some ⟨gc,oc,none⟩) n cc,.slice (some ⟨gd,od,none⟩) n cd] w fun e w'=>∃g cap,e= .returned (.slice (some ⟨g,0,none⟩) n cap)∧Row w' w.heap.size g n cap ((wgts k (asT b) (cs.map asT) (ds.map asT) n).map (Value.int .u64))∧Bl w w':=by
  obtain⟨i0,hi,hz0,hz1,hz2⟩:=info_parts infoW5;obtain⟨WS,hWS⟩:∃WS,Hid (WS=wgts k (asT b) (cs.map asT) (ds.map asT)):=⟨_,rfl⟩;rw [←hWS.out];have hPb:=puS_tri b;have hZb:=fun w=>sizS_any (ptB (asT b)) w (by rw [ptB_size];omega)
  have hTg:=fun w=>tagS_any ⟨#[83,101,101,100,45]⟩ k w hk (by decide)
  have hzt:=seedT_size k hk;have hZt:=fun w=>sizS_any (seedT k) w (by omega)
  have hSh:=fun w=>shaS_any (seedM k (asT b)) w (by unfold seedM;rw [ByteArray.size_append,sizB_size,sizB_size,ptB_size];omega)
  have hss:(seedB k (asT b)).size=32:=by unfold seedB;rw [strOfNums_size,shaF_length]
  have hZs:=fun w=>sizS_any (seedB k (asT b)) w (by omega)
  have q0:(sizB (ptB (asT b))).size+(sizB (seedT k)).size≤9223372036854775807:=by rw [sizB_size,sizB_size,ptB_size];omega
  change∀w,Calls _ _ _ _ (fun e w'=>e= .returned (.string (seedT k))∧_) at hTg;change∀w,Calls _ _ #[.string (sizB (ptB (asT b))++sizB (seedT k))] _ (fun e w'=>e= .returned (.string (seedB k (asT b)))∧_) at hSh
  have hgw:Hid (∀i,i<n→∃t u,cs[i]? =some t∧ds[i]? =some u∧WS (i+1)=WS i++ [((scaN (sizB (seedB k (asT b))++numB i++sizB (ptB (asT t))++sizB (ptB (asT u))++compB) k:Nat):Int)]):=fun i hi=>by
    obtain⟨t,ht⟩:∃t,cs[i]? =some t:=⟨_,List.getElem?_eq_getElem (by omega)⟩;obtain⟨u,hu⟩:∃u,ds[i]? =some u:=⟨_,List.getElem?_eq_getElem (by omega)⟩;refine⟨t,u,ht,hu,?_⟩;rw [hWS.out,wgts_succ];have e1:(cs.map asT).getD i none=asT t:=by rw [List.getD_eq_getElem?_getD,List.getElem?_map,ht];rfl
    have e2:(ds.map asT).getD i none=asT u:=by rw [List.getD_eq_getElem?_getD,List.getElem?_map,hu];rfl
    rw [e1,e2];rfl
  have hW0:WS 0= []:=by rw [hWS.out];rfl
  clear hWS;generalize seedB k (asT b)=SD at*;generalize seedT k=ST at*;have hr5:=R3.new w b.1 b.2.1 b.2.2;have hb5:=balc w (Obj.cells #[int u64 (b.1:Int),int u64 (b.2.1:Int),.bool b.2.2] 34);go_enter func67,ntmps67;go_wp2_with fail;refine(hPb _).mono ?_;rintro e w1 ⟨rfl,b1⟩;replace hb5:=hb5.tr b1;go_wp2_with fail;refine(hZb _).mono ?_;rintro e w2 ⟨rfl,b2⟩;replace hb5:=hb5.tr b2;go_wp2_with fail;refine(hTg _).mono ?_;rintro e w3 ⟨rfl,b3⟩;replace hb5:=hb5.tr b3;go_wp2_with fail;refine(hZt _).mono ?_;rintro e w4 ⟨rfl,b4⟩;replace hb5:=hb5.tr b4;go_wp2_with fail;refine(hSh _).mono ?_;rintro e w5 ⟨rfl,b5⟩;replace hb5:=hb5.tr b5;clear hPb hZb hTg hZt hSh b1 b2 b3 b4 b5 hr5 q0
  have hr0:Row (w5.alloc (.cells #[] 23)) w.heap.size w5.heap.size 0 0 ((WS 0).map (Value.int .u64)):=by
    rw [hW0];exact Row.of_block (n:=0) (cs:=#[]) (heap_alloc_new w5 _) hb5.size (by simp) (by simp)
  have hb6:=hb5.alloc hb5.size (Obj.cells #[] 23);clear hb5 hW0;go_wp2
  go_loopw [10,11] (fun ov iv wr=>∃j g cap:Nat,j≤n∧iv= .int .i64 (j:Int)∧ov= .slice (some ⟨g,0,none⟩) j cap∧Row wr w.heap.size g j cap ((WS j).map (Value.int .u64))∧Bl w wr) (fun _ i _=>n-(intOf i).toNat)
  case atStart=>exact ⟨0,w5.heap.size,0,by omega,rfl,rfl,hr0,hb6⟩
  case round=>
    clear hr0 hb6;obtain⟨j,g,cap,hj,rfl,rfl,hrow,hbl⟩:=hrel;have hsz:=hbl.size;by_cases hlt:j<n
    · have hli:(j:Int)<(n:Int):=by omega
      obtain⟨t,u,ht,hu,hnx⟩:=hgw.out j hlt;have hcv:=conv2 wr 0 (j:Int);have hn0:(0:Int)=((j/256%256:Nat):Int):=by omega
      have hn1:(j:Int)=((j%256:Nat):Int):=by omega
      have hnum:strOfNums [0,(j:Int)]=numB j:=by unfold numB;rw [←hn0,←hn1]
      clear hn0 hn1;rw [hnum] at hcv;have e1:(j:Int).tdiv 256=0:=Int.tdiv_eq_zero_of_lt (by omega) (by omega);have e2:IntKind.u8.wrap (j:Int)=(j:Int):=u8_in _ (by omega) (by omega);have pc:=(hc.below hbl hc.lt).alloc (Obj.cells #[.int .u8 0,.int .u8 (j:Int)] 5)|>.drew;have pd:=(hd.below hbl hd.lt).alloc (Obj.cells #[.int .u8 0,.int .u8 (j:Int)] 5)|>.drew;have c0:=pc.c0 j t ht;have c1:=pc.c1 j t ht;have c2:=pc.c2 j t ht;have d0:=pd.c0 j u hu;have d1:=pd.c1 j u hu;have d2:=pd.c2 j u hu;have PT:=puS_tri t;have PU:=puS_tri u;have ZT:=fun w=>sizS_any (ptB (asT t)) w (by rw [ptB_size];omega)
      have ZU:=fun w=>sizS_any (ptB (asT u)) w (by rw [ptB_size];omega)
      have SC:=fun w=>scaS_any (sizB SD++numB j++sizB (ptB (asT t))++sizB (ptB (asT u))++compB) k w hk (by
        simp only [ByteArray.size_append,sizB_size,numB_size,ptB_size,hss]
        rw [show compB.size=9 from rfl];omega)
      have q1:(sizB SD).size+(numB j).size≤9223372036854775807:=by rw [sizB_size,numB_size];omega
      have q2:(sizB SD++numB j).size+(sizB (ptB (asT t))).size≤9223372036854775807:=by simp only [ByteArray.size_append,sizB_size,numB_size,ptB_size];omega
      have q3:(sizB SD++numB j++sizB (ptB (asT t))).size+(sizB (ptB (asT u))).size≤9223372036854775807:=by simp only [ByteArray.size_append,sizB_size,numB_size,ptB_size];omega
      have q4:(sizB SD++numB j++sizB (ptB (asT t))++sizB (ptB (asT u))).size+compB.size≤9223372036854775807:=by
        simp only [ByteArray.size_append,sizB_size,numB_size,ptB_size];rw [show compB.size=9 from rfl];omega
      obtain⟨tx,ty,tc⟩:=t;obtain⟨ux,uy,uc⟩:=u;dsimp only at c0 c1 c2 d0 d1 d2 PT PU;clear ht hu pc pd;generalize hz:((scaN (sizB SD++numB j++sizB (ptB (asT (tx,ty,tc)))++sizB (ptB (asT (ux,uy,uc)))++compB) k:Nat):Int)=z at*;clear hz;generalize sizB (ptB (asT (tx,ty,tc)))=BT at*;generalize sizB (ptB (asT (ux,uy,uc)))=BU at*;generalize ptB (asT (tx,ty,tc))=PTB at*;generalize ptB (asT (ux,uy,uc))=PUB at*;generalize hNU:numB j=NU at*;generalize hSB:sizB SD=SB at*;clear hNU hSB;go_wp2;have hrow2:=hrow.alloc (Obj.cells #[.int .u8 0,.int .u8 (j:Int)] 5);have hb2:=hbl.alloc hsz (Obj.cells #[.int .u8 0,.int .u8 (j:Int)] 5);have hs2:=hb2.size;generalize wr.alloc (Obj.cells #[.int .u8 0,.int .u8 (j:Int)] 5)=W2 at*;clear hcv hrow hbl hsz
      refine pool_prT 23 [.val (.slice (some ⟨g,0,none⟩) j cap),
          .val (.string SD),
          .val (.string SB),
          .val (.string NU),
          .val (.string (SB++NU)),
          .val (.slice (some ⟨gc,oc,none⟩) n cc),
          .val (.int .i64 (j:Int)),
          .val (.pointer (some ⟨gc,oc+j*3,none⟩)),
          .val (.agg #[int u64 (tx:Int),int u64 (ty:Int),.bool tc]),
          .val (.string PTB),
          .val (.string BT),
          .val (.string (SB++NU++BT)),
          .val (.slice (some ⟨gd,od,none⟩) n cd),
          .val (.int .i64 (j:Int)),
          .val (.pointer (some ⟨gd,od+j*3,none⟩)),
          .val (.agg #[int u64 (ux:Int),int u64 (uy:Int),.bool uc]),
          .val (.string PUB),
          .val (.string BU),
          .val (.string (SB++NU++BT++BU)),
          .val (.string (SB++NU++BT++BU++compB)),
          .val (.int .i64 (k:Int)),
          .val (int u64 z),
          .new (.cells #[int u64 z] 23) (.cells #[int u64 z] 23) 1001] [[10],[9],[36],[12],[37,38],[2],[11],[40,41],[42],[43],[44],[39,45],[3],[11],[47,48],[49],[50],[51],[46,52],[53],[0],[54,55],[56]] (fun f=> [(some 35,.slice (some ⟨g,0,none⟩) j cap),(some 36,.string SD),(some 37,.string SB),(some 38,.string NU),(some 39,.string (SB++NU)),(some 40,.slice (some ⟨gc,oc,none⟩) n cc),(some 41,.int .i64 (j:Int)),(some 42,.pointer (some ⟨gc,oc+j*3,none⟩)),(some 43,.agg #[int u64 (tx:Int),int u64 (ty:Int),.bool tc]),(some 44,.string PTB),(some 45,.string BT),(some 46,.string (SB++NU++BT)),(some 47,.slice (some ⟨gd,od,none⟩) n cd),(some 48,.int .i64 (j:Int)),(some 49,.pointer (some ⟨gd,od+j*3,none⟩)),(some 50,.agg #[int u64 (ux:Int),int u64 (uy:Int),.bool uc]),(some 51,.string PUB),(some 52,.string BU),(some 53,.string (SB++NU++BT++BU)),(some 54,.string (SB++NU++BT++BU++compB)),(some 55,.int .i64 (k:Int)),(some 56,int u64 z),(some 57,.slice (some ⟨f 22,0,none⟩) 1 1)]) (by kernel_rfl) (by kernel_rfl) (by kernel_rfl) (by kernel_rfl) (by decide) (by kernel_rfl) (fun _=>by kernel_rfl) ?_ ?_
      · intro ix hix
        match ix,hix with
        |0,_=>exact obv [(10,.slice (some ⟨g,0,none⟩) j cap)] rfl rfl (fun A w ⟨e0,_⟩ hB=>doV_move e0)
        |1,_=>exact obv [(9,.string SD)] rfl rfl (fun A w ⟨e0,_⟩ hB=>doV_move e0)
        |2,_=>exact obv [(36,.string SD)] rfl rfl (fun A w ⟨e0,_⟩ hB=>cl1 cf_spec_l5Sized e0 (hZs w))
        |3,_=>exact obv [(12,.string NU)] rfl rfl (fun A w ⟨e0,_⟩ hB=>doV_move e0)
        |4,_=>exact obv [(37,.string SB),(38,.string NU)] rfl rfl (fun A w ⟨e0,e1,_⟩ hB=>doS_cat e0 e1 q1)
        |5,_=>exact obv [(2,.slice (some ⟨gc,oc,none⟩) n cc)] rfl rfl (fun A w ⟨e0,_⟩ hB=>doV_move e0)
        |6,_=>exact obv [(11,.int .i64 (j:Int))] rfl rfl (fun A w ⟨e0,_⟩ hB=>doV_move e0)
        |7,_=>exact obv [(40,.slice (some ⟨gc,oc,none⟩) n cc),(41,.int .i64 (j:Int))] rfl rfl (fun A w ⟨e0,e1,_⟩ hB=>ix_pts e0 e1 (by omega))
        |8,_=>exact obv [(42,.pointer (some ⟨gc,oc+j*3,none⟩))] rfl rfl (fun A w ⟨e0,_⟩ hB=>ld_pt e0 (keepC c0 hB) (keepC c1 hB) (keepC c2 hB))
        |9,_=>exact obv [(43,.agg #[int u64 (tx:Int),int u64 (ty:Int),.bool tc])] rfl rfl (fun A w ⟨e0,_⟩ hB=>cl1 cf_spec_PutPoint e0 (PT w))
        |10,_=>exact obv [(44,.string PTB)] rfl rfl (fun A w ⟨e0,_⟩ hB=>cl1 cf_spec_l5Sized e0 (ZT w))
        |11,_=>exact obv [(39,.string (SB++NU)),(45,.string BT)] rfl rfl (fun A w ⟨e0,e1,_⟩ hB=>doS_cat e0 e1 q2)
        |12,_=>exact obv [(3,.slice (some ⟨gd,od,none⟩) n cd)] rfl rfl (fun A w ⟨e0,_⟩ hB=>doV_move e0)
        |13,_=>exact obv [(11,.int .i64 (j:Int))] rfl rfl (fun A w ⟨e0,_⟩ hB=>doV_move e0)
        |14,_=>exact obv [(47,.slice (some ⟨gd,od,none⟩) n cd),(48,.int .i64 (j:Int))] rfl rfl (fun A w ⟨e0,e1,_⟩ hB=>ix_pts e0 e1 (by omega))
        |15,_=>exact obv [(49,.pointer (some ⟨gd,od+j*3,none⟩))] rfl rfl (fun A w ⟨e0,_⟩ hB=>ld_pt e0 (keepC d0 hB) (keepC d1 hB) (keepC d2 hB))
        |16,_=>exact obv [(50,.agg #[int u64 (ux:Int),int u64 (uy:Int),.bool uc])] rfl rfl (fun A w ⟨e0,_⟩ hB=>cl1 cf_spec_PutPoint e0 (PU w))
        |17,_=>exact obv [(51,.string PUB)] rfl rfl (fun A w ⟨e0,_⟩ hB=>cl1 cf_spec_l5Sized e0 (ZU w))
        |18,_=>exact obv [(46,.string (SB++NU++BT)),(52,.string BU)] rfl rfl (fun A w ⟨e0,e1,_⟩ hB=>doS_cat e0 e1 q3)
        |19,_=>exact obv [(53,.string (SB++NU++BT++BU))] rfl rfl (fun A w ⟨e0,_⟩ hB=>doS_cat e0 rfl q4)
        |20,_=>exact obv [(0,.int .i64 (k:Int))] rfl rfl (fun A w ⟨e0,_⟩ hB=>doV_move e0)
        |21,_=>exact obv [(54,.string (SB++NU++BT++BU++compB)),(55,.int .i64 (k:Int))] rfl rfl (fun A w ⟨e0,e1,_⟩ hB=>cl2 cf_spec_l5Scalar e0 e1 (SC w))
        |22,_=>exact ob_slc 1 [(56,int u64 z)] rfl rfl (fun _=>by kernel_rfl) (fun A w ⟨e0,_⟩=>sl_u64s1 e0)
        |ix+23,h=>exact absurd h (by simp)
      intro f W3 hb3 hnew fuel hfuel;have hrow3:=hrow2.drew.below hb3 hrow2.hi;have hb4:=hb2.drew.trans (hb3.mono hb2.size);have hs4:=hb4.size;have hcell:=(hnew 22 _ _ _ rfl (by decide)).2;simp only [puts,List.foldl,Act.put,List.setIfInBounds_toArray,List.set_cons_zero,List.set_cons_succ]
      refine last_do2 23 24 hfuel (by kernel_rfl) (by kernel_rfl) (by kernel_rfl) rfl rfl rfl rfl
        (does_append _ _ 114 rfl w.heap.size 23 i0 (int u64 0) 8 underlying114 hi hz0 hz1 hz2 rfl g j cap ((WS j).map (Value.int .u64)) rfl hrow3 ⟨f 22,0,none⟩ 1 1 [int u64 z] rfl rfl (World.news_of_block (cs:=#[int u64 z]) hcell) (by simp [Value.oneCell']) (by unfold maxLen;omega) (by omega) hs4) ?_
      rintro v w' ⟨g2,cap2,rfl,hrow4,hgr⟩;refine does_value (execS_assign rfl) ?_;have R1:Row w' w.heap.size g2 (j+1) cap2 ((WS (j+1)).map (Value.int .u64)):=by rw [hnx,List.map_append];exact hrow4
      have R2:Bl w w':=hb4.grown hgr hs4 (fun r hr=>by simp at hr;have:=hrow3.lo;omega);clear hrow4 hgr hnew hcell hrow3 hrow2 hb4 hb3 hb2 c0 c1 c2 d0 d1 d2 PT PU ZT ZU SC q1 q2 q3 q4;simp only [Act.put,List.setIfInBounds_toArray];go_wp2;go_roundw
      case rel=>
        first
          |exact ⟨j+1,g2,cap2,by omega,by go_num,rfl,R1,R2⟩
          |((repeat apply Exists.intro);exact⟨⟨j+1,g2,cap2,by omega,by go_num,rfl,R1,R2⟩,rfl⟩)
      case measure=>simp [intOf];omega
    · obtain rfl:j=n:=by omega
      go_wp2;go_ret;exact⟨g,cap,rfl,hrow,hbl⟩
theorem mixS_any (ws:List Int)(gw nw cw:Nat)(ps:List Tri)(n gp op' cp:Nat)(w:World)(hn:n≤200)(hwl:n≤nw)(hws:∀i,i<n→0≤lk ws i∧lk ws i<18446744073709551616)
    (hgw:gw<w.heap.size)(hwc:∀i,i<n→w.cell? ⟨gw,i,none⟩=some (int u64 (lk ws i)))(hl:ps.length=n)(hp:Pts w gp op' ps):
    Cr 66 #[.slice (some ⟨gw,0,none⟩) nw cw,.slice (some ⟨gp,op',none⟩) n cp] w (.agg #[int u64 (px (mixTo ws (ps.map asT) n)),int u64 (py (mixTo ws (ps.map asT) n)),.bool (pb (mixTo ws (ps.map asT) n))]):=by
  obtain⟨MX,hMX⟩:∃MX,Hid (MX=mixTo ws (ps.map asT)):=⟨_,rfl⟩;rw [←hMX.out]
  have hst:Hid (∀j,j<n→∃(t:Tri) (k:Nat),ps[j]? =some t∧k<18446744073709551616∧lk ws j=(k:Int)∧MX (j+1)=ad (MX j) (nt k (asT t))):=fun j hj=>by
    obtain⟨t,ht⟩:∃t,ps[j]? =some t:=⟨_,List.getElem?_eq_getElem (by omega)⟩;have h1:=hws j hj;refine⟨t,(lk ws j).toNat,ht,by omega,by omega,?_⟩;rw [hMX.out,mixTo];have e1:(ps.map asT).getD j none=asT t:=by rw [List.getD_eq_getElem?_getD,List.getElem?_map,ht];rfl
    rw [e1]
  have hM0:MX 0=none:=by rw [hMX.out];rfl
  have hwc':Hid (∀i,i<n→w.cell? ⟨gw,i,none⟩=some (int u64 (lk ws i))):=hwc;clear hMX hws hwc;have r4:=R3.new w 0 0 false;have b4:=balc w (Obj.cells #[int u64 0,int u64 0,.bool false] 34);go_enter func66,ntmps66;go_wp2_with fail;refine(zeroS _).mono ?_;rintro e w1 ⟨rfl,rfl⟩;have r5:R3 (((w.alloc (Obj.cells #[int u64 0,int u64 0,.bool false] 34)).alloc (Obj.cells #[int u64 0,int u64 0,.bool true] 34)).alloc (Obj.cells #[int u64 0,int u64 0,.bool true] 34)) (w.heap.size+1+1) 0 0 true:=(R3.new _ 0 0 true).at (by simp);replace r4:=(r4.alloc (Obj.cells #[int u64 0,int u64 0,.bool true] 34)).alloc (Obj.cells #[int u64 0,int u64 0,.bool true] 34);replace b4:=(b4.alloc (by simp) (Obj.cells #[int u64 0,int u64 0,.bool true] 34)).alloc (by simp;omega) (Obj.cells #[int u64 0,int u64 0,.bool true] 34);go_wp2
  go_loopw [6] (fun iv wr=>∃(j:Nat) (q:Pt),j≤n∧iv= .int .i64 (j:Int)∧Hid (q=MX j)∧R3 wr (w.heap.size+1+1) (px q) (py q) (pb q)∧R3 wr w.heap.size 0 0 false∧Bl w wr) (fun i _=>n-(intOf i).toNat)
  case atStart=>exact ⟨0,none,by omega,rfl,hM0.symm,r5,r4,b4⟩
  case round=>
    clear r5 r4 b4 hM0;obtain⟨j,q,hj,rfl,hq,r5,r4,hbl⟩:=hrel;by_cases hlt:j<n
    · have hli:(j:Int)<(n:Int):=by omega
      obtain⟨t,k,ht,hk,hlk,hnx⟩:=hst.out j hlt;rw [←hq.out] at hnx
      have a0:wr.drew.cell? ⟨gw,0+j,none⟩=some (int u64 (k:Int)):=by
        have h1:=hwc'.out j hlt;rw [hlk] at h1;rw [Nat.zero_add];exact(hbl.cell (p:=⟨gw,j,none⟩) hgw).trans h1
      have pp:=(hp.below hbl hp.lt).drew;have c0:=pp.c0 j t ht;have c1:=pp.c1 j t ht;have c2:=pp.c2 j t ht;have T:=fun w=>tiS_tri k t w hk
      have S:=sumS_xyz q (nt k (asT t));obtain⟨q2,hq2⟩:∃q2,q2=nt k (asT t):=⟨_,rfl⟩;rw [←hq2] at T S hnx;obtain⟨q3,hq3⟩:∃q3,q3=ad q q2:=⟨_,rfl⟩;rw [←hq3] at S hnx;have hnx':Hid (q3=MX (j+1)):=hnx.symm;obtain⟨tx,ty,tc⟩:=t;dsimp only at c0 c1 c2 T;clear ht pp hq2 hq3 hnx hq hlk;have d0:wr.drew.cell? ⟨w.heap.size+1+1,0,none⟩=some (int u64 (px q)):=r5.c0;have d1:wr.drew.cell? ⟨w.heap.size+1+1,1,none⟩=some (int u64 (py q)):=r5.c1;have d2:wr.drew.cell? ⟨w.heap.size+1+1,2,none⟩=some (.bool (pb q)):=r5.c2;go_wp2
      refine pool_prT 11 [.val (.agg #[int u64 (px q),int u64 (py q),.bool (pb q)]),
          .val (.slice (some ⟨gw,0,none⟩) nw cw),
          .val (.int .i64 (j:Int)),
          .val (.pointer (some ⟨gw,0+j,none⟩)),
          .val (int u64 (k:Int)),
          .val (.slice (some ⟨gp,op',none⟩) n cp),
          .val (.int .i64 (j:Int)),
          .val (.pointer (some ⟨gp,op'+j*3,none⟩)),
          .val (.agg #[int u64 (tx:Int),int u64 (ty:Int),.bool tc]),
          .val (.agg #[int u64 (px q2),int u64 (py q2),.bool (pb q2)]),
          .val (.agg #[int u64 (px q3),int u64 (py q3),.bool (pb q3)])] [[5],[0],[6],[15,16],[17],[1],[6],[19,20],[21],[18,22],[14,23]] (fun f=> [(some 14,.agg #[int u64 (px q),int u64 (py q),.bool (pb q)]),(some 15,.slice (some ⟨gw,0,none⟩) nw cw),(some 16,.int .i64 (j:Int)),(some 17,.pointer (some ⟨gw,0+j,none⟩)),(some 18,int u64 (k:Int)),(some 19,.slice (some ⟨gp,op',none⟩) n cp),(some 20,.int .i64 (j:Int)),(some 21,.pointer (some ⟨gp,op'+j*3,none⟩)),(some 22,.agg #[int u64 (tx:Int),int u64 (ty:Int),.bool tc]),(some 23,.agg #[int u64 (px q2),int u64 (py q2),.bool (pb q2)]),(some 24,.agg #[int u64 (px q3),int u64 (py q3),.bool (pb q3)])]) (by kernel_rfl) (by kernel_rfl) (by kernel_rfl) (by kernel_rfl) (by decide) (by kernel_rfl) (fun _=>by kernel_rfl) ?_ ?_
      · intro ix hix
        match ix,hix with
        |0,_=>exact obv [(5,.pointer (some ⟨w.heap.size+1+1,0,none⟩))] rfl rfl (fun A w ⟨e0,_⟩ hB=>ld_pt e0 (keepC d0 hB) (keepC d1 hB) (keepC d2 hB))
        |1,_=>exact obv [(0,.slice (some ⟨gw,0,none⟩) nw cw)] rfl rfl (fun A w ⟨e0,_⟩ hB=>doV_move e0)
        |2,_=>exact obv [(6,.int .i64 (j:Int))] rfl rfl (fun A w ⟨e0,_⟩ hB=>doV_move e0)
        |3,_=>exact obv [(15,.slice (some ⟨gw,0,none⟩) nw cw),(16,.int .i64 (j:Int))] rfl rfl (fun A w ⟨e0,e1,_⟩ hB=>ix_u64s e0 e1 (by omega))
        |4,_=>exact obv [(17,.pointer (some ⟨gw,0+j,none⟩))] rfl rfl (fun A w ⟨e0,_⟩ hB=>ld_u64 e0 (keepC a0 hB))
        |5,_=>exact obv [(1,.slice (some ⟨gp,op',none⟩) n cp)] rfl rfl (fun A w ⟨e0,_⟩ hB=>doV_move e0)
        |6,_=>exact obv [(6,.int .i64 (j:Int))] rfl rfl (fun A w ⟨e0,_⟩ hB=>doV_move e0)
        |7,_=>exact obv [(19,.slice (some ⟨gp,op',none⟩) n cp),(20,.int .i64 (j:Int))] rfl rfl (fun A w ⟨e0,e1,_⟩ hB=>ix_pts e0 e1 (by omega))
        |8,_=>exact obv [(21,.pointer (some ⟨gp,op'+j*3,none⟩))] rfl rfl (fun A w ⟨e0,_⟩ hB=>ld_pt e0 (keepC c0 hB) (keepC c1 hB) (keepC c2 hB))
        |9,_=>exact obv [(18,int u64 (k:Int)),(22,.agg #[int u64 (tx:Int),int u64 (ty:Int),.bool tc])] rfl rfl (fun A w ⟨e0,e1,_⟩ hB=>cl2 cf_spec_Times e0 e1 (T w))
        |10,_=>exact obv [(14,.agg #[int u64 (px q),int u64 (py q),.bool (pb q)]),(23,.agg #[int u64 (px q2),int u64 (py q2),.bool (pb q2)])] rfl rfl (fun A w ⟨e0,e1,_⟩ hB=>cl2 cf_spec_l3Sum e0 e1 (S w))
        |ix+11,h=>exact absurd h (by simp)
      intro f W3 hb3 _ fuel hfuel;have hb3':Bl wr W3:=(Below.refl _ wr).drew.trans hb3;replace r5:=r5.below hb3' r5.lt;replace r4:=r4.below hb3' r4.lt;replace hbl:=hbl.tr hb3';simp only [puts,List.foldl,Act.put,List.setIfInBounds_toArray,List.set_cons_zero,List.set_cons_succ];refine last_do1 11 hfuel (by kernel_rfl) (by kernel_rfl) rfl rfl ?_;refine fun Q K hK=>st_pt (z0:=px q3) (z1:=py q3) (z2:=pb q3) rfl rfl r5 Q K (fun v w' e=>hK v w' ?_)
      subst e;have R1:=r5.set (px q3) (py q3) (pb q3);have R2:=r4.other (b':=w.heap.size+1+1) (by omega) (px q3) (py q3) (pb q3);have R3':Bl w (set3 W3 (w.heap.size+1+1) (px q3) (py q3) (pb q3)):=set3_below hbl (by omega);change Bl w (((W3.setCell _ _).setCell _ _).setCell _ _) at R3';change R3 (((W3.setCell _ _).setCell _ _).setCell _ _) _ _ _ _ at R1;change R3 (((W3.setCell _ _).setCell _ _).setCell _ _) _ _ _ _ at R2;clear c0 c1 c2 d0 d1 d2 a0 T S hb3 hb3' r5 r4 hbl;generalize ((W3.setCell _ _).setCell _ _).setCell _ _=W4 at*;go_wp2;go_roundw
      case rel=>
        first
          |exact ⟨j+1,q3,by omega,by go_num,hnx',R1,R2,R3'⟩
          |((repeat apply Exists.intro);exact⟨⟨j+1,q3,by omega,by go_num,hnx',R1,R2,R3'⟩,rfl⟩)
      case measure=>simp [intOf];omega
    · obtain rfl:j=n:=by omega
      have hq':=hq.out;subst hq';have c0:=r5.c0;have c1:=r5.c1;have c2:=r5.c2;have d0:=r4.c0;have d1:=r4.c1;have d2:=r4.c2;have f0:=r4.frz 0;have f1:=r4.frz 1;have f2:=r4.frz 2;go_wp2;exact bodyPost_ret (v:= .agg #[int u64 (px (MX j)),int u64 (py (MX j)),.bool (pb (MX j))]) (point_res (fn:=Tryz.f66) (p:=4) results66 _ rfl (r4.set (px (MX j)) (py (MX j)) (pb (MX j)))) rfl ⟨rfl,set3_below hbl (Nat.le_refl _)⟩
theorem ppb_res {W:World}{b b2:Nat}{x y x2 y2:Int}{c c2:Bool}{fn:Func}{p p2 u:Tmp}(h:fn.results=#[.cell p 34,.cell p2 34,.tmp u])(tmps:Array Value)(hp:tmps.getD p undef= .pointer (some ⟨b,0,none⟩))(hp2:tmps.getD p2 undef= .pointer (some ⟨b2,0,none⟩))(hc:R3 W b x y c)(hc2:R3 W b2 x2 y2 c2):
    (results fn tmps).run prog W= .ok (.tuple #[.agg #[int u64 x,int u64 y,.bool c],.agg #[int u64 x2,int u64 y2,.bool c2],tmps.getD u undef]) W:=by
  have hp':tmps[p]?.getD undef= .pointer (some ⟨b,0,none⟩):=by simpa using hp
  have hp2':tmps[p2]?.getD undef= .pointer (some ⟨b2,0,none⟩):=by simpa using hp2
  simp [results,h,hp',hp2',asAddr,run_loadVar_mid W b 0 34 [int u64 x,int u64 y,.bool c] _ hc.range underlying34 rfl (by kernel_rfl),run_loadVar_mid W b2 0 34 [int u64 x2,int u64 y2,.bool c2] _ hc2.range underlying34 rfl (by kernel_rfl)]
theorem R3.keep' {W W':World}{b:Nat}{x y:Int}{c:Bool}(h:R3 W b x y c)(hb:Bl W W'):R3 W' b x y c:=h.below hb h.lt
noncomputable def comM (k:Nat) (b:Tri) (cs ds ps:List Tri):Pt:=mixTo (wgts k (asT b) (cs.map asT) (ds.map asT) cs.length) (ps.map asT) cs.length
theorem asT_list (ps:List Tri):∀p∈ps.map asT,on p:=fun p hp=>by obtain⟨t,-,rfl⟩:=List.mem_map.1 hp;exact asT_on t
theorem comM_on (k:Nat)(b:Tri)(cs ds ps:List Tri):on (comM k b cs ds ps):=mixTo_on (asT_list ps) _
section
variable (bx by':Int)(bc:Bool)(gc oc nc cc gd od nd cd:Nat)(w:World)
theorem comS_of (k:Nat)(ws:List Int)(hwl:ws.length=nc)(mx my zx zy:Int)(mc zc:Bool)
    (B:Cb w 65 #[.int .i64 k,.agg #[int u64 bx,int u64 by',.bool bc],.agg #[int u64 bx,int u64 by',.bool bc],.slice (some ⟨gc,oc,none⟩) nc cc,.slice (some ⟨gd,od,none⟩) nc cd] (.bool true))
    (Wg:∀w',Bl w w'→Calls prog 67 #[.int .i64 k,.agg #[int u64 bx,int u64 by',.bool bc],.slice (some ⟨gc,oc,none⟩) nc cc,.slice (some ⟨gd,od,none⟩) nc cd] w' fun e w''=>∃g cap,e= .returned (.slice (some ⟨g,0,none⟩) nc cap)∧Row w'' w'.heap.size g nc cap (ws.map (Value.int .u64))∧Bl w' w'')
    (M1:∀g cap w',Bl w w'→g<w'.heap.size→(∀i,i<nc→w'.cell? ⟨g,i,none⟩=some (int u64 (lk ws i)))→Cr 66 #[.slice (some ⟨g,0,none⟩) nc cap,.slice (some ⟨gc,oc,none⟩) nc cc] w' (.agg #[int u64 mx,int u64 my,.bool mc]))
    (M2:∀g cap w',Bl w w'→g<w'.heap.size→(∀i,i<nc→w'.cell? ⟨g,i,none⟩=some (int u64 (lk ws i)))→Cr 66 #[.slice (some ⟨g,0,none⟩) nc cap,.slice (some ⟨gd,od,none⟩) nc cd] w' (.agg #[int u64 zx,int u64 zy,.bool zc])):
    Cr 100 #[.int .i64 k,.agg #[int u64 bx,int u64 by',.bool bc],.slice (some ⟨gc,oc,none⟩) nc cc,.slice (some ⟨gd,od,none⟩) nc cd] w (.tuple #[.agg #[int u64 mx,int u64 my,.bool mc],.agg #[int u64 zx,int u64 zy,.bool zc],.bool true]):=by
  obtain⟨X,hX⟩:∃X,X=((w.alloc (Obj.cells #[int u64 bx,int u64 by',.bool bc] 34)).alloc (Obj.cells #[int u64 0,int u64 0,.bool false] 34)).alloc (Obj.cells #[int u64 0,int u64 0,.bool false] 34):=⟨_,rfl⟩;have r0:R3 X w.heap.size bx by' bc:=by rw [hX];exact((R3.new _ bx by' bc).alloc _).alloc _
  have r1:R3 X (w.heap.size+1) 0 0 false:=by rw [hX];exact((R3.new _ 0 0 false).at (by simp)).alloc _
  have r2:R3 X (w.heap.size+1+1) 0 0 false:=by rw [hX];exact(R3.new _ 0 0 false).at (by simp)
  have hb:Bl w X:=by rw [hX];exact((((Below.refl _ w).alloc (Nat.le_refl _) _).alloc (by simp) _).alloc (by simp;omega) _)
  rw [hX] at r0 r1 r2 hb;clear hX;go_enter func100,ntmps100;go_wp2_with fail;refine(B _ hb).mono ?_;rintro e w1 ⟨rfl,b1⟩;replace r0:=r0.keep' b1;replace r1:=r1.keep' b1;replace r2:=r2.keep' b1;replace hb:=hb.tr b1;clear B b1;have a0:=r0.c0;have a1:=r0.c1;have a2:=r0.c2;go_wp2_with fail;refine(Wg _ hb).mono ?_;rintro e w2 ⟨g,cap,rfl,hrow,b2⟩;replace r1:=r1.keep' b2;replace r2:=r2.keep' b2;replace hb:=hb.tr b2;clear Wg b2 a0 a1 a2 r0;go_wp2_with fail;refine(M1 g cap _ hb hrow.hi (fun i hi=>hrow.cell i hi)).mono ?_;rintro e w3 ⟨rfl,b3⟩;replace hrow:=hrow.below b3 hrow.hi;replace r1:=r1.keep' b3;replace r2:=r2.keep' b3;replace hb:=hb.tr b3;clear M1 b3;go_wp2_with fail;refine(M2 g cap _ hb hrow.hi (fun i hi=>hrow.cell i hi)).mono ?_;rintro e w4 ⟨rfl,b4⟩;replace r1:=r1.keep' b4;replace r2:=r2.keep' b4;replace hb:=hb.tr b4;clear M2 b4 hrow;have c0:=r1.c0;have c1:=r1.c1;have c2:=r1.c2;have f0:=r1.frz;have d0:=r2.c0;have d1:=r2.c1;have d2:=r2.c2;have e0:=r2.frz;go_wp2;have q1:=r1.set mx my mc|>.other (b':=w.heap.size+1+1) (by omega) zx zy zc;have q2:=(r2.other (b':=w.heap.size+1) (by omega) mx my mc).set zx zy zc;refine bodyPost_ret (v:= .tuple #[.agg #[int u64 mx,int u64 my,.bool mc],.agg #[int u64 zx,int u64 zy,.bool zc],.bool true]) (ppb_res (fn:=Tryz.f100) (p:=8) (p2:=9) (u:=10) results100 _ rfl rfl q1 q2) rfl ⟨rfl,set3_below (set3_below hb (by omega)) (by omega)⟩
end
theorem comS_yes (mode:Int)(b:Tri)(cs ds:List Tri)(gc oc cc gd od cd:Nat)(w:World)(hc:Pts w gc oc cs)(hd:Pts w gd od ds)(h:batB mode b b cs ds=true):
    Cr 100 #[.int .i64 mode,triW b,.slice (some ⟨gc,oc,none⟩) cs.length cc,.slice (some ⟨gd,od,none⟩) ds.length cd] w (.tuple #[ptW (comM mode.toNat b cs ds cs),ptW (comM mode.toNat b cs ds ds),.bool true]):=by
  have h':=h;rw [batB_iff] at h';obtain⟨h1,h2,h3,h4,h5,-,-⟩:=h';obtain⟨k,rfl⟩:∃k:Nat,mode=(k:Int):=⟨mode.toNat,by omega⟩;rw [Int.toNat_natCast,ptW_eq,ptW_eq,←h5];have hlt:=wgts_lt k (asT b) (cs.map asT) (ds.map asT) cs.length;have hln:=wgts_length k (asT b) (cs.map asT) (ds.map asT) cs.length
  have hin:∀i,i<cs.length→0≤lk (wgts k (asT b) (cs.map asT) (ds.map asT) cs.length) i∧lk (wgts k (asT b) (cs.map asT) (ds.map asT) cs.length) i<18446744073709551616:=fun i hi=>by
    have:=hlt (lk (wgts k (asT b) (cs.map asT) (ds.map asT) cs.length) i) (by
      unfold lk;rw [List.getD_eq_getElem?_getD,List.getElem?_eq_getElem (by omega)]
      exact List.getElem_mem _)
    omega
  refine comS_of _ _ _ gc oc cs.length cc gd od cd w k (wgts k (asT b) (cs.map asT) (ds.map asT) cs.length) hln _ _ _ _ _ _ (fun w' hb=> ?_) (fun w' hb=> ?_) (fun g cap w' hb hg hcl=> ?_) (fun g cap w' hb hg hcl=> ?_)
  · have:=batS_any k b b cs ds gc oc cc gd od cd w' (hc.below hb hc.lt) (hd.below hb hd.lt);rw [h,←h5] at this;exact this
  · exact wgtS_any k b cs ds cs.length gc oc cc gd od cd w' (by omega) rfl h5.symm h4.2 (hc.below hb hc.lt) (hd.below hb hd.lt)
  · exact mixS_any _ g _ cap cs cs.length gc oc cc w' h4.2 (Nat.le_refl _) hin hg hcl rfl (hc.below hb hc.lt)
  · exact mixS_any _ g _ cap ds cs.length gd od cd w' h4.2 (Nat.le_refl _) hin hg hcl h5.symm (hd.below hb hd.lt)
end
end Go.Proofs.YtmjniccfjffclaaGreatDoor
