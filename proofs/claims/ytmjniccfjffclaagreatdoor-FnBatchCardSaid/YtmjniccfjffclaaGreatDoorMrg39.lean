import Derived.Test.YtmjniccfjffclaaGreatDoorMrg38
set_option linter.unusedVariables false
set_option maxRecDepth 100000
set_option maxHeartbeats 16000000
namespace Go.Proofs.YtmjniccfjffclaaGreatDoor
open Go.Proofs.Tryz Go.RowKit
open Go.Value (int)
open Go.IntKind (u64)
section
open M
theorem fi_of {x y:Fp}(h:x*y=1):fi x=y:=by
  have hx:x≠0:=by
    rintro rfl;rw [Fin.zero_mul] at h;exact absurd h (by decide)
  have h1:=fi_mul hx;have h2:fi x*(x*y)=(x*fi x)*y:=by rw [←Fin.mul_assoc,Fin.mul_comm (fi x) x]
  rw [h,h1,Fin.mul_one,Fin.one_mul] at h2;exact h2
theorem fi_m3:fi (2305843009213693948:Fp)=768614336404564650:=fi_of (by decide)
theorem mX_of {u t i x:Fp}(hT:mT u=t)(h0:t≠0)(hi:t*i=1)(hx:(2305843009213693840*768614336404564650)*(1+i)=x):mX u=x:=by
  unfold mX;rw [hT,if_neg h0,fi_m3,fi_of hi,hx]
theorem any_0:mX (toF 1628710094194133010)=1716268383422682102:=mX_of (t:=897733701094596449) (i:=2040628234547591581) (by decide) (by decide) (by decide) (by decide)
theorem any_1:mX (toF 555733792963577606)=461324075334823162:=mX_of (t:=1804488728460876901) (i:=511028868893091209) (by decide) (by decide) (by decide) (by decide)
theorem any_x0:mXX (toF 1628710094194133010)=1716268383422682102∨mXX (toF 1628710094194133010)=1208678238732547200:=by
  unfold mXX;rw [any_0];split
  · exact .inl rfl
  · exact .inr (by decide)
theorem any_x1:mXX (toF 555733792963577606)=461324075334823162∨mXX (toF 555733792963577606)=1580252864446542820:=by
  unfold mXX;rw [any_1];split
  · exact .inl rfl
  · exact .inr (by decide)
def anyW:ByteArray:=⟨#[97,110,121]⟩
theorem any_n0:hNum anyW (tagB grpW 2) 2305843009213693951 2 0=1628710094194133010:=by kernel_rfl
theorem any_n1:hNum anyW (tagB grpW 2) 2305843009213693951 2 1=555733792963577606:=by kernel_rfl
theorem hsh_any:hsh 2 anyW≠none:=by
  have e:hsh 2 anyW=ad (mapP (hNum anyW (tagB grpW 2) 2305843009213693951 2 0)) (mapP (hNum anyW (tagB grpW 2) 2305843009213693951 2 1)):=rfl;rw [e,any_n0,any_n1]
  have hne:mXX (toF 1628710094194133010)≠mXX (toF 555733792963577606):=by
    rcases any_x0 with h0|h0<;>rcases any_x1 with h1|h1<;>rw [h0,h1]<;>decide
  unfold mapP;rw [ad_c2 hne];unfold third;simp
section
variable {mode:Int}{key r:Nat}{info:ByteArray}{es:List Tri}
theorem evaC_zero (h:evaC mode key info es r=0):(txtB mode 0 info.size=true∧keyB key=true∧r<2305843010818082053∧(1≤es.length∧es.length≤200)∧es.all elT=true)∧facC mode key info=0:=by
  by_cases hc:txtB mode 0 info.size=true∧keyB key=true∧r<2305843010818082053∧(1≤es.length∧es.length≤200)∧es.all elT=true
  · rw [evaC_yes hc] at h;exact⟨hc,h⟩
  · rw [evaC_no hc] at h;cases h
theorem evaC_part (h:evaC mode key info es r=0){t:Tri}(ht:t∈es):evaC mode key info [t] r=0:=by
  obtain⟨⟨h1,h2,h3,-,h5⟩,h6⟩:=evaC_zero h;rw [evaC_yes ⟨h1,h2,h3,⟨by simp,by simp⟩,by simp [List.all_eq_true.1 h5 t ht]⟩];exact h6
theorem eva_chk1 (h:evaC 1 key info es r=0):chkB 1 gT (pubK key) es ((evaE 1 key info es).map ptT) (evaK 1 key info es r).1 (evaK 1 key info es r).2=true:=by
  obtain⟨⟨h1,h2,h3,h4,h5⟩,h6⟩:=evaC_zero h;obtain⟨f,hf,hcase⟩:=facC_key h2 h6;obtain⟨hb1,-⟩:=eva_bat (mode:=1) (key:=key) (info:=info) h4 h5;have hU:=(evaU_of 1 key info).1
  have hK:evaK 1 key info es r=(prvC 1 (facT 1 key info) r gT (evaU 1 key info) es ((evaE 1 key info es).map ptT),prvN 1 (facT 1 key info) r gT (evaU 1 key info) es ((evaE 1 key info es).map ptT)):=by
    unfold evaK;rw [if_pos h,if_pos rfl]
  rw [hK];rcases hcase with ⟨m2,-⟩|⟨-,ef,et,eb⟩
  · omega
  · have eU:evaU 1 key info=pubK key:=by unfold evaU;rw [et,ef]
    rw [eU] at hb1 hU⊢;refine chkB_prv 1 (facT 1 key info) r gT (pubK key) es ((evaE 1 key info es).map ptT) hb1 (by rw [hU,asT_g]) ?_;rw [map_asT_ptT (evaE_on 1 key info es),List.map_map,et];unfold evaE;rw [eb];rfl
theorem eva_chk2 (h:evaC 2 key info es r=0):chkB 2 gT (ptT (bldT 2 info (pubK key))) ((evaE 2 key info es).map ptT) es (evaK 2 key info es r).1 (evaK 2 key info es r).2=true:=by
  obtain⟨⟨h1,h2,h3,h4,h5⟩,h6⟩:=evaC_zero h;obtain⟨f,hf,hcase⟩:=facC_key h2 h6;obtain⟨-,hb2⟩:=eva_bat (mode:=2) (key:=key) (info:=info) h4 h5;have hU:=(evaU_of 2 key info).1
  have hK:evaK 2 key info es r=(prvC 2 (facT 2 key info) r gT (evaU 2 key info) ((evaE 2 key info es).map ptT) es,prvN 2 (facT 2 key info) r gT (evaU 2 key info) ((evaE 2 key info es).map ptT) es):=by
    unfold evaK;rw [if_pos h,if_neg (by decide),if_pos rfl]
  rw [hK];rcases hcase with ⟨-,ef,et,eb⟩|⟨m2',-⟩
  · have eT:ptT (bldT 2 info (pubK key))=evaU 2 key info:=by
      unfold evaU bldT;rw [if_pos rfl,twp_pub,et,ef]
    rw [eT];refine chkB_prv 2 (facT 2 key info) r gT (evaU 2 key info) ((evaE 2 key info es).map ptT) es hb2 (by rw [hU,asT_g]) ?_;rw [map_asT_ptT (evaE_on 2 key info es),et];unfold evaE;rw [eb,List.map_map];exact List.map_congr_left fun t _=>(nt_inv' (asT_on t) hf).symm
  · exact absurd rfl m2'
theorem bld_any (h:evaC 2 key info es r=0):bldC 2 anyW info (pubK key) 1=0:=by
  obtain⟨⟨h1,h2,h3,h4,h5⟩,h6⟩:=evaC_zero h;obtain⟨f,hf,hcase⟩:=facC_key h2 h6;obtain⟨z1,-,z3,z4⟩:=txtB_iff.1 h1;unfold bldC;rw [if_pos ⟨txtB_iff.2 ⟨z1,by decide,z3,z4⟩,elT_pub h2,keyB_iff.2 ⟨by decide,by decide⟩⟩,if_neg hsh_any,if_neg];rintro⟨-,e⟩;rcases hcase with ⟨-,ef,-,-⟩|⟨m2',-⟩
  · rw [twp_pub,←ef] at e;exact nt_nz gG_on gG_nz hf e
  · exact absurd rfl m2'
end
theorem wpList_append_ow {P:Program}{w:World}{ops:Array Oper}{rest:List Oper}{o:Oper}{a:Act}{Q:Exit→Act→World→Prop}(hgd:o.guard=none)(s x:Operand)(t:TypeId)
    (ho:o.op= .call {callee:= .builtin .append,args:=#[s,x],argTypes:=#[t,t]})
    (base:Nat)(e:TypeId)(i:TypeInfo)(z:Value)(size bytes:Nat)(ht:P.underlying t=some (.slice e))(hi:P.info? e=some i)(hz:i.zero=some z)
    (hsize:i.size=size)(hby:i.bytes=bytes)(hzs:z.cells.size=size)(hsz:0<size)
    (v:Value)(n:Nat)(xs:List Value)(hs:a.eval s=v)(hown:w.ownsRow base e size v n xs)
    (ad:Addr)(m c:Nat)(news:List Value)(hx:a.eval x= .slice (some ad) m c)(hl:news.length=m*size)(hnews:∀j u,news[j]? =some u→w.cell? (ad.add j)=some u)(h1:∀u∈news,u.oneCell'=true)
    (hm:0<m)(h63:n+m≤maxLen)(hbytes:(n+m)*bytes≤140737488355328)(hbase:base≤w.heap.size)
    (h:∀g cap w',w'.ownsRow base e size (.slice (some ⟨g,0,none⟩) (n+m) cap) (n+m) (xs++news)→w.grownBy w' v.ownBlock→g<w'.heap.size→wpList P ops Q rest (a.put o.dst (.slice (some ⟨g,0,none⟩) (n+m) cap)) w'):wpList P ops Q (o::rest) a w:=by
  refine wpList_plain hgd fun K hK=> ?_
  obtain⟨g,cap,w',hr,h2,h3,-,h5⟩:=run_append_lies (P:=P) w t o.type base e i z size bytes ht hi hz hsize hby hzs hsz v n xs hown ad m c news hl hnews h1 hm h63 hbytes hbase w.heap.size rfl;unfold Oper.wp execOp;simp only [ho,resolve,invoke,builtin,Sem.run_bind,Sem.run_pure,Result.andThen_ok,List.map_toArray,List.map_cons,List.map_nil,hs,hx,hr];exact hK _ _ (h g cap w' h2 h3 h5)
def cells3 (ps:List Pt):List Value:=ps.flatMap fun p=> [int u64 (px p),int u64 (py p),.bool (pb p)]
theorem cells3_app (a b:List Pt):cells3 (a++b)=cells3 a++cells3 b:=by simp [cells3]
theorem cells3_at:∀(ps:List Pt) (i:Nat) (p:Pt),ps[i]? =some p→(cells3 ps)[i*3]? =some (int u64 (px p))∧(cells3 ps)[i*3+1]? =some (int u64 (py p))∧(cells3 ps)[i*3+2]? =some (.bool (pb p))
  | [],i,p,h=>by simp at h
  | q::r,0,p,h=>by
    simp at h;subst h;exact⟨rfl,rfl,rfl⟩
  | q::r,i+1,p,h=>by
    have ih:=cells3_at r i p (by simpa using h);have e:cells3 (q::r)= [int u64 (px q),int u64 (py q),.bool (pb q)]++cells3 r:=rfl;rw [e];refine⟨?_,?_,?_⟩
    · rw [List.getElem?_append_right (by simp;omega)];rw [←ih.1];congr 1;simp;omega
    · rw [List.getElem?_append_right (by simp;omega)];rw [←ih.2.1];congr 1;simp;omega
    · rw [List.getElem?_append_right (by simp;omega)];rw [←ih.2.2];congr 1;simp;omega
structure Cps (W:World)(g:Nat)(ps:List Pt):Prop where
  lt:g<W.heap.size
  c0:∀i p,ps[i]? =some p→W.cell? ⟨g,0+i*3,none⟩=some (int u64 (px p))
  c1:∀i p,ps[i]? =some p→W.cell? ⟨g,0+i*3+1,none⟩=some (int u64 (py p))
  c2:∀i p,ps[i]? =some p→W.cell? ⟨g,0+i*3+2,none⟩=some (.bool (pb p))
theorem Cps.below {W W':World}{g:Nat}{L:List Pt}(h:Cps W g L){B:Nat}(hb:Below B W W')(hg:g<B):Cps W' g L:=
  have e:∀i,W'.cell? ⟨g,i,none⟩=W.cell? ⟨g,i,none⟩:=fun i=>World.cell?_of_block (w:=W) (a:=⟨g,i,none⟩) (hb.block g hg)
  ⟨Nat.lt_of_lt_of_le h.lt hb.size,fun i t ht=>(e _).trans (h.c0 i t ht),fun i t ht=>(e _).trans (h.c1 i t ht),fun i t ht=>(e _).trans (h.c2 i t ht)⟩
theorem Cps.keep {W W':World}{g:Nat}{L:List Pt}(h:Cps W g L)(hb:Bl W W'):Cps W' g L:=h.below hb h.lt
theorem Cps.drew {W:World}{g:Nat}{L:List Pt}(h:Cps W g L):Cps W.drew g L:=⟨h.lt,h.c0,h.c1,h.c2⟩
theorem Cps.of_owns {W:World}{base:Nat}{e:TypeId}{g n cap:Nat}{ps:List Pt}(h:W.ownsRow base e 3 (.slice (some ⟨g,0,none⟩) n cap) n (cells3 ps)):Cps W g ps:=by
  have hc:=h.cells (g:=g) rfl;have hlt:=(h.lt g rfl).2;refine⟨hlt,fun i p hp=> ?_,fun i p hp=> ?_,fun i p hp=> ?_⟩
  · have:=hc _ _ (cells3_at ps i p hp).1;rwa [Addr.add_mid] at this
  · have:=hc _ _ (cells3_at ps i p hp).2.1;rwa [Addr.add_mid,←Nat.add_assoc] at this
  · have:=hc _ _ (cells3_at ps i p hp).2.2;rwa [Addr.add_mid,←Nat.add_assoc] at this
theorem infoCP:(prog.info? 75).map (fun i=>(i.zero,i.size,i.bytes))=some (some (.agg #[int u64 0,int u64 0,.bool false]),3,24):=by kernel_rfl
theorem fnd_tri (t:Tri)(w:World):
    Cr 38 #[.agg #[int u64 (t.1:Int),int u64 (t.2.1:Int),.bool t.2.2]] w (.tuple #[.agg #[int u64 (px (asT t)),int u64 (py (asT t)),.bool (pb (asT t))],.bool (onT t)]):=fndW t.1 t.2.1 t.2.2 w
theorem fpsI_any (ps:List Tri)(n g o cap:Nat)(w:World)(hl:ps.length=n)(hn:n≤200)(hp:Pts w g o ps):
    Calls prog 76 #[.slice (some ⟨g,o,none⟩) n cap] w fun e w'=>(∃v,e= .returned (.tuple #[v,.bool (ps.all onT)])∧(ps.all onT=true→w'.ownsRow w.heap.size 75 3 v n (cells3 (ps.map asT)))∧(ps.all onT=false→v= .slice none 0 0))∧Bl w w':=by
  obtain⟨R,hR⟩:∃R,Hid (R=ps.all onT):=⟨_,rfl⟩;rw [←hR.out];obtain⟨i0,hi,hz0,hz1,hz2⟩:=info_parts infoCP;obtain⟨CS,hCS⟩:∃CS,Hid (CS=fun j=>cells3 ((ps.take j).map asT)):=⟨_,rfl⟩
  have hst:Hid (∀j,j<n→∃t:Tri,ps[j]? =some t∧CS (j+1)=CS j++ [int u64 (px (asT t)),int u64 (py (asT t)),.bool (pb (asT t))]):=fun j hj=>by
    obtain⟨t,ht⟩:∃t,ps[j]? =some t:=⟨_,List.getElem?_eq_getElem (by omega)⟩;refine⟨t,ht,?_⟩;rw [hCS.out];simp only;rw [List.take_add_one,ht,List.map_append,cells3_app];rfl
  have hC0:CS 0= []:=by rw [hCS.out];rfl
  have hCn:Hid (CS n=cells3 (ps.map asT)):=by simp only [Hid];rw [hCS.out,←hl];simp
  clear hCS;go_enter func76,ntmps76;go_wp2
  go_loopw [4,11] (fun ov iv wr=>∃j:Nat,j≤n∧iv= .int .i64 (j:Int)∧wr.ownsRow w.heap.size 75 3 ov j (CS j)∧Hid (∀i,i<j→∃t,ps[i]? =some t∧onT t=true)∧Bl w wr) (fun _ i _=>n-(intOf i).toNat)
  case atStart=>exact ⟨0,by omega,rfl,by rw [hC0];exact World.ownsRow_nil _ _ _ _,fun i hi=>by omega,Below.refl _ _⟩
  case round=>
    clear hC0;obtain⟨j,hj,rfl,hown,hall,hbl⟩:=hrel;have hsz:=hbl.size;by_cases hlt:j<n
    · have hli:(j:Int)<(n:Int):=by omega
      obtain⟨t,ht,hnx⟩:=hst.out j hlt;have pp:=hp.below hbl hp.lt;have c0:=pp.c0 j t ht;have c1:=pp.c1 j t ht;have c2:=pp.c2 j t ht;have F:=fnd_tri t;have hmt:t∈ps:=List.mem_of_getElem? ht
      have hRt:Hid (onT t=false→R=false):=fun h=>by
        rw [hR.out];exact List.all_eq_false.2 ⟨t,hmt,by rw [h];decide⟩
      have hnxt:Hid (onT t=true→∀i,i<j+1→∃t,ps[i]? =some t∧onT t=true):=fun h i hi=>by
        by_cases hik:i=j
        · subst hik;exact⟨t,ht,h⟩
        · exact hall.out i (by omega)
      obtain⟨tx,ty,tc⟩:=t;dsimp only at c0 c1 c2 F;clear ht pp hmt hall;generalize onT (tx,ty,tc)=ot at*;generalize asT (tx,ty,tc)=q at*;go_wp2_with fail;refine(F _).mono ?_;rintro e w1 ⟨rfl,b1⟩
      have hB1:Bl wr (w1.alloc (Obj.cells #[int u64 (px q),int u64 (py q),.bool (pb q)] 75)):=by
        have h1:=(balc wr (Obj.cells #[int u64 (tx:Int),int u64 (ty:Int),.bool tc] 34));have h2:=h1.tr b1;exact h2.alloc h2.size _
      replace hown:=below_own3 hown hB1;replace hbl:=hbl.tr hB1;have hsz1:w.heap.size≤w1.heap.size+1:=by have:=hbl.size;simpa using this
      clear F c0 c1 c2 b1 hB1
      cases ot with
      | false=>
        have hr:=hRt.out (by trivial);subst hr;clear hRt hnxt hown;go_wp2;go_ret2
        first|exact ⟨rfl,hbl⟩|exact ⟨⟨_,rfl,fun h=>by cases h,fun _=>rfl⟩,hbl⟩|(refine⟨?_,hbl⟩;simp)
      | true=>
        have hn2:Hid (∀i,i<j+1→∃t,ps[i]? =some t∧onT t=true):=hnxt.out (by trivial);clear hRt hnxt
        go_wp2_with (first
          |(at_builtin;refine wpList_append_ow rfl _ _ 76 rfl w.heap.size 75 i0 (.agg #[int u64 0,int u64 0,.bool false]) 3 24 underlying76 hi hz0 hz1 hz2 rfl (by decide) _ j (CS j) rfl (hown.alloc _) ⟨w1.heap.size+1,0,none⟩ 1 1 [int u64 (px q),int u64 (py q),.bool (pb q)] rfl rfl (World.news_of_block (cs:=#[int u64 (px q),int u64 (py q),.bool (pb q)]) (by have:=heap_alloc_new (w1.alloc (Obj.cells #[int u64 (px q),int u64 (py q),.bool (pb q)] 75)) (Obj.cells #[int u64 (px q),int u64 (py q),.bool (pb q)] 75);simpa using this)) (by simp [Value.oneCell']) (by decide) (by unfold maxLen;omega) (by omega) (by simp;omega) ?_;intro g2 cap2 w2 hown2 hgr2 hg2)
          |go_in)
        have R1:w2.ownsRow w.heap.size 75 3 (.slice (some ⟨g2,0,none⟩) (j+1) cap2) (j+1) (CS (j+1)):=by rw [hnx];exact hown2
        have R2:Bl w w2:=(hbl.alloc hbl.size _).grown hgr2 (by simp;omega) (fun r hr=>(hown.lt r hr).1);clear hown hown2 hgr2 hbl;go_wp2;go_roundw
        case rel=>
          first
            |exact ⟨j+1,by omega,by go_num,R1,hn2,R2⟩
            |((repeat apply Exists.intro);exact⟨⟨j+1,by omega,by go_num,R1,hn2,R2⟩,rfl⟩)
        case measure=>simp [intOf];omega
    · obtain rfl:j=n:=by omega
      have hr:R=true:=by
        rw [hR.out,List.all_eq_true];intro t ht;obtain⟨i,hi⟩:=List.getElem?_of_mem ht;obtain⟨t',h',h''⟩:=hall.out i (by have:=(List.getElem?_eq_some_iff.1 hi).1;omega);rw [hi] at h';cases h';exact h''
      subst hr;rw [hCn.out] at hown;clear hall hR hst hCn;go_wp2;go_ret2
      first|exact ⟨⟨_,rfl,hown⟩,hbl⟩|exact ⟨⟨rfl,hown⟩,hbl⟩|exact ⟨hown,hbl⟩|(refine⟨?_,hbl⟩;simpa using hown)
theorem app_pt {w:World}{ops:Array Oper}{rest:List Oper}{o:Oper}{a:Act}{Q:Exit→Act→World→Prop}(hgd:o.guard=none)(s x:Operand)
    (ho:o.op= .call {callee:= .builtin .append,args:=#[s,x],argTypes:=#[24,24]})(base:Nat)(v:Value)(n:Nat)(xs:List Value)(hs:a.eval s=v)(hown:w.ownsRow base 34 3 v n xs)
    (g:Nat)(X Y:Int)(C:Bool)(hx:a.eval x= .slice (some ⟨g,0,none⟩) 1 1)(hB:Bk w 34 g #[int u64 X,int u64 Y,.bool C])(hn:n≤1000)(hb:base≤w.heap.size)
    (h:∀g2 cap w',w'.ownsRow base 34 3 (.slice (some ⟨g2,0,none⟩) (n+1) cap) (n+1) (xs++ [int u64 X,int u64 Y,.bool C])→w.grownBy w' v.ownBlock→wpList prog ops Q rest (a.put o.dst (.slice (some ⟨g2,0,none⟩) (n+1) cap)) w'):wpList prog ops Q (o::rest) a w:=by
  obtain⟨i0,hi,hz0,hz1,hz2⟩:=info_parts infoP3;exact wpList_append_ow hgd s x 24 ho base 34 i0 (.agg #[int u64 0,int u64 0,.bool false]) 3 24 underlying24 hi hz0 hz1 hz2 rfl (by decide) v n xs hs hown ⟨g,0,none⟩ 1 1 [int u64 X,int u64 Y,.bool C] hx rfl (World.news_of_block (cs:=#[int u64 X,int u64 Y,.bool C]) hB) (by simp [Value.oneCell']) (by decide) (by unfold maxLen;omega) (by omega) hb (fun g2 cap w' h1 h2 _=>h g2 cap w' h1 h2)
end
end Go.Proofs.YtmjniccfjffclaaGreatDoor
