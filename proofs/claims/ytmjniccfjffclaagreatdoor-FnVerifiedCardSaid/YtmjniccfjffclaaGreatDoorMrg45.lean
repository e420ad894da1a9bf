import Derived.Test.YtmjniccfjffclaaGreatDoorMrg44
import Derived.Test.YtmjniccfjffclaaGreatDoorMrg39
import Derived.Test.YtmjniccfjffclaaGreatDoorMrg43
set_option linter.unusedVariables false
set_option maxRecDepth 100000
set_option maxHeartbeats 16000000
namespace Go.Proofs.YtmjniccfjffclaaGreatDoor
open Go.Proofs.Tryz Go.RowKit
open Go.Value (int)
open Go.IntKind (u64)
section
open M
theorem bldS_any (mode:Int)(input info:ByteArray)(t:Tri)(blind:Nat)(w:World):
    Cr 17 #[.int .i64 mode,.string input,.string info,.agg #[int u64 (t.1:Int),int u64 (t.2.1:Int),.bool t.2.2],int u64 blind] w (.tuple #[.agg (bldA mode input info t blind),.int .i64 (bldC mode input info t blind)]):=by
  have T:=txtS_any mode input info;have E:=elS_any t;have K:=fun w=>keyS_any (blind:Int) blind rfl w
  have bad: ¬ (txtB mode input.size info.size=true∧elT t=true∧keyB blind=true)→bldC mode input info t blind=1∧bldA mode input info t blind=zBld:=fun h=>by
    have e:bldC mode input info t blind=1:=if_neg h;exact⟨e,by unfold bldA;rw [e,if_neg (by decide)];rfl⟩
  cases h1:txtB mode input.size info.size with
  | false=>
    rw [h1] at T;obtain⟨e1,e2⟩:=bad (by simp [h1]);rw [e1,e2];exact bldS_a mode _ _ blind _ input info w T
  | true=>
    rw [h1] at T
    cases h2:elT t with
    | false=>
      rw [h2] at E;obtain⟨e1,e2⟩:=bad (by simp [h2]);rw [e1,e2];exact bldS_b mode _ _ blind _ input info w T E
    | true=>
      rw [h2] at E
      cases h3:keyB blind with
      | false=>
        rw [h3] at K;obtain⟨e1,e2⟩:=bad (by simp [h3]);rw [e1,e2];exact bldS_c mode _ _ blind _ input info w T E K
      | true=>
        rw [h3] at K;obtain⟨⟨m1,m2⟩,z1,z2,-⟩:=txtB_iff.1 h1;obtain⟨-,kl⟩:=keyB_iff.1 h3;have hC:bldC mode input info t blind=if hsh mode input=none then 2 else if mode=2∧twp info t=none then 3 else 0:=if_pos ⟨h1,h2,h3⟩
        have H:=fun w=>hshS_any mode input w m1 m2 z1
        by_cases hz:hsh mode input=none
        · rw [if_pos hz] at hC;have hA:bldA mode input info t blind=zBld:=by unfold bldA;rw [hC,if_neg (by decide)];rfl
          rw [hC,hA];rw [(pb_none _).2 hz] at H;exact bldS_d mode _ _ blind _ input info w _ _ T E K H
        · rw [if_neg hz] at hC
          have hp:pb (hsh mode input)=false:=by
            cases hq:pb (hsh mode input) with
            |false=>rfl
            |true=>exact absurd ((pb_none _).1 hq) hz
          have TM:=fun w=>tiS_pt (hsh_on mode input) blind (by omega) w
          rw [hp] at H TM;by_cases hm:mode=2
          · have hw:=fun w=>sumS_xyz (nt (twk info) gG) (asT t) w
            obtain⟨g1,g2,g3⟩:=triW_px (elT_on h2);rw [←g1,←g2,←g3] at hw;have h:=bldS_f mode _ _ blind _ input info w _ _ _ _ _ _ _ _ _ _ _ _ hm T E K H TM (fun w=>twkS_any info w z2) (fun w=>tiS_pt gG_on (twk info) (Nat.lt_trans (twk_lt info) (by decide)) w) hw;have e:bldT mode info t=twp info t:=if_pos hm;by_cases ht:twp info t=none
            · rw [if_pos ⟨hm,ht⟩] at hC;have hA:bldA mode input info t blind=zBld:=by unfold bldA;rw [hC,if_neg (by decide)];rfl
              rw [hC,hA];change Calls _ _ _ _ (fun e w'=>e= .returned (.tuple #[.agg (if pb (twp info t)=true then _ else _),.int .i64 (if pb (twp info t)=true then 3 else 0)])∧_) at h;rw [if_pos ((pb_none _).2 ht),if_pos ((pb_none _).2 ht)] at h;exact h
            · rw [if_neg (fun h=>ht h.2)] at hC;have hA:bldA mode input info t blind=#[int u64 (px (nt blind (hsh mode input))),int u64 (py (nt blind (hsh mode input))),.bool (pb (nt blind (hsh mode input))),int u64 (px (twp info t)),int u64 (py (twp info t)),.bool (pb (twp info t))]:=by unfold bldA;rw [hC,if_pos rfl,e]
              rw [hC,hA];change Calls _ _ _ _ (fun e w'=>e= .returned (.tuple #[.agg (if pb (twp info t)=true then _ else _),.int .i64 (if pb (twp info t)=true then 3 else 0)])∧_) at h;have hp2: ¬ pb (twp info t)=true:=fun h=>ht ((pb_none _).1 h)
              rw [if_neg hp2,if_neg hp2] at h;exact h
          · rw [if_neg (fun h=>hm h.1)] at hC;have e:bldT mode info t=none:=if_neg hm;have hA:bldA mode input info t blind=#[int u64 (px (nt blind (hsh mode input))),int u64 (py (nt blind (hsh mode input))),.bool (pb (nt blind (hsh mode input))),int u64 0,int u64 0,.bool true]:=by unfold bldA;rw [hC,if_pos rfl,e];rfl
            rw [hC,hA];exact bldS_e mode _ _ blind _ input info w _ _ _ _ _ (by simpa using hm) T E K H TM
section
variable {mode:Int}{key blind r:Nat}{input info:ByteArray}
noncomputable abbrev pubK (key:Nat):Tri:=ptT (nt key gG)
end
abbrev tl (t:Tri):List Value:= [int u64 (t.1:Int),int u64 (t.2.1:Int),.bool t.2.2]
def cTs (ts:List Tri):List Value:=ts.flatMap tl
theorem cTs_at:∀(ts:List Tri) (i:Nat) (t:Tri),ts[i]? =some t→(cTs ts)[i*3]? =some (int u64 (t.1:Int))∧(cTs ts)[i*3+1]? =some (int u64 (t.2.1:Int))∧(cTs ts)[i*3+2]? =some (.bool t.2.2)
  | [],i,p,h=>by simp at h
  | q::r,0,p,h=>by
    simp at h;subst h;exact⟨rfl,rfl,rfl⟩
  | q::r,i+1,p,h=>by
    have ih:=cTs_at r i p (by simpa using h);have e:cTs (q::r)=tl q++cTs r:=rfl;rw [e];refine⟨?_,?_,?_⟩
    · rw [List.getElem?_append_right (by simp;omega)];rw [←ih.1];congr 1;simp;omega
    · rw [List.getElem?_append_right (by simp;omega)];rw [←ih.2.1];congr 1;simp;omega
    · rw [List.getElem?_append_right (by simp;omega)];rw [←ih.2.2];congr 1;simp;omega
theorem cTs_snoc (ts:List Tri)(u:Tri):cTs (ts++ [u])=cTs ts++tl u:=by
  unfold cTs;rw [List.flatMap_append];rfl
theorem cTs_map:∀{ps:List Pt},(∀p∈ps,on p)→cTs (ps.map ptT)=cells3 ps
  | [],_=>rfl
  | p::r,h=>by
    obtain⟨-,e1,e2,e3,-⟩:=ptT_of (h p (by simp));have ih:=cTs_map (ps:=r) (fun q hq=>h q (by simp [hq]));show tl (ptT p)++cTs (r.map ptT)= [int u64 (px p),int u64 (py p),.bool (pb p)]++cells3 r;rw [ih,e1,e2,e3]
theorem own_q {W:World}{B:Nat}{z:Value}{ts:List Tri}(h:W.ownsRow B 34 3 z ts.length (cTs ts)):∃q cap,z= .slice q ts.length cap∧PtQ W q ts:=by
  rcases h.2 with ⟨rfl,h0⟩|⟨g,cap,cur,rfl,hb,hg,hn,hm,hs,ht⟩
  · have:ts= []:=List.eq_nil_of_length_eq_zero h0;subst this;exact⟨none,0,rfl,.inl rfl⟩
  · have key:∀i (t:Tri),ts[i]? =some t→cur[i*3]? =some (int u64 (t.1:Int))∧cur[i*3+1]? =some (int u64 (t.2.1:Int))∧cur[i*3+2]? =some (.bool t.2.2):=fun i t hi=>by
      have hil:=(List.getElem?_eq_some_iff.1 hi).1;obtain⟨c0,c1,c2⟩:=cTs_at ts i t hi;rw [←ht,List.getElem?_take,if_pos (by omega),Array.getElem?_toList] at c0 c1 c2;exact⟨c0,c1,c2⟩
    refine⟨_,cap,rfl,.inr ⟨g,rfl,(Array.getElem?_eq_some_iff.1 hg).1,fun i t hi=> ?_,fun i t hi=> ?_,fun i t hi=> ?_⟩⟩
    · rw [cell_of_row _ _ _ _ _ _ hg,Nat.zero_add];exact(key i t hi).1
    · rw [cell_of_row _ _ _ _ _ _ hg,Nat.zero_add];exact(key i t hi).2.1
    · rw [cell_of_row _ _ _ _ _ _ hg,Nat.zero_add];exact(key i t hi).2.2
theorem dfc_ex (h:Nat)(m:Int)(s t:ByteArray)(es:List Tri)(pc ps:Nat)(t1 t2 tp u:Tri):∃s' t' es' pc' ps' t1' t2' tp',DfC h m s t es.length (cTs es) pc ps (tl t1++tl t2) (tl tp) (tl u) s' t' es'.length (cTs es') pc' ps' (tl t1'++tl t2') (tl tp'):=by
  unfold DfC;rcases(show h=0∨h=1∨h=2∨h=3∨h=4∨h=5∨h=6∨h=7∨(h=8∧m=2)∨(9≤h∨h=8∧ ¬ m=2) by omega) with rfl|rfl|rfl|rfl|rfl|rfl|rfl|rfl|⟨rfl,hm⟩|hh
  · exact⟨s,t,es,pc,ps,t1,t2,u,.inl ⟨rfl,rfl,rfl,rfl,rfl,rfl,rfl,rfl,rfl⟩⟩
  · exact⟨s,t,es,pc,ps,u,t2,tp,.inr (.inl ⟨rfl,rfl,rfl,rfl,rfl,rfl,rfl,rfl,rfl⟩)⟩
  · exact⟨s,t,es,pc,ps,t1,u,tp,.inr (.inr (.inl ⟨rfl,rfl,rfl,rfl,rfl,rfl,rfl,rfl,rfl⟩))⟩
  · exact⟨s,t,[u],pc,ps,t1,t2,tp,.inr (.inr (.inr (.inl ⟨rfl,rfl,rfl,rfl,rfl,rfl,rfl,rfl,rfl⟩)))⟩
  · exact⟨s,t,es,pc,ps+1,t1,t2,tp,.inr (.inr (.inr (.inr (.inl ⟨rfl,rfl,rfl,rfl,rfl,rfl,rfl,rfl,rfl⟩))))⟩
  · exact⟨s,t,es,pc+2305843010818082053,ps,t1,t2,tp,.inr (.inr (.inr (.inr (.inr (.inl ⟨rfl,rfl,rfl,rfl,rfl,rfl,rfl,rfl,rfl⟩)))))⟩
  · exact⟨s,t,es++ [u],pc,ps,t1,t2,tp,.inr (.inr (.inr (.inr (.inr (.inr (.inl ⟨rfl,rfl,rfl,by simp,cTs_snoc es u,rfl,rfl,rfl,rfl⟩))))))⟩
  · exact⟨s++⟨#[120]⟩,t,es,pc,ps,t1,t2,tp,.inr (.inr (.inr (.inr (.inr (.inr (.inr (.inl ⟨rfl,rfl,rfl,rfl,rfl,rfl,rfl,rfl,rfl⟩)))))))⟩
  · exact⟨s,t++⟨#[120]⟩,es,pc,ps,t1,t2,tp,.inr (.inr (.inr (.inr (.inr (.inr (.inr (.inr (.inl ⟨rfl,hm,rfl,rfl,rfl,rfl,rfl,rfl,rfl,rfl⟩))))))))⟩
  · exact⟨s,t,es,pc,ps,t1,t2,tp,.inr (.inr (.inr (.inr (.inr (.inr (.inr (.inr (.inr ⟨hh,rfl,rfl,rfl,rfl,rfl,rfl,rfl,rfl⟩))))))))⟩
theorem bldA_tri (mode:Int)(input info:ByteArray)(t:Tri)(blind:Nat):∃t1 t2:Tri,bldA mode input info t blind=#[int u64 (t1.1:Int),int u64 (t1.2.1:Int),.bool t1.2.2,int u64 (t2.1:Int),int u64 (t2.2.1:Int),.bool t2.2.2]:=by
  unfold bldA;split
  · obtain⟨-,e1,e2,e3,-⟩:=ptT_of (nt_on (hsh_on mode input) blind);obtain⟨-,f1,f2,f3,-⟩:=ptT_of (bldT_on mode info t);exact⟨ptT (nt blind (hsh mode input)),ptT (bldT mode info t),by rw [e1,e2,e3,f1,f2,f3]⟩
  · exact⟨(0,0,false),(0,0,false),rfl⟩
theorem evaK_lt (mode:Int)(key:Nat)(info:ByteArray)(es:List Tri)(r:Nat):(evaK mode key info es r).1<2305843010818082053∧(evaK mode key info es r).2<2305843010818082053:=by
  unfold evaK;split
  · split
    · exact⟨prvC_lt _ _ _ _ _ _ _,prvN_lt _ _ _ _ _ _ _⟩
    · split
      · exact⟨prvC_lt _ _ _ _ _ _ _,prvN_lt _ _ _ _ _ _ _⟩
      · exact⟨by decide,by decide⟩
  · exact⟨by decide,by decide⟩
theorem dfin_uni (v:Value)(w0:World)(hv:Cod w0 v):
    ∃(m:Int) (s t:ByteArray) (bl pc ps:Nat) (es:List Tri) (t1 t2 tp:Tri),∀w,Bl w0 w→Calls prog 22 #[v] w fun e w'=>(∃q cap,e= .returned (.tuple #[.int .i64 m,.string s,.string t,int u64 (bl:Int),.agg #[.slice q es.length cap,int u64 (pc:Int),int u64 (ps:Int)],.agg #[int u64 (t1.1:Int),int u64 (t1.2.1:Int),.bool t1.2.2,int u64 (t2.1:Int),int u64 (t2.2.1:Int),.bool t2.2.2],.agg #[int u64 (tp.1:Int),int u64 (tp.2.1:Int),.bool tp.2.2]])∧PtQ w' q es)∧Bl w w':=by
  obtain⟨m,s,t,p1,hm,hs,ht,hp1,TX⟩:=dtxt_uni v 0 w0 hv (by omega);obtain⟨k,hk,K1⟩:=dkey_uni v p1 w0 hv (by omega);obtain⟨bl,hbl,K2⟩:=dkey_uni v (p1+11) w0 hv (by omega);obtain⟨r,hr,SC⟩:=dscal_uni v (p1+11+11) w0 hv (by omega);obtain⟨h,hh,TK⟩:=take_uni v (p1+11+11+10) 24 w0 hv (by omega) (by omega) (by omega);obtain⟨x,y,c,hx,hy,AP⟩:=dany_uni v (p1+11+11+10+1) w0 hv (by omega);obtain⟨-,k1,k2,k3,-⟩:=ptT_of (nt_on gG_on k);obtain⟨t1,t2,hB⟩:=bldA_tri m s t (pubK k) bl;have BL:=fun w=>bldS_any m s t (pubK k) bl w
  rw [hB] at BL;have hrm:r%2305843010818082053<2305843010818082053:=Nat.mod_lt _ (by decide);have EV:=fun (w':World) (g:Nat) (hb:Bk w' 34 g #[int u64 (t1.1:Int),int u64 (t1.2.1:Int),.bool t1.2.2])=>evaS_any m k t [t1] (r%2305843010818082053) g 1 w' (Pts.one hb)
  obtain⟨hpc,hps⟩:=evaK_lt m k t [t1] (r%2305843010818082053);obtain⟨es,hes⟩:∃es,es=(evaG m k t [t1] (r%2305843010818082053)).map ptT:=⟨_,rfl⟩;have hl:(evaG m k t [t1] (r%2305843010818082053)).length=es.length:=by rw [hes,List.length_map]
  have hc:cells3 (evaG m k t [t1] (r%2305843010818082053))=cTs es:=by rw [hes];exact(cTs_map (evaG_on _ _ _ _ _)).symm
  have hn:es.length≤1000:=by
    rw [←hl];unfold evaG;split
    · rw [evaE_length];simp
    · simp
  rw [hl,hc] at EV;clear hl hc hes;generalize evaK m k t [t1] (r%2305843010818082053)=K at*;obtain⟨s',t',es',pc',ps',t1',t2',tp',hC⟩:=dfc_ex h m s t es K.1 K.2 t1 t2 (pubK k) (x,y,c);refine⟨m,s',t',bl,pc',ps',es',t1',t2',tp',fun w hw=> ?_⟩
  refine(dfn_of v w m p1 (p1+11:Nat) (p1+11+11:Nat) (p1+11+11+10:Nat) (p1+11+11+10+1:Nat) _ _ _ x y _ _ _ _ _ _ (r%2305843010818082053:Nat) s t s' t' k bl r h es.length es'.length K.1 K.2 pc' ps' c _ _ _ (cTs es) (cTs es') (tl t1'++tl t2') (tl tp') (fun w' hb=>TX w' (hw.tr hb)) (fun w' hb=>K1 w' (hw.tr hb)) (fun w' hb=>K2 w' (hw.tr hb)) (fun w' hb=>SC w' (hw.tr hb)) (fun w' hb=>TK w' (hw.tr hb)) (fun w' hb=>AP w' (hw.tr hb)) (fun w=>baseS' w) (fun w=>by
    have:=bsT k w hk;rw [k1,k2,k3] at this
    exact this) BL rfl EV hs ht hpc hps hn hC).mono ?_
  rintro e w' ⟨⟨z,rfl,ho⟩,b⟩;obtain⟨q,cap,rfl,hq⟩:=own_q ho;exact⟨⟨q,cap,rfl,hq⟩,b⟩
end
end Go.Proofs.YtmjniccfjffclaaGreatDoor
