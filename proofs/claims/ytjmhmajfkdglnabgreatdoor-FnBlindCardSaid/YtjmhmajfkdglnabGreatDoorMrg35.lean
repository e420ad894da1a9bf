import Derived.Test.YtjmhmajfkdglnabGreatDoorMrg34
set_option linter.unusedVariables false
set_option maxRecDepth 100000
set_option maxHeartbeats 16000000
namespace Go.Proofs.YtjmhmajfkdglnabGreatDoor
open Go.Proofs.Tryz Go.RowKit
open Go.Value (int)
open Go.IntKind (u64)
section
open M
theorem ptT_of {p:Pt}(hp:on p):asT (ptT p)=p∧px p=((ptT p).1:Int)∧py p=((ptT p).2.1:Int)∧pb p=(ptT p).2.2∧onT (ptT p)=true:=by
  obtain⟨t,h1,h2,h3,h4,h5⟩:=pt_nat hp
  have e:ptT p=t:=by
    obtain⟨x,y,z⟩:=t;unfold ptT;rw [h2,h3,h4];simp
  rw [e];exact⟨h1,h2,h3,h4,h5⟩
noncomputable def evaC (mode:Int) (key:Nat) (info:ByteArray) (es:List Tri) (r:Nat):Int:=
  if txtB mode 0 info.size=true∧keyB key=true∧r<2305843010818082053∧(1≤es.length∧es.length≤200)∧es.all elT=true then facC mode key info else 1
noncomputable def evaE (mode:Int) (key:Nat) (info:ByteArray) (es:List Tri):List Pt:=es.map fun t=>nt (facB mode key info) (asT t)
noncomputable def evaG (mode:Int) (key:Nat) (info:ByteArray) (es:List Tri) (r:Nat):List Pt:=if evaC mode key info es r=0 then evaE mode key info es else []
noncomputable def evaL (mode:Int) (key:Nat) (info:ByteArray) (es:List Tri) (r:Nat):List Tri:=(evaG mode key info es r).map ptT
noncomputable def evaU (mode:Int) (key:Nat) (info:ByteArray):Tri:=ptT (nt (facT mode key info) gG)
noncomputable def evaK (mode:Int) (key:Nat) (info:ByteArray) (es:List Tri) (r:Nat):Nat×Nat:=
  if evaC mode key info es r=0 then
    (if mode=1 then (prvC 1 (facT mode key info) r gT (evaU mode key info) es ((evaE mode key info es).map ptT),prvN 1 (facT mode key info) r gT (evaU mode key info) es ((evaE mode key info es).map ptT))
    else if mode=2 then (prvC 2 (facT mode key info) r gT (evaU mode key info) ((evaE mode key info es).map ptT) es,prvN 2 (facT mode key info) r gT (evaU mode key info) ((evaE mode key info es).map ptT) es)
    else (0,0))
  else (0,0)
theorem evaE_on (mode:Int)(key:Nat)(info:ByteArray)(es:List Tri):∀p∈evaE mode key info es,on p:=fun p hp=>by
  obtain⟨t,-,rfl⟩:=List.mem_map.1 hp;exact nt_on (asT_on t) _
theorem evaE_length (mode:Int)(key:Nat)(info:ByteArray)(es:List Tri):(evaE mode key info es).length=es.length:=by simp [evaE]
theorem evaU_of (mode:Int)(key:Nat)(info:ByteArray):asT (evaU mode key info)=nt (facT mode key info) gG∧onT (evaU mode key info)=true:=by
  have:=ptT_of (nt_on gG_on (facT mode key info));exact⟨this.1,this.2.2.2.2⟩
theorem map_asT_ptT {ps:List Pt}(h:∀p∈ps,on p):(ps.map ptT).map asT=ps:=by
  rw [List.map_map]
  conv=>rhs;rw [←List.map_id ps]
  exact List.map_congr_left fun p hp=>(ptT_of (h p hp)).1
theorem evaC_no {mode:Int}{key:Nat}{info:ByteArray}{es:List Tri}{r:Nat}(h: ¬ (txtB mode 0 info.size=true∧keyB key=true∧r<2305843010818082053∧(1≤es.length∧es.length≤200)∧es.all elT=true)):evaC mode key info es r=1:=if_neg h
theorem evaC_yes {mode:Int}{key:Nat}{info:ByteArray}{es:List Tri}{r:Nat}(h:txtB mode 0 info.size=true∧keyB key=true∧r<2305843010818082053∧(1≤es.length∧es.length≤200)∧es.all elT=true):evaC mode key info es r=facC mode key info:=if_pos h
theorem eva_none {mode:Int}{key:Nat}{info:ByteArray}{es:List Tri}{r:Nat}(h: ¬ evaC mode key info es r=0):evaG mode key info es r= []∧evaK mode key info es r=(0,0):=⟨if_neg h,if_neg h⟩
theorem eva_bat {mode:Int}{key:Nat}{info:ByteArray}{es:List Tri}(h:1≤es.length∧es.length≤200)(he:es.all elT=true):
    batB 1 gT (evaU mode key info) es ((evaE mode key info es).map ptT)=true∧batB 2 gT (evaU mode key info) ((evaE mode key info es).map ptT) es=true:=by
  have h1:∀t∈es,onT t=true:=fun t ht=>elT_on (List.all_eq_true.1 he t ht)
  have h2:∀t∈(evaE mode key info es).map ptT,onT t=true:=fun t ht=>by
    obtain⟨p,hp,rfl⟩:=List.mem_map.1 ht;exact(ptT_of (evaE_on _ _ _ _ p hp)).2.2.2.2
  have hl:((evaE mode key info es).map ptT).length=es.length:=by rw [List.length_map,evaE_length]
  refine⟨(batB_iff _ _ _ _ _).2 ⟨by omega,onT_g,(evaU_of mode key info).2,h,hl.symm,h1,h2⟩,(batB_iff _ _ _ _ _).2 ⟨by omega,onT_g,(evaU_of mode key info).2,by rw [hl];exact h,hl,h2,h1⟩⟩
theorem inv_mod {k:Nat}(h:1≤k∧k<2305843010818082053):k*M.ivn 2305843010818082053 k%2305843010818082053=1:=by
  have e:M.ivn 2305843010818082053 k%2305843010818082053=M.ivn 2305843010818082053 k:=Nat.mod_eq_of_lt (ivn_lt' _ _ (by decide));have:=M.Root.iv M.rootN k (by rw [Nat.mod_eq_of_lt h.2];omega) (by decide);rwa [e] at this
theorem nt_one' {p:Pt}(hp:on p):nt 1 p=p:=by
  show ad none p=p;rcases p with _|⟨x,y⟩<;>rfl
theorem nt_inv {p:Pt}(hp:on p){k:Nat}(h:1≤k∧k<2305843010818082053):nt (M.ivn 2305843010818082053 k) (nt k p)=p:=by
  rw [nt_mul hp,Nat.mul_comm,←nt_mod hp,inv_mod h];exact nt_one' hp
theorem nt_inv' {p:Pt}(hp:on p){k:Nat}(h:1≤k∧k<2305843010818082053):nt k (nt (M.ivn 2305843010818082053 k) p)=p:=by
  rw [nt_mul hp,←nt_mod hp,inv_mod h];exact nt_one' hp
theorem nt_nz {p:Pt}(hp:on p)(h0:p≠none){k:Nat}(h:1≤k∧k<2305843010818082053):nt k p≠none:=fun e=>h0 (by rw [←nt_inv hp h,e,nt_none])
theorem nt_nzi {p:Pt}(hp:on p)(h0:p≠none){k:Nat}(h:1≤k∧k<2305843010818082053):nt (M.ivn 2305843010818082053 k) p≠none:=fun e=>h0 (by rw [←nt_inv' hp h,e,nt_none])
theorem elT_ptT {p:Pt}(hp:on p)(h0:p≠none):elT (ptT p)=true:=by
  obtain⟨-,-,-,h4,h5⟩:=ptT_of hp;unfold elT;rw [h5,←h4]
  cases hb:pb p with
  |false=>rfl
  |true=>exact absurd ((pb_none p).1 hb) h0
theorem ptT_none:ptT none=(0,0,true):=rfl
section
variable {mode:Int}{key blind r:Nat}{input info:ByteArray}
noncomputable abbrev pubK (key:Nat):Tri:=ptT (nt key gG)
theorem asT_pub (key:Nat):asT (pubK key)=nt key gG:=(ptT_of (nt_on gG_on key)).1
theorem gG_nz:gG≠none:=by unfold gG;simp
theorem elT_pub (hk:keyB key=true):elT (pubK key)=true:=elT_ptT (nt_on gG_on key) (nt_nz gG_on gG_nz (keyB_iff.1 hk))
theorem twp_pub (key:Nat)(info:ByteArray):twp info (pubK key)=nt (kt key info) gG:=by
  unfold twp kt;rw [asT_pub,nt_mod gG_on,Nat.add_comm,nt_add gG_on]
noncomputable abbrev elB (mode:Int) (input:ByteArray) (blind:Nat):Tri:=ptT (nt blind (hsh mode input))
theorem asT_elB (mode:Int)(input:ByteArray)(blind:Nat):asT (elB mode input blind)=nt blind (hsh mode input):=(ptT_of (nt_on (hsh_on mode input) blind)).1
theorem bldC_zero {t:Tri}(h:bldC mode input info t blind=0):txtB mode input.size info.size=true∧elT t=true∧keyB blind=true∧hsh mode input≠none∧ ¬ (mode=2∧twp info t=none):=by
  unfold bldC at h;split at h
  · rename_i h1
    split at h
    · cases h
    · rename_i h2
      split at h
      · cases h
      · rename_i h3
        exact⟨h1.1,h1.2.1,h1.2.2,h2,h3⟩
  · cases h
theorem txt_zero (h:txtB mode input.size info.size=true):txtB mode 0 info.size=true:=by
  obtain⟨h1,-,h3,h4⟩:=txtB_iff.1 h;exact txtB_iff.2 ⟨h1,by omega,h3,h4⟩
theorem eva_dir (hk:keyB key=true)(hr:r<2305843010818082053)(h:bldC mode input info (pubK key) blind=0):evaC mode key info [elB mode input blind] r=dirC mode key input info:=by
  obtain⟨h1,-,h3,h4,-⟩:=bldC_zero h;have e:elT (elB mode input blind)=true:=elT_ptT (nt_on (hsh_on mode input) blind) (nt_nz (hsh_on mode input) h4 (keyB_iff.1 h3));rw [evaC_yes ⟨txt_zero h1,hk,hr,⟨by simp,by simp⟩,by simp [e]⟩];unfold dirC;rw [if_pos ⟨h1,hk⟩,if_neg h4]
theorem facC_key (hk:keyB key=true)(h:facC mode key info=0):∃f:Nat,(1≤f∧f<2305843010818082053)∧((mode=2∧f=kt key info∧facT mode key info=f∧facB mode key info=M.ivn 2305843010818082053 f)∨(¬ mode=2∧f=key∧facT mode key info=f∧facB mode key info=f)):=by
  by_cases hm:mode=2
  · have h0:kt key info≠0:=fun e=>by
      unfold facC at h;rw [if_pos ⟨hm,e⟩] at h;cases h
    refine⟨kt key info,⟨Nat.one_le_iff_ne_zero.2 h0,kt_lt _ _⟩,.inl ⟨hm,rfl,if_pos hm,?_⟩⟩;unfold facB;rw [if_pos hm,if_neg h0]
  · exact⟨key,keyB_iff.1 hk,.inr ⟨hm,rfl,if_neg hm,if_neg hm⟩⟩
theorem evaE_one (t:Tri):evaE mode key info [t]= [nt (facB mode key info) (asT t)]:=rfl
theorem fin_dir (hk:keyB key=true)(hr:r<2305843010818082053)(h:bldC mode input info (pubK key) blind=0)(hd:dirC mode key input info=0):
    evaL mode key info [elB mode input blind] r= [ptT (nt (facB mode key info) (nt blind (hsh mode input)))]∧
    finC mode input info blind [ptT (nt (facB mode key info) (nt blind (hsh mode input)))] (evaK mode key info [elB mode input blind] r).1 (evaK mode key info [elB mode input blind] r).2 (elB mode input blind) (ptT (bldT mode info (pubK key))) (pubK key)=0∧
    finO mode input info blind [ptT (nt (facB mode key info) (nt blind (hsh mode input)))] (evaK mode key info [elB mode input blind] r).1 (evaK mode key info [elB mode input blind] r).2 (elB mode input blind) (ptT (bldT mode info (pubK key))) (pubK key)=dirO mode key input info:=by
  have hC:=(eva_dir hk hr h).trans hd;obtain⟨h1,-,h3,h4,h5⟩:=bldC_zero h;have hb:=keyB_iff.1 h3;have hon:=hsh_on mode input;have hel:on (nt blind (hsh mode input)):=nt_on hon _;have hnz:=nt_nz hon h4 hb
  have hfc:facC mode key info=0:=by
    unfold dirC at hd;rwa [if_pos ⟨h1,hk⟩,if_neg h4] at hd
  obtain⟨f,hf,hcase⟩:=facC_key hk hfc;have hE:evaE mode key info [elB mode input blind]= [nt (facB mode key info) (nt blind (hsh mode input))]:=by rw [evaE_one,asT_elB]
  have hL:evaL mode key info [elB mode input blind] r= [ptT (nt (facB mode key info) (nt blind (hsh mode input)))]:=by
    unfold evaL evaG;rw [if_pos hC,hE];rfl
  have hen:nt (facB mode key info) (nt blind (hsh mode input))≠none:=by
    rcases hcase with ⟨-,-,-,e⟩|⟨-,-,-,e⟩
    · rw [e];exact nt_nzi hel hnz hf
    · rw [e];exact nt_nz hel hnz hf
  have heo:on (nt (facB mode key info) (nt blind (hsh mode input))):=nt_on hel _;have hAe:=(ptT_of heo).1;have e1:elT (elB mode input blind)=true:=elT_ptT hel hnz;obtain⟨hb1,hb2⟩:=eva_bat (mode:=mode) (key:=key) (info:=info) (es:= [elB mode input blind]) ⟨by simp,by simp⟩ (by simp [e1]);rw [hE] at hb1 hb2
  have hK:evaK mode key info [elB mode input blind] r=(if mode=1 then (prvC 1 (facT mode key info) r gT (evaU mode key info) [elB mode input blind] [ptT (nt (facB mode key info) (nt blind (hsh mode input)))],prvN 1 (facT mode key info) r gT (evaU mode key info) [elB mode input blind] [ptT (nt (facB mode key info) (nt blind (hsh mode input)))]) else if mode=2 then (prvC 2 (facT mode key info) r gT (evaU mode key info) [ptT (nt (facB mode key info) (nt blind (hsh mode input)))] [elB mode input blind],prvN 2 (facT mode key info) r gT (evaU mode key info) [ptT (nt (facB mode key info) (nt blind (hsh mode input)))] [elB mode input blind]) else (0,0)):=by
    unfold evaK;rw [if_pos hC,hE];rfl
  have hU:=(evaU_of mode key info).1
  have hver :verB mode [ptT (nt (facB mode key info) (nt blind (hsh mode input)))] (evaK mode key info [elB mode input blind] r).1 (evaK mode key info [elB mode input blind] r).2 (elB mode input blind) (ptT (bldT mode info (pubK key))) (pubK key)=true:=by
    unfold verB;by_cases m1:mode=1
    · rw [if_pos m1,hK,if_pos m1];rcases hcase with ⟨m2,-⟩|⟨m2,ef,et,eb⟩
      · omega
      · have eU:evaU mode key info=pubK key:=by unfold evaU;rw [et,ef]
        rw [eU] at hb1 hU⊢;refine chkB_prv 1 (facT mode key info) r gT (pubK key) [elB mode input blind] [ptT (nt (facB mode key info) (nt blind (hsh mode input)))] hb1 (by rw [hU,asT_g]) ?_;simp only [List.map_cons,List.map_nil];rw [hAe,asT_elB,et,eb]
    · rw [if_neg m1];by_cases m2:mode=2
      · rw [if_pos m2,hK,if_neg m1,if_pos m2];rcases hcase with ⟨-,ef,et,eb⟩|⟨m2',-⟩
        · have eT:ptT (bldT mode info (pubK key))=evaU mode key info:=by
            unfold evaU bldT;rw [if_pos m2,twp_pub,et,ef]
          rw [eT];refine chkB_prv 2 (facT mode key info) r gT (evaU mode key info) [ptT (nt (facB mode key info) (nt blind (hsh mode input)))] [elB mode input blind] hb2 (by rw [hU,asT_g]) ?_;simp only [List.map_cons,List.map_nil];rw [hAe,asT_elB,et,eb,nt_inv' hel hf]
        · exact absurd m2 m2'
      · rw [if_neg m2]
  have hlt:(evaK mode key info [elB mode input blind] r).1<2305843010818082053∧(evaK mode key info [elB mode input blind] r).2<2305843010818082053:=by
    rw [hK];by_cases m1:mode=1
    · rw [if_pos m1];exact⟨prvC_lt _ _ _ _ _ _ _,prvN_lt _ _ _ _ _ _ _⟩
    · rw [if_neg m1];by_cases m2:mode=2
      · rw [if_pos m2];exact⟨prvC_lt _ _ _ _ _ _ _,prvN_lt _ _ _ _ _ _ _⟩
      · rw [if_neg m2];exact⟨by decide,by decide⟩
  have htw:twB mode (ptT (bldT mode info (pubK key)))=true:=by
    unfold twB bldT;by_cases m2:mode=2
    · rw [if_pos m2,if_pos m2];exact elT_ptT (twp_on info (pubK key)) (fun e=>h5 ⟨m2,e⟩)
    · rw [if_neg m2,if_neg m2,ptT_none];exact decide_eq_true rfl
  have hev:evB [ptT (nt (facB mode key info) (nt blind (hsh mode input)))] (evaK mode key info [elB mode input blind] r).1 (evaK mode key info [elB mode input blind] r).2=true:=by
    rw [evB_single,elT_ptT heo hen,decide_eq_true hlt.1,decide_eq_true hlt.2];rfl
  have hF:finC mode input info blind [ptT (nt (facB mode key info) (nt blind (hsh mode input)))] (evaK mode key info [elB mode input blind] r).1 (evaK mode key info [elB mode input blind] r).2 (elB mode input blind) (ptT (bldT mode info (pubK key))) (pubK key)=0:=by
    unfold finC;rw [if_pos ⟨h1,rdyB_iff.2 ⟨h3,elT_pub hk,hev,e1,htw⟩⟩,if_pos hver]
  refine⟨hL,hF,?_⟩;unfold finO dirO;rw [hF,hd,if_pos rfl,if_pos rfl];congr 1;show nt (M.ivn 2305843010818082053 blind) (asT (ptT (nt (facB mode key info) (nt blind (hsh mode input)))))=_;rw [hAe,nt_mul hel,Nat.mul_comm,←nt_mul hel,nt_inv hon hb]
end
section
variable {W W':World}{base base':Nat}{e e':TypeId}{s s':Nat}{v v':Value}{n n':Nat}{xs xs':List Value}
theorem own_ne_bk (h:W.ownsRow base e s v n xs){t:TypeId}{b:Nat}{cs:Array Value}(hb:Bk W t b cs)(hne:e≠t):some b≠v.ownBlock:=by
  rcases h.2 with ⟨rfl,_⟩|⟨g,cap,cur,rfl,-,hg,-⟩
  · simp [Value.ownBlock]
  · intro e1;have:b=g:=by simpa [Value.ownBlock] using e1
    subst this;unfold Bk at hb;rw [hb] at hg;injection hg with hg;injection hg with _ h2;exact hne h2.symm
theorem own_ne_own (h:W.ownsRow base e s v n xs)(h':W.ownsRow base' e' s' v' n' xs')(hne:e≠e'):v.ownBlock=none∨v.ownBlock≠v'.ownBlock:=by
  rcases h.2 with ⟨rfl,_⟩|⟨g,cap,cur,rfl,-,hg,-⟩
  · exact .inl rfl
  · exact .inr (own_ne_bk h' (show Bk W e g cur from hg) (fun e=>hne e.symm))
theorem Bk.grown {t:TypeId}{b:Nat}{cs:Array Value}{row:Option Nat}(h:Bk W t b cs)(hg:W.grownBy W' row)(hne:some b≠row):Bk W' t b cs:=(hg.block b h.lt hne).trans h
theorem grown_set (W:World)(b i:Nat)(x:Value):W.grownBy (W.setCell ⟨b,i,none⟩ x) (some b):=⟨rfl,rfl,rfl,by simp,fun k _ hk=>heap_setCell_other W ⟨b,i,none⟩ k x (fun e=>hk (by simp [e]))⟩
theorem own_set (h:W.ownsRow base e s v n xs){b:Nat}(hne:some b≠v.ownBlock)(i:Nat)(x:Value):(W.setCell ⟨b,i,none⟩ x).ownsRow base e s v n xs:=
  h.kept (grown_set W b i x) (.inr (fun e=>hne e.symm))
theorem onev (h:W.ownsRow base e s v n xs)(a b:Int):(#[v,int u64 a,int u64 b]:Array Value).all (·.oneCell')=true:=by
  rcases h.2 with ⟨rfl,_⟩|⟨g,cap,cur,rfl,-⟩<;>simp [Value.oneCell']
theorem grown_sets (W:World)(b o:Nat)(ds:List Value):W.grownBy (W.setCells b o ds) (some b):=
  ⟨World.os_setCells W b o ds,setCells_tape b ds o W,World.output_setCells W b o ds,by rw [setCells_size];exact Nat.le_refl _,fun k hk hne=>World.heap_setCells_other W b o ds hk (fun e=>hne (by rw [e]))⟩
theorem own_sets (h:W.ownsRow base e s v n xs){b:Nat}(hne:some b≠v.ownBlock)(o:Nat)(ds:List Value):(W.setCells b o ds).ownsRow base e s v n xs:=
  h.kept (grown_sets W b o ds) (.inr (fun e=>hne e.symm))
end
end
theorem exP_less (x:Int)(w:World)(h1:x<2305843009213693951):
    Cr 87 #[int u64 x,.agg #[]] w (.tuple #[.agg #[int u64 x],.bool true]):=by
  have hm:=methP;have hbd:=foldP;go_enter func87,ntmps87;go_wp2_with fail;refine(valP _).mono ?_;rintro e w' ⟨rfl,rfl⟩;go_wp2;refine bodyPost_ret (v:= .tuple #[.agg #[int u64 x],.bool true]) (by simp [results,results87,go_sem]) rfl ⟨rfl,?_⟩;exact(((Below.refl _ w).alloc (Nat.le_refl _) _).alloc (by simp) _).alloc (by simp;omega) _
theorem exP_more (x:Int)(w:World)(h1:2305843009213693951≤x):
    Cr 87 #[int u64 x,.agg #[]] w (.tuple #[.agg #[int u64 0],.bool false]):=by
  have hm:=methP;go_enter func87,ntmps87;go_wp2_with fail;refine(valP _).mono ?_;rintro e w' ⟨rfl,rfl⟩;go_wp2;refine bodyPost_ret (v:= .tuple #[.agg #[int u64 0],.bool false]) (by simp [results,results87,go_sem]) rfl ⟨rfl,?_⟩;exact(((Below.refl _ w).alloc (Nat.le_refl _) _).alloc (by simp) _).alloc (by simp;omega) _
end Go.Proofs.YtjmhmajfkdglnabGreatDoor
