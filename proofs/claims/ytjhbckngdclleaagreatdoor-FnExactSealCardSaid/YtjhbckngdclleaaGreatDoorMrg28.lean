import Derived.Test.YtjhbckngdclleaaGreatDoorMrg27
set_option linter.unusedVariables false
set_option maxRecDepth 100000
set_option maxHeartbeats 16000000
namespace Go.Proofs.YtjhbckngdclleaaGreatDoor
open Go.Proofs.Tryz Go.RowKit
open Go.Value (int)
open Go.IntKind (u64)
theorem below_owns {w w':World}{B:Nat}{e:TypeId}{v:Value}{n:Nat}{xs:List Value}(h:w.ownsRow B e 1 v n xs)(hb:Bl w w'):w'.ownsRow B e 1 v n xs:=by
  refine⟨h.1,?_⟩;rcases h.2 with h2|⟨g,cap,cur,hv,hbg,hg,hr⟩
  · exact .inl h2
  · refine .inr ⟨g,cap,cur,hv,hbg,?_,hr⟩;rw [hb.block g (Array.getElem?_eq_some_iff.1 hg).1];exact hg
theorem below_builder {T e:TypeId}{B b:Nat}{p:Value}{bs:List Value}{w w':World}(h:Lib.BuilderAt T e B b p bs w)(hb:Bl w w'):Lib.BuilderAt T e B b p bs w':=by
  have hl:=h.lt;obtain⟨hB,v,hbk,hown,hne⟩:=h;exact⟨hB,v,by rw [hb.block b hl];exact hbk,below_owns hown hb,hne⟩
def catA (t:ByteArray)(l:List ByteArray):ByteArray:=l.foldl (· ++ ·) t
theorem strCells_byt (s:ByteArray):Lib.strCells s=Lib.byteCells s.data.toList:=rfl
theorem byteCells_app (a b:ByteArray):Lib.byteCells a.data.toList++Lib.strCells b=Lib.byteCells (a++b).data.toList:=by
  rw [strCells_byt];unfold Lib.byteCells;rw [←List.map_append];simp
theorem mk_data (s:ByteArray):(⟨s.data.toList.toArray⟩:ByteArray)=s:=by cases s;simp
theorem withI_any (t:ByteArray)(g n:Nat)(L:List (Value×ByteArray))(w:World)(hl:L.length=n)(hn:n≤100)(hg:g<w.heap.size)
    (hc:∀i v s,L[i]? =some (v,s)→w.cell? ⟨g,i,none⟩=some v∧Writ v s)(hz:∀i,i≤n→(catA t ((L.take i).map (·.2))).size≤300000):
    Cr 105 #[.string t,.slice (some ⟨g,0,none⟩) n n] w (.string (catA t (L.map (·.2)))):=by
  have WS:=fun b bs s w h hlen=>Any.Builder_WriteString (P:=prog) (ρ:=renRepeat) {laysRepeat with} extraRepeat w.heap.size b bs s w h hlen
  obtain⟨R,hR⟩:∃R,Hid (R=catA t (L.map (·.2))):=⟨_,rfl⟩;rw [←hR.out];have hc':Hid (∀i v s,L[i]? =some (v,s)→w.cell? ⟨g,i,none⟩=some v∧Writ v s):=hc;have hz':Hid (∀i,i≤n→(catA t ((L.take i).map (·.2))).size≤300000):=hz;clear hc hz WS
  have hB0:Lib.IsBuilder 239 5 w.heap.size w.heap.size [] (w.alloc (.cells #[.pointer none,.slice none 0 0] 239)):=
    .inl ⟨Nat.le_refl _,.slice none 0 0,heap_alloc_new w _,⟨rfl,.inl ⟨rfl,rfl⟩⟩,by simp [Value.ownBlock]⟩
  have hb0:=balc w (Obj.cells #[.pointer none,.slice none 0 0] 239);have hts:=hz'.out 0 (by omega);rw [show catA t ((L.take 0).map (·.2))=t from rfl] at hts;have W1:=Any.Builder_WriteString (P:=prog) (ρ:=renRepeat) {laysRepeat with} extraRepeat w.heap.size w.heap.size [] t (w.alloc (.cells #[.pointer none,.slice none 0 0] 239)) hB0 (by simp;omega) (by simp);go_enter func105,ntmps105;go_wp2_with fail;refine W1.mono ?_;rintro e w1 ⟨rfl,hB1,b1⟩;replace hb0:=hb0.trans b1;clear W1 hB0 b1
  have hB1':Lib.BuilderAt 239 5 w.heap.size w.heap.size (.pointer (some ⟨w.heap.size,0,none⟩)) (Lib.byteCells (catA t ((L.take 0).map (·.2))).data.toList) w1:=by
    have: []++Lib.strCells t=Lib.byteCells (catA t ((L.take 0).map (·.2))).data.toList:=by simp [catA,strCells_byt]
    rw [←this];exact hB1
  clear hB1;go_wp2
  go_loopw [12] (fun iv wr=>∃j:Nat,j≤n∧iv= .int .i64 (j:Int)∧Lib.BuilderAt 239 5 w.heap.size w.heap.size (.pointer (some ⟨w.heap.size,0,none⟩)) (Lib.byteCells (catA t ((L.take j).map (·.2))).data.toList) wr∧Bl w wr) (fun i _=>n-(intOf i).toNat)
  case atStart=>exact ⟨0,by omega,rfl,hB1',hb0⟩
  case round=>
    clear hB1' hb0;obtain⟨j,hj,rfl,hBj,hbl⟩:=hrel;by_cases hlt:j<n
    · have hli:(j:Int)<(n:Int):=by omega
      obtain⟨⟨v,s⟩,hvs⟩:∃vs,L[j]? =some vs:=⟨_,List.getElem?_eq_getElem (by omega)⟩;obtain⟨hcell,T,x,F,rfl,hme,hcf,hwr⟩:=hc'.out j v s hvs;have c0:=(hbl.cell (p:=⟨g,j,none⟩) hg).trans hcell;have hz1:=hz'.out (j+1) (by omega)
      have hstep:Hid (catA t ((L.take j).map (·.2))++s=catA t ((L.take (j+1)).map (·.2))):=by
        simp only [Hid];rw [List.take_add_one,hvs];simp [catA]
      have hzj:(catA t ((L.take j).map (·.2))).size+s.size≤300000:=by rw [←ByteArray.size_append,hstep.out];exact hz1
      clear hz1 hvs hcell;go_wp2_with fail;refine(hwr _).mono ?_;rintro e w2 ⟨rfl,b2⟩;replace hBj:=below_builder hBj b2;replace hbl:=hbl.tr b2;clear hwr b2 c0 hme hcf;have W2:=Any.Builder_WriteString (P:=prog) (ρ:=renRepeat) {laysRepeat with} extraRepeat w.heap.size w.heap.size _ s w2 (.inr hBj) (by rw [Lib.byteCells_length,Array.length_toList];exact Nat.le_trans hzj (by decide)) hbl.size;rw [byteCells_app,hstep.out] at W2;clear hstep hzj hBj;go_wp2_with fail;refine W2.mono ?_;rintro e w3 ⟨rfl,R1,b3⟩;have R2:=hbl.trans b3;clear W2 b3 hbl;go_wp2;go_roundw
      case rel=>
        first
          |exact ⟨j+1,by omega,by go_num,R1,R2⟩
          |((repeat apply Exists.intro);exact⟨⟨j+1,by omega,by go_num,R1,R2⟩,rfl⟩)
      case measure=>simp [intOf];omega
    · obtain rfl:j=n:=by omega
      rw [List.take_of_length_le (by omega),←hR.out] at hBj;have S1:=Any.Builder_String_any (P:=prog) (ρ:=renRepeat) {laysRepeat with} extraRepeat w.heap.size w.heap.size R.data.toList wr (.inr hBj) hbl.size;rw [mk_data] at S1;clear hBj hR hc' hz';go_wp2_with fail;refine S1.mono ?_;rintro e w2 ⟨rfl,b2⟩;go_wp2;go_ret;exact⟨rfl,hbl.trans b2⟩
def ctxB (k:Nat):ByteArray:=⟨#[84,79,89,80,82,70,45]⟩++(⟨#[48,49,50]⟩:ByteArray).extract k (k+1)++⟨#[45,77,54,49]⟩
theorem tagB_ctx (word:ByteArray)(k:Nat):tagB word k=word++ctxB k:=by
  unfold tagB ctxB;rw [←ByteArray.append_assoc,←ByteArray.append_assoc]
theorem ctxB_size (k:Nat)(h:k<3):(ctxB k).size=12:=by
  rcases(show k=0∨k=1∨k=2 by omega) with rfl|rfl|rfl<;>rfl
theorem smlI (k:Nat)(w:World)(hk:k<3):
    Calls prog 234 #[.int .i64 k] w fun e w'=>e= .returned (.string ((⟨#[48,49,50]⟩:ByteArray).extract k (k+1)))∧w=w':=by
  rcases(show k=0∨k=1∨k=2 by omega) with rfl|rfl|rfl
  · go_enter func234,ntmps234;go_wp2;go_ret;exact⟨congrArg (fun s=>Ending.returned (Value.string s)) (by kernel_rfl),rfl⟩
  · go_enter func234,ntmps234;go_wp2;go_ret;exact⟨congrArg (fun s=>Ending.returned (Value.string s)) (by kernel_rfl),rfl⟩
  · go_enter func234,ntmps234;go_wp2;go_ret;exact⟨congrArg (fun s=>Ending.returned (Value.string s)) (by kernel_rfl),rfl⟩
theorem fmtI_of (k:Int)(s:ByteArray)(w:World)(h0:0≤k)(h1:k<100)
    (L:∀w,Calls prog 234 #[.int .i64 k] w fun e w'=>e= .returned (.string s)∧w=w'):
    Calls prog 226 #[.int .i64 k,.int .i64 10] w fun e w'=>e= .returned (.string s)∧w=w':=by
  go_enter func226,ntmps226;go_wp2_with fail;refine(L _).mono ?_;rintro e w1 ⟨rfl,rfl⟩;go_wp2;go_ret;exact⟨rfl,rfl⟩
theorem itoI_of (k:Int)(s:ByteArray)(w:World)
    (L:∀w,Calls prog 226 #[.int .i64 k,.int .i64 10] w fun e w'=>e= .returned (.string s)∧w=w'):
    Calls prog 194 #[.int .i64 k] w fun e w'=>e= .returned (.string s)∧w=w':=by
  go_enter func194,ntmps194;go_wp2_with fail;refine(L _).mono ?_;rintro e w1 ⟨rfl,rfl⟩;go_wp2;go_ret;exact⟨rfl,rfl⟩
theorem itoP_of (k:Int)(s:ByteArray)(w:World)
    (L:∀w,Calls prog 194 #[.int .i64 k] w fun e w'=>e= .returned (.string s)∧w=w'):
    Calls prog 162 #[.int .i64 k] w fun e w'=>e= .returned (.string s)∧w=w':=by
  go_enter func162,ntmps162;go_wp2_with fail;refine(L _).mono ?_;rintro e w1 ⟨rfl,rfl⟩;go_wp2;go_ret;exact⟨rfl,rfl⟩
theorem ctxI_yes (k:Nat)(w:World)(hk:k<3):
    Calls prog 109 #[.int .i64 k] w fun e w'=>e= .returned (.tuple #[.string (ctxB k),.bool true])∧w=w':=by
  have L:=fun w=>itoP_of k _ w (fun w=>itoI_of k _ w (fun w=>fmtI_of k _ w (by omega) (by omega) (fun w=>smlI k w hk)))
  have hs:((⟨#[48,49,50]⟩:ByteArray).extract k (k+1)).size=1:=by
    rcases(show k=0∨k=1∨k=2 by omega) with rfl|rfl|rfl<;>rfl
  unfold ctxB;generalize (⟨#[48,49,50]⟩:ByteArray).extract k (k+1)=D at*;have g1: ¬ (k:Int)<0:=by omega
  have g2: ¬ (3:Int)≤(k:Int):=by omega
  have q1: ¬ (9223372036854775807<(ByteArray.mk #[84,79,89,80,82,70,45]).size+D.size):=by rw [hs];decide
  have q2: ¬ (9223372036854775807<(ByteArray.mk #[84,79,89,80,82,70,45]++D).size+(ByteArray.mk #[45,77,54,49]).size):=by rw [ByteArray.size_append,hs];decide
  go_enter func109,ntmps109;go_wp2_with fail;refine(L _).mono ?_;rintro e w1 ⟨rfl,rfl⟩;clear L hk;go_wp2;go_ret2;exact⟨rfl,rfl⟩
theorem tagI_any (c word:ByteArray)(w:World)(h1:c.size≤1000)(h2:word.size≤1000):
    Cr 112 #[.string c,.string word] w (.string (word++c)):=by
  go_enter func112,ntmps112;go_wp2;go_ret;exact⟨rfl,Below.refl _ _⟩
theorem catA_le (t:ByteArray):∀(l r:List ByteArray),(catA t l).size≤(catA t (l++r)).size:=by
  intro l r;unfold catA;rw [List.foldl_append];generalize List.foldl (· ++ ·) t l=u
  induction r generalizing u with
  |nil=>exact Nat.le_refl _
  | cons a r ih=>
    rw [List.foldl_cons];refine Nat.le_trans ?_ (ih (u++a));rw [ByteArray.size_append];omega
theorem with_blk (t:ByteArray)(L:List (Value×ByteArray))(g n:Nat)(T:TypeId)(cs:Array Value)(w:World)(hr:w.heap[g]? =some (.cells cs T))(hcs:cs.toList=L.map (·.1))(hl:L.length=n)(hn:n≤100)(hW:∀vs∈L,Writ vs.1 vs.2)
    (hz:(catA t (L.map (·.2))).size≤300000):
    Cr 105 #[.string t,.slice (some ⟨g,0,none⟩) n n] w (.string (catA t (L.map (·.2)))):=by
  refine withI_any t g n L w hl hn (Array.getElem?_eq_some_iff.1 hr).1 (fun i v s hi=>⟨?_,hW _ (List.mem_of_getElem? hi)⟩) (fun i hi=> ?_)
  · rw [cell_of_row _ _ _ _ _ _ hr,←Array.getElem?_toList,hcs,List.getElem?_map,hi];rfl
  · refine Nat.le_trans ?_ hz;have:=catA_le t ((L.take i).map (·.2)) ((L.drop i).map (·.2));rwa [←List.map_append,List.take_append_drop] at this
theorem ansU_err (s:Int)(v:Value)(c:Int)(a0 a1 a2 a3:Addr)(w:World)(hs:Sn w a0 a1 a2 a3)(hv:Er a0 a1 a2 a3 v c):
    Cr 56 #[int u64 s,v] w (.tuple #[int u64 0,.int .i64 c]):=by
  obtain⟨⟨T,x,rfl⟩,C⟩:=hv;go_enter func56,ntmps56;go_wp2_with fail;refine(C _ hs).mono ?_;rintro e w1 ⟨rfl,b1⟩;go_wp2;go_ret2;exact⟨rfl,b1⟩
theorem bel_dr {n:Nat}{w W:World}(h:Below n w W)(m:Nat):Below n w (W.drewN m):=⟨h.os,h.tape,h.output,h.size,h.block⟩
section
variable (mode:Int)(seed info cx:ByteArray)(a0 a2:Addr)(w:World)(hs:So w a0 a2)
include hs
variable (C:∀w,Calls prog 109 #[.int .i64 mode] w fun e w'=>e= .returned (.tuple #[.string cx,.bool true])∧w=w')
include C
theorem dkO_run (f:Nat→Nat)(T1 tg:ByteArray)(B TX:Nat→ByteArray)(hz:((seed.size:Int) !=32)=false)(hi: ¬ (60000:Int)<(info.size:Int))
    (Q1:∀i (w:World),w.heap[i]? =some (.cells #[.iface 156 (.string info)] 243)→Cr 105 #[.string seed,.slice (some ⟨i,0,none⟩) 1 1] w (.string T1))
    (BE:∀(j:Nat) (w:World),j<256→Cr 111 #[int u64 (j:Int),.int .i64 1] w (.string (B j)))
    (Q2:∀(j i:Nat) (w:World),j<256→w.heap[i]? =some (.cells #[.iface 155 (.string (B j))] 243)→Cr 105 #[.string T1,.slice (some ⟨i,0,none⟩) 1 1] w (.string (TX j)))
    (TG:Cc 112 #[.string cx,.string dkW] (.string tg))
    (H:∀(j:Nat) (w':World),j<256→Bl w w'→Cr 110 #[.string (TX j),.string tg] w' (.tuple #[.agg #[int u64 (f j:Nat)],.bool true])):
    Cr 57 #[.int .i64 mode,.string seed,.string info] w (.tuple #[int u64 ((dkR f 0 256).1:Nat),if (dkR f 0 256).2=0 then .nilIface else flt ⟨#[107,101,121]⟩ (sen a2)]):=by
  obtain⟨R,hR⟩:∃R,Hid (R=dkR f 0 256):=⟨_,rfl⟩;rw [←hR.out];obtain⟨V,hV⟩:∃V,Hid (V=(if R.2=0 then Value.nilIface else flt ⟨#[107,101,121]⟩ (sen a2))):=⟨_,rfl⟩;rw [←hV.out];unfold dkW at TG;have BE':Hid (∀(j:Nat) (w:World),j<256→Cr 111 #[int u64 (j:Int),.int .i64 1] w (.string (B j))):=BE;have Q2':Hid (∀(j i:Nat) (w:World),j<256→w.heap[i]? =some (.cells #[.iface 155 (.string (B j))] 243)→Cr 105 #[.string T1,.slice (some ⟨i,0,none⟩) 1 1] w (.string (TX j))):=Q2;have H':Hid (∀(j:Nat) (w':World),j<256→Bl w w'→Cr 110 #[.string (TX j),.string tg] w' (.tuple #[.agg #[int u64 (f j:Nat)],.bool true])):=H;clear BE Q2 H;go_enter func57,ntmps57;go_wp2_with fail;refine(C _).mono ?_;rintro e w1 ⟨rfl,rfl⟩;clear C;have hal:=balc w (Obj.cells #[.iface 156 (.string info)] 243);go_wp2_with fail;refine(Q1 _ _ (heap_alloc_new w _)).mono ?_;rintro e w2 ⟨rfl,b2⟩;have hb:=hal.tr b2;clear Q1 b2 hal;go_wp2
  go_loopw [41] (fun iv wr=>∃j:Nat,j≤256∧iv=int u64 (j:Int)∧Hid (R=dkR f j (256-j))∧Bl w wr) (fun i _=>256-(intOf i).toNat)
  case atStart=>exact ⟨0,by omega,rfl,hR,hb⟩
  case round=>
    clear hb hR;obtain⟨j,hj,rfl,hRj,hbl⟩:=hrel;by_cases hlt:j<256
    · have hli:(j:Int)<256:=by omega
      have BJ:=fun w=>BE'.out j w hlt
      have QJ:=fun i w h=>Q2'.out j i w hlt h
      have HJ:=fun w' h=>H'.out j w' hlt h
      generalize B j=Bj at*;generalize TX j=TXj at*;go_wp2_with fail;refine(BJ _).mono ?_;rintro e w3 ⟨rfl,b1⟩;have hal:=balc w3 (Obj.cells #[.iface 155 (.string Bj)] 243);replace hbl:=hbl.tr b1;replace hbl:=hbl.tr hal;clear BJ b1 hal;go_wp2_with fail;refine(QJ _ _ (heap_alloc_new w3 _)).mono ?_;rintro e w4 ⟨rfl,b1⟩;replace hbl:=hbl.tr b1;clear QJ b1;go_wp2_with fail;refine(TG _).mono ?_;rintro e w5 ⟨rfl,b1⟩;replace hbl:=hbl.tr b1;clear b1;go_wp2_with fail;refine(HJ _ hbl).mono ?_;rintro e w6 ⟨rfl,b1⟩;have hal:=balc w6 (Obj.cells #[int u64 ((f j:Nat):Int)] 140);have r12:RN (w6.alloc (.cells #[int u64 ((f j:Nat):Int)] 140)) w6.heap.size ((f j:Nat):Int):=heap_alloc_new w6 _;replace hbl:=hbl.tr b1;replace hbl:=hbl.tr hal;clear HJ b1 hal;have c0:=r12.cell;by_cases hz:f j=0
      · have hz':(((f j:Nat):Int) !=0)=false:=by simp [hz]
        have hRn:Hid (R=dkR f (j+1) (256-(j+1))):=by unfold Hid;rw [hRj.out,dkR_step hlt hz]
        clear hRj hz;go_wp2;go_roundw
        case rel=>
          first
            |exact ⟨j+1,by omega,by go_num,hRn,hbl⟩
            |((repeat apply Exists.intro);exact⟨⟨j+1,by omega,by go_num,hRn,hbl⟩,rfl⟩)
        case measure=>simp [intOf];omega
      · have hz':(((f j:Nat):Int) !=0)=true:=by simp;omega
        have hRn:R=(f j,0):=by rw [hRj.out,dkR_hit hlt hz]
        clear hRj hz;subst hRn;have hV':V= .nilIface:=by rw [hV.out];rfl
        subst hV';go_wp2;go_ret2;exact⟨rfl,hbl⟩
    · obtain rfl:j=256:=by omega
      have hRn:R=(0,3):=by rw [hRj.out];rfl
      clear hRj;subst hRn;have hV':V=flt ⟨#[107,101,121]⟩ (sen a2):=by rw [hV.out,if_neg (by decide)]
      subst hV';have g2:=(hs.keep hbl).c2;clear hV;unfold flt sen at*;go_wp2;go_quiet (fail);go_wp2;go_ret2;exact⟨rfl,bel_dr hbl _⟩
end
end Go.Proofs.YtjhbckngdclleaaGreatDoor
