import Derived.Test.YtjhbckngdclleaaGreatDoorMrg26
import Derived.Test.YtjhbckngdclleaaGreatDoorMrg25
set_option linter.unusedVariables false
set_option maxRecDepth 100000
set_option maxHeartbeats 16000000
namespace Go.Proofs.YtjhbckngdclleaaGreatDoor
open Go.Proofs.Tryz Go.RowKit
open Go.Value (int)
open Go.IntKind (u64)
theorem step_append_ownN {P:Program}{w:World}{ops:Array Oper}{o:Oper}{a:Act}{K:Act→World→Prop}{Q:Exit→Act→World→Prop}{E:Prop}(hgd:o.guard=none)(s x:Operand)(t:TypeId)
    (ho:o.op= .call {callee:= .builtin .append,args:=#[s,x],argTypes:=#[t,t]})
    (base:Nat)(e:TypeId)(i:TypeInfo)(z:Value)(size bytes:Nat)(ht:P.underlying t=some (.slice e))(hi:P.info? e=some i)(hz:i.zero=some z)
    (hsize:i.size=size)(hby:i.bytes=bytes)(hzs:z.cells.size=size)(hsz:0<size)
    (v:Value)(n:Nat)(xs:List Value)(hs:a.eval s=v)(hown:w.ownsRow base e size v n xs)
    (ad:Addr)(m c:Nat)(news:List Value)(hx:a.eval x= .slice (some ad) m c)(hl:news.length=m*size)(hnews:∀j u,news[j]? =some u→w.cell? (ad.add j)=some u)(h1:∀u∈news,u.oneCell'=true)
    (h63:n+m≤maxLen)(hbytes:(n+m)*bytes≤140737488355328)(hbase:base≤w.heap.size)
    (h:∀v' w',w'.ownsRow base e size v' (n+m) (xs++news)→w.grownBy w' v.ownBlock→(v'= .slice none 0 0↔v= .slice none 0 0∧m=0)→K (a.put o.dst v') w'):
    if Region.wanted o (yielded ops a.tmps)=true then Oper.wp P o a w K Q else E:=by
  have hw:Region.wanted o (yielded ops a.tmps)=true:=by simp [Region.wanted,hgd]
  rw [if_pos hw];exact wp_append_own w s x t ho base e i z size bytes ht hi hz hsize hby hzs hsz v n xs hs hown ad m c news hx hl hnews h1 h63 hbytes hbase h
theorem methN' (w:World):(method 469 138 (.agg #[]) "loop.example/s02095/impl.value").run prog w= .ok (273,.agg #[]) w:=by kernel_rfl
theorem valN' (w:World):
    Calls prog 273 #[.agg #[]] w fun e w'=>e= .returned (int u64 2305843010818082053)∧w'=w.alloc (.cells #[] 138):=by
  go_enter func273,ntmps273;go_wp2;go_ret;exact⟨rfl,rfl⟩
theorem foldN':Array.foldl (fun(cs:Array Value) (x:Value×Nat)=>cs.setIfInBounds x.snd x.fst) #[Value.int IntKind.u64 0] (#[]:Array Value).zipIdx 0 0=#[Value.int .u64 0]:=rfl
theorem redN_of (n c:Int)(w:World)(h0:0≤n)(hc:n.tmod 2305843010818082053=c):
    Cr 196 #[int u64 n,.agg #[]] w (.agg #[int u64 c]):=by
  have hm:=methN';have hf:=foldN';have V:=valN';go_enter func196,ntmps196;go_wp2
  go_region_held3 (fun _=>True) (trivial) ((go_simp;go_at_call 273;refine(V _).mono ?_;rintro e w' ⟨rfl,rfl⟩))
  go_wp2;refine bodyPost_ret (v:= .agg #[int u64 c]) (by simp [results,results196,go_sem]) rfl ⟨rfl,?_⟩;exact((((Below.refl _ w).alloc (Nat.le_refl _) _).alloc (by simp) _).alloc (by simp;omega) _).drew
theorem infoN:(prog.info? 140).map (fun i=>(i.zero,i.size,i.bytes))=some (some (.agg #[int u64 0]),1,8):=by kernel_rfl
def cellsN (H:List Int):List Value:=H.map fun x=>int u64 x
theorem cellsN_app (l r:List Int):cellsN (l++r)=cellsN l++cellsN r:=by simp [cellsN]
theorem h2nN_yes (msg tag:ByteArray)(c:Nat)(w:World)(hT:TabK w)(h:okH msg tag 2305843010818082053 c):
    Calls prog 163 #[.string msg,.string tag,.agg #[],.int .i64 c] w fun e w'=>∃v,e= .returned (.tuple #[v,.bool true])∧w'.ownsRow w.heap.size 140 1 v c (cellsN (h2f (byt msg) (byt tag) 2305843010818082053 c))∧Bl w w':=by
  obtain⟨i0,hi,hz0,hz1,hz2⟩:=info_parts infoN;obtain⟨h1,h2,h3,h4⟩:=h;obtain⟨N,hN⟩:∃N:Nat,N=24*c:=⟨_,rfl⟩;have hNi:(N:Int)=24*(c:Int):=by omega
  have X:=fun w hT=>exmI_yes msg tag N w hT (by rw [hNi];exact h4)
  rw [hNi] at X;have hlen:=expM_length (byt msg) (byt tag) N;have hby:=expM_lt (byt msg) (byt tag) N;have hll:=h2f_length (byt msg) (byt tag) 2305843010818082053 c;have htk:=h2f_take (byt msg) (byt tag) 2305843010818082053 c;rw [←hN] at htk;generalize expM (byt msg) (byt tag) N=L at*;generalize h2f (byt msg) (byt tag) 2305843010818082053 c=H at*;have hzS:(strOfNums L).size=24*c:=by rw [strOfNums_size];omega
  have g1: ¬ (c:Int)<1:=by omega
  have g2: ¬ (340:Int)<(c:Int):=by omega
  have hme:=methN';have hgw:6<w.heap.size:=World.block_lt_of_cell? w _ (hT 0 (by omega));have hbB:Bl w (w.alloc (.cells #[] 138)):=(Below.refl _ _).alloc (Nat.le_refl _) _;have hTB:TabK (w.alloc (.cells #[] 138)):=fun i hi=>(hbB.cell (p:=⟨6,i,none⟩) hgw).trans (hT i hi)
  have V:∀w:World,Cr 273 #[.agg #[]] w (int u64 2305843010818082053):=fun w=>(valN' w).mono fun e w' ⟨h,h'⟩=>⟨h,h'▸(Below.refl _ _).alloc (Nat.le_refl _) _⟩
  go_enter func163,ntmps163;go_wp2_with fail;refine(X _ hTB).mono ?_;rintro e W1 ⟨rfl,hb0⟩;replace hb0:=hbB.tr hb0;clear X hbB hTB;go_wp2
  go_loopw [12,13,14,32] (fun ov _ _ iv wr=>∃k:Nat,k≤c∧iv= .int .i64 (k:Int)∧wr.ownsRow w.heap.size 140 1 ov k (cellsN (H.take k))∧Bl w wr) (fun _ _ _ i _=>c-(intOf i).toNat)
  case atStart=>exact ⟨0,by omega,rfl,World.ownsRow_nil _ _ _ _,hb0⟩
  case round=>
    clear hb0;obtain⟨k,hk,rfl,hown,hbl⟩:=hrel;have hsz:=hbl.size;by_cases hlt:k<c
    · have hli:(k:Int)<(c:Int):=by omega
      have q1:IntKind.i64.wrap (24*(k:Int))=24*(k:Int):=i64_in _ (by omega) (by omega);have q2:IntKind.i64.wrap ((k:Int)+1)=(k:Int)+1:=i64_in _ (by omega) (by omega);have q5:IntKind.i64.wrap (24*((k:Int)+1))=24*((k:Int)+1):=i64_in _ (by omega) (by omega);have q3:(0:Int)≤24*(k:Int):=by omega
      have q6:24*(k:Int)≤24*((k:Int)+1):=by omega
      have q4:24*((k:Int)+1)≤((strOfNums L).size:Int):=by omega
      have t1:(24*(k:Int)).toNat=24*k:=by omega
      have t2:(24*((k:Int)+1)).toNat=24*k+24:=by omega
      have hp:=piece_length (l:=L) (c:=c) (by omega) k hlt;have R:=fun w=>reduI_any (strOfNums (piece L k)) 2305843010818082053 w (by rw [strOfNums_size];omega) (by decide) h3
      rw [byt_str _ (piece_lt hby k)] at R;have hpe:=str_piece L k;have ht:=htk k hlt;obtain⟨z,hz⟩:∃z:Nat,z=numL (piece L k)%2305843010818082053:=⟨_,rfl⟩;rw [←hz] at R ht;have hzm:z<2305843010818082053:=by rw [hz];exact Nat.mod_lt _ (by omega)
      clear hz;have D:=fun w=>redN_of (z:Int) (z:Int) w (by omega) (Int.tmod_eq_of_lt (by omega) (by omega))
      go_wp2
      go_region_held3 (fun _=>True) (trivial) (first
        |(go_simp;go_at_call 273;refine(V _).mono ?_;rintro e Wv ⟨rfl,bv⟩)
        |(go_at_call 197;refine(R _).mono ?_;rintro e W2 ⟨rfl,hb2⟩)
        |(go_at_call 196;refine(D _).mono ?_;rintro e W3 ⟨rfl,hb3⟩;have hb4:Bl wr W3:=(((Below.refl _ wr).drew).trans bv).trans ((hb2.tr hb3).mono bv.size);have hown4:=own_keep hown hb4;have hbl4:=hbl.trans (hb4.mono hsz);have hsz4:=hbl4.size)
        |(refine step_append_ownN (by rfl) _ _ _ (by rfl) w.heap.size 140 i0 (.agg #[int u64 0]) 1 8 underlying251 hi hz0 hz1 hz2 rfl (by omega) _ k (cellsN (H.take k)) (by rfl) (hown4.alloc _) ⟨W3.heap.size,0,none⟩ 1 1 [int u64 z] (by rfl) (by rfl) (World.news_of_block (cs:=#[int u64 z]) (heap_alloc_new W3 _)) (by simp [Value.oneCell']) (by unfold maxLen;omega) (by omega) (by simp;omega) ?_;intro v2 w2 hown2 hgr2 _))
      go_wp2;have R1:w2.ownsRow w.heap.size 140 1 v2 (k+1) (cellsN (H.take (k+1))):=by rw [ht,cellsN_app];exact hown2
      have R2:Bl w w2:=(hbl4.alloc hsz4 _).grown hgr2 (by simp;omega) (fun r hr=>((hown4.alloc (.cells #[int u64 z] 140)).lt r hr).1);go_roundw
      case rel=>
        first
          |exact ⟨k+1,by omega,by go_num,R1,R2⟩
          |((repeat apply Exists.intro);exact⟨⟨k+1,by omega,by go_num,R1,R2⟩,rfl⟩)
      case measure=>simp [intOf];omega
    · obtain rfl:k=c:=by omega
      rw [List.take_of_length_le (by omega)] at hown;go_wp2;go_ret2;exact⟨_,rfl,hown,hbl⟩
def RN (W:World)(b:Nat)(y:Int):Prop:=W.heap[b]? =some (.cells #[int u64 y] 140)
theorem RN.cell {W:World}{b:Nat}{y:Int}(h:RN W b y):W.cell? ⟨b,0,none⟩=some (int u64 y):=by unfold RN at h;simp [World.cell?,h]
theorem RN.frz {W:World}{b:Nat}{y:Int}(h:RN W b y):W.frozen? ⟨b,0,none⟩=false:=by unfold RN at h;simp [World.frozen?,h]
theorem RN.lt {W:World}{b:Nat}{y:Int}(h:RN W b y):b<W.heap.size:=(Array.getElem?_eq_some_iff.1 h).1
theorem RN.keep {W W':World}{b:Nat}{y:Int}(h:RN W b y)(hb:Bl W W'):RN W' b y:=(hb.block b h.lt).trans h
theorem RN.set {W:World}{b:Nat}{y:Int}(h:RN W b y)(y':Int):RN (W.setCell ⟨b,0,none⟩ (int u64 y')) b y':=by
  unfold RN at*;simp [World.setCell,Array.getElem?_modify,h]
theorem RN.range {W:World}{b:Nat}{y:Int}(h:RN W b y):W.rangeAt b 0 [int u64 y]:=fun j v hj=>by
  match j,hj with
  |0,hj=>cases hj;exact h.cell
theorem RN_res {W:World}{b:Nat}{y:Int}{fn:Func}{p u:Tmp}(h:fn.results=#[.cell p 140,.tmp u])(tmps:Array Value)(hp:tmps.getD p undef= .pointer (some ⟨b,0,none⟩))(hc:RN W b y):
    (results fn tmps).run prog W= .ok (.tuple #[.agg #[int u64 y],tmps.getD u undef]) W:=by
  have hp':tmps[p]?.getD undef= .pointer (some ⟨b,0,none⟩):=by simpa using hp
  simp [results,h,hp',asAddr,run_loadVar_mid W b 0 140 [int u64 y] _ hc.range underlying140 rfl (by kernel_rfl)]
theorem h2sN_yes (msg tag:ByteArray)(w:World)(hT:TabK w)(h:okT msg tag):
    Cr 110 #[.string msg,.string tag] w (.tuple #[.agg #[int u64 (hNum msg tag 2305843010818082053 1 0:Nat)],.bool true]):=by
  have X:=fun w hT=>h2nN_yes msg tag 1 w hT ((okT_H (by decide) (by decide) (by decide)).1 h)
  have hgw:6<w.heap.size:=World.block_lt_of_cell? w _ (hT 0 (by omega));have hz:=h2f_at msg tag 2305843010818082053 1 0 (by omega);have hll:=h2f_length (byt msg) (byt tag) 2305843010818082053 1;generalize ((hNum msg tag 2305843010818082053 1 0:Nat):Int)=z at*;generalize h2f (byt msg) (byt tag) 2305843010818082053 1=H at*;have hr0:RN (w.alloc (.cells #[int u64 0] 140)) w.heap.size 0:=heap_alloc_new w _;have hb0:Bl w (w.alloc (.cells #[int u64 0] 140)):=(Below.refl _ _).alloc (Nat.le_refl _) _;have hT0:TabK (w.alloc (.cells #[int u64 0] 140)):=fun i hi=>(hb0.cell (p:=⟨6,i,none⟩) hgw).trans (hT i hi)
  go_enter func110,ntmps110;go_wp2_with fail;refine(X _ hT0).mono ?_;rintro e W1 ⟨v,rfl,hown,hb1⟩
  obtain⟨g,cap,rfl⟩:∃g cap,v= .slice (some ⟨g,0,none⟩) 1 cap:=by
    rcases hown.2 with ⟨_,hc⟩|⟨g,cap,cur,hv,_⟩
    · omega
    · exact⟨g,cap,hv⟩
  have hc:=hown.cells (g:=g) rfl 0 (int u64 z) (by
    rw [cellsN,List.getElem?_map,←hz];unfold lk;rw [List.getD_eq_getElem?_getD,List.getElem?_eq_getElem (by omega)]
    rfl)
  rw [Addr.add_mid,Nat.zero_add] at hc;have hr1:=hr0.keep hb1;have hbB:=hb0.tr hb1;have d0:=hr1.cell;have f0:=hr1.frz;clear X hown hT0 hz;go_wp2;exact bodyPost_ret (v:= .tuple #[.agg #[int u64 z],.bool true]) (RN_res (fn:=Tryz.f110) (p:=4) (u:=5) results110 _ rfl (hr1.set z)) rfl ⟨rfl,hbB.setCell (p:=⟨w.heap.size,0,none⟩) (Nat.le_refl _) _⟩
theorem below_owns {w w':World}{B:Nat}{e:TypeId}{v:Value}{n:Nat}{xs:List Value}(h:w.ownsRow B e 1 v n xs)(hb:Bl w w'):w'.ownsRow B e 1 v n xs:=by
  refine⟨h.1,?_⟩;rcases h.2 with h2|⟨g,cap,cur,hv,hbg,hg,hr⟩
  · exact .inl h2
  · refine .inr ⟨g,cap,cur,hv,hbg,?_,hr⟩;rw [hb.block g (Array.getElem?_eq_some_iff.1 hg).1];exact hg
theorem below_builder {T e:TypeId}{B b:Nat}{p:Value}{bs:List Value}{w w':World}(h:Lib.BuilderAt T e B b p bs w)(hb:Bl w w'):Lib.BuilderAt T e B b p bs w':=by
  have hl:=h.lt;obtain⟨hB,v,hbk,hown,hne⟩:=h;exact⟨hB,v,by rw [hb.block b hl];exact hbk,below_owns hown hb,hne⟩
def catA (t:ByteArray)(l:List ByteArray):ByteArray:=l.foldl (· ++ ·) t
theorem strCells_byt (s:ByteArray):Lib.strCells s=Lib.byteCells s.data.toList:=rfl
theorem byteCells_app (a b:ByteArray):Lib.byteCells a.data.toList++Lib.strCells b=Lib.byteCells (a++b).data.toList:=by
  rw [strCells_byt];unfold Lib.byteCells;rw [←List.map_append];simp
theorem mk_data (s:ByteArray):(⟨s.data.toList.toArray⟩:ByteArray)=s:=by cases s;simp
theorem withI_any (t:ByteArray)(g n:Nat)(L:List (Value×ByteArray))(w:World)(hl:L.length=n)(hn:n≤100)(hg:g<w.heap.size)
    (hc:∀i v s,L[i]? =some (v,s)→w.cell? ⟨g,i,none⟩=some v∧Writ v s)(hz:∀i,i≤n→(catA t ((L.take i).map (·.2))).size≤300000):
    Cr 105 #[.string t,.slice (some ⟨g,0,none⟩) n n] w (.string (catA t (L.map (·.2)))):=by
  have WS:=fun b bs s w h hlen=>Any.Builder_WriteString (P:=prog) (ρ:=renRepeat) {laysRepeat with} extraRepeat w.heap.size b bs s w h hlen
  obtain⟨R,hR⟩:∃R,Hid (R=catA t (L.map (·.2))):=⟨_,rfl⟩;rw [←hR.out];have hc':Hid (∀i v s,L[i]? =some (v,s)→w.cell? ⟨g,i,none⟩=some v∧Writ v s):=hc;have hz':Hid (∀i,i≤n→(catA t ((L.take i).map (·.2))).size≤300000):=hz;clear hc hz WS
  have hB0:Lib.IsBuilder 239 5 w.heap.size w.heap.size [] (w.alloc (.cells #[.pointer none,.slice none 0 0] 239)):=
    .inl ⟨Nat.le_refl _,.slice none 0 0,heap_alloc_new w _,⟨rfl,.inl ⟨rfl,rfl⟩⟩,by simp [Value.ownBlock]⟩
  have hb0:=balc w (Obj.cells #[.pointer none,.slice none 0 0] 239);have hts:=hz'.out 0 (by omega);rw [show catA t ((L.take 0).map (·.2))=t from rfl] at hts;have W1:=Any.Builder_WriteString (P:=prog) (ρ:=renRepeat) {laysRepeat with} extraRepeat w.heap.size w.heap.size [] t (w.alloc (.cells #[.pointer none,.slice none 0 0] 239)) hB0 (by simp;omega) (by simp);go_enter func105,ntmps105;go_wp2_with fail;refine W1.mono ?_;rintro e w1 ⟨rfl,hB1,b1⟩;replace hb0:=hb0.trans b1;clear W1 hB0 b1
  have hB1':Lib.BuilderAt 239 5 w.heap.size w.heap.size (.pointer (some ⟨w.heap.size,0,none⟩)) (Lib.byteCells (catA t ((L.take 0).map (·.2))).data.toList) w1:=by
    have: []++Lib.strCells t=Lib.byteCells (catA t ((L.take 0).map (·.2))).data.toList:=by simp [catA,strCells_byt]
    rw [←this];exact hB1
  clear hB1;go_wp2
  go_loopw [12] (fun iv wr=>∃j:Nat,j≤n∧iv= .int .i64 (j:Int)∧Lib.BuilderAt 239 5 w.heap.size w.heap.size (.pointer (some ⟨w.heap.size,0,none⟩)) (Lib.byteCells (catA t ((L.take j).map (·.2))).data.toList) wr∧Bl w wr) (fun i _=>n-(intOf i).toNat)
  case atStart=>exact ⟨0,by omega,rfl,hB1',hb0⟩
  case round=>
    clear hB1' hb0;obtain⟨j,hj,rfl,hBj,hbl⟩:=hrel;by_cases hlt:j<n
    · have hli:(j:Int)<(n:Int):=by omega
      obtain⟨⟨v,s⟩,hvs⟩:∃vs,L[j]? =some vs:=⟨_,List.getElem?_eq_getElem (by omega)⟩;obtain⟨hcell,T,x,F,rfl,hme,hcf,hwr⟩:=hc'.out j v s hvs;have c0:=(hbl.cell (p:=⟨g,j,none⟩) hg).trans hcell;have hz1:=hz'.out (j+1) (by omega)
      have hstep:Hid (catA t ((L.take j).map (·.2))++s=catA t ((L.take (j+1)).map (·.2))):=by
        simp only [Hid];rw [List.take_add_one,hvs];simp [catA]
      have hzj:(catA t ((L.take j).map (·.2))).size+s.size≤300000:=by rw [←ByteArray.size_append,hstep.out];exact hz1
      clear hz1 hvs hcell;go_wp2_with fail;refine(hwr _).mono ?_;rintro e w2 ⟨rfl,b2⟩;replace hBj:=below_builder hBj b2;replace hbl:=hbl.tr b2;clear hwr b2 c0 hme hcf;have W2:=Any.Builder_WriteString (P:=prog) (ρ:=renRepeat) {laysRepeat with} extraRepeat w.heap.size w.heap.size _ s w2 (.inr hBj) (by rw [Lib.byteCells_length,Array.length_toList];exact Nat.le_trans hzj (by decide)) hbl.size;rw [byteCells_app,hstep.out] at W2;clear hstep hzj hBj;go_wp2_with fail;refine W2.mono ?_;rintro e w3 ⟨rfl,R1,b3⟩;have R2:=hbl.trans b3;clear W2 b3 hbl;go_wp2;go_roundw
      case rel=>
        first
          |exact ⟨j+1,by omega,by go_num,R1,R2⟩
          |((repeat apply Exists.intro);exact⟨⟨j+1,by omega,by go_num,R1,R2⟩,rfl⟩)
      case measure=>simp [intOf];omega
    · obtain rfl:j=n:=by omega
      rw [List.take_of_length_le (by omega),←hR.out] at hBj;have S1:=Any.Builder_String_any (P:=prog) (ρ:=renRepeat) {laysRepeat with} extraRepeat w.heap.size w.heap.size R.data.toList wr (.inr hBj) hbl.size;rw [mk_data] at S1;clear hBj hR hc' hz';go_wp2_with fail;refine S1.mono ?_;rintro e w2 ⟨rfl,b2⟩;go_wp2;go_ret;exact⟨rfl,hbl.trans b2⟩
theorem catA_le (t:ByteArray):∀(l r:List ByteArray),(catA t l).size≤(catA t (l++r)).size:=by
  intro l r;unfold catA;rw [List.foldl_append];generalize List.foldl (· ++ ·) t l=u
  induction r generalizing u with
  |nil=>exact Nat.le_refl _
  | cons a r ih=>
    rw [List.foldl_cons];refine Nat.le_trans ?_ (ih (u++a));rw [ByteArray.size_append];omega
theorem with_blk (t:ByteArray)(L:List (Value×ByteArray))(g n:Nat)(T:TypeId)(cs:Array Value)(w:World)(hr:w.heap[g]? =some (.cells cs T))(hcs:cs.toList=L.map (·.1))(hl:L.length=n)(hn:n≤100)(hW:∀vs∈L,Writ vs.1 vs.2)
    (hz:(catA t (L.map (·.2))).size≤300000):
    Cr 105 #[.string t,.slice (some ⟨g,0,none⟩) n n] w (.string (catA t (L.map (·.2)))):=by
  refine withI_any t g n L w hl hn (Array.getElem?_eq_some_iff.1 hr).1 (fun i v s hi=>⟨?_,hW _ (List.mem_of_getElem? hi)⟩) (fun i hi=> ?_)
  · rw [cell_of_row _ _ _ _ _ _ hr,←Array.getElem?_toList,hcs,List.getElem?_map,hi];rfl
  · refine Nat.le_trans ?_ hz;have:=catA_le t ((L.take i).map (·.2)) ((L.drop i).map (·.2));rwa [←List.map_append,List.take_append_drop] at this
end Go.Proofs.YtjhbckngdclleaaGreatDoor
