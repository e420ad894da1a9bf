import Derived.Test.YtmjniccfjffclaaGreatDoorMrg43
set_option linter.unusedVariables false
set_option maxRecDepth 100000
set_option maxHeartbeats 16000000
namespace Go.Proofs.YtmjniccfjffclaaGreatDoor
open Go.Proofs.Tryz Go.RowKit
open Go.Value (int)
open Go.IntKind (u64)
section
open M
def PtQ (w:World)(q:Option Addr)(es:List Tri):Prop:=es= []∨∃g,q=some ⟨g,0,none⟩∧Pts w g 0 es
theorem PtQ.keep {w w':World}{q:Option Addr}{es:List Tri}(h:PtQ w q es)(hb:Bl w w'):PtQ w' q es:=h.imp id fun⟨g,e,p⟩=>⟨g,e,p.below hb p.lt⟩
theorem Pts.one {W:World}{T:TypeId}{g:Nat}{t:Tri}(h:Bk W T g #[int u64 (t.1:Int),int u64 (t.2.1:Int),.bool t.2.2]):Pts W g 0 [t]:=by
  have e:∀i q,([t]:List Tri)[i]? =some q→i=0∧q=t:=fun i q h=>by
    cases i with
    |zero=>simp at h;exact⟨rfl,h.symm⟩
    |succ i=>simp at h
  refine⟨h.lt,fun i q hq=> ?_,fun i q hq=> ?_,fun i q hq=> ?_⟩<;>obtain ⟨rfl,rfl⟩:=e i q hq
  · exact h.cell (k:=0) rfl
  · exact h.cell (k:=1) rfl
  · exact h.cell (k:=2) rfl
theorem gT_W:triW gT= .agg #[int u64 (px gG),int u64 (py gG),.bool (pb gG)]:=by rw [triW_of onT_g,asT_g,ptW_eq]
theorem own_pts {W:World}{B g n cap:Nat}{ps:List Pt}(h:W.ownsRow B 34 3 (.slice (some ⟨g,0,none⟩) n cap) n (cells3 ps))(hon:∀p∈ps,on p):Pts W g 0 (ps.map ptT):=by
  have hC:=Cps.of_owns h
  have key:∀(i:Nat) (t:Tri),(ps.map ptT)[i]? =some t→∃p,ps[i]? =some p∧px p=(t.1:Int)∧py p=(t.2.1:Int)∧pb p=t.2.2:=fun i t hi=>by
    rw [List.getElem?_map] at hi;obtain⟨p,hp,rfl⟩:=Option.map_eq_some_iff.1 hi;obtain⟨-,e1,e2,e3,-⟩:=ptT_of (hon p (List.mem_of_getElem? hp));exact⟨p,hp,e1,e2,e3⟩
  refine⟨hC.lt,fun i t hi=> ?_,fun i t hi=> ?_,fun i t hi=> ?_⟩
  · obtain⟨p,hp,e1,e2,e3⟩:=key i t hi;rw [←e1];exact hC.c0 i p hp
  · obtain⟨p,hp,e1,e2,e3⟩:=key i t hi;rw [←e2];exact hC.c1 i p hp
  · obtain⟨p,hp,e1,e2,e3⟩:=key i t hi;rw [←e3];exact hC.c2 i p hp
theorem evaS_any (mode:Int)(key:Nat)(info:ByteArray)(es:List Tri)(r:Nat)(g cap:Nat)(w:World)(hp:Pts w g 0 es):
    Calls prog 7 #[.int .i64 mode,int u64 key,.string info,.slice (some ⟨g,0,none⟩) es.length cap,int u64 r] w fun e w'=>∃v,e= .returned (.tuple #[.agg #[v,int u64 ((evaK mode key info es r).1:Int),int u64 ((evaK mode key info es r).2:Int)],.int .i64 (evaC mode key info es r)])∧w'.ownsRow w.heap.size 34 3 v (evaG mode key info es r).length (cells3 (evaG mode key info es r))∧Bl w w':=by
  have bad:∀cd:Int,evaC mode key info es r=cd→ ¬ cd=0→
      (Cr 7 #[.int .i64 mode,int u64 key,.string info,.slice (some ⟨g,0,none⟩) es.length cap,int u64 r] w (.tuple #[.agg #[.slice none 0 0,int u64 0,int u64 0],.int .i64 cd]))→
      Calls prog 7 #[.int .i64 mode,int u64 key,.string info,.slice (some ⟨g,0,none⟩) es.length cap,int u64 r] w fun e w'=>∃v,e= .returned (.tuple #[.agg #[v,int u64 ((evaK mode key info es r).1:Int),int u64 ((evaK mode key info es r).2:Int)],.int .i64 (evaC mode key info es r)])∧w'.ownsRow w.heap.size 34 3 v (evaG mode key info es r).length (cells3 (evaG mode key info es r))∧Bl w w':=fun cd h h0 hB=>by
    obtain⟨hG,hK⟩:=eva_none (show ¬ evaC mode key info es r=0 by rw [h];exact h0);rw [hG,hK,h]
    exact hB.mono (by
      rintro e w' ⟨rfl,b⟩
      exact⟨_,rfl,World.ownsRow_nil _ _ _ _,b⟩)
  have T:=txtS_any mode ⟨#[]⟩ info;have K:=fun w=>keyS_any (key:Int) key rfl w
  by_cases hA:txtB mode 0 info.size=true
  · rw [show txtB mode (ByteArray.mk #[]).size info.size=true from hA] at T;obtain⟨hm,-,z2,-⟩:=txtB_iff.1 hA;by_cases hB:keyB key=true
    · rw [hB] at K; have hkl:=(keyB_iff.1 hB).2;by_cases hr:r<2305843010818082053
      · have hr': ¬ (2305843010818082053:Int)≤(r:Int):=by omega
        by_cases h0:1≤es.length
        · by_cases h9:es.length≤200
          · by_cases hall:es.all elT=true
            · have hC:evaC mode key info es r=facC mode key info:=evaC_yes ⟨hA,hB,hr,⟨h0,h9⟩,hall⟩;have F:=fun w=>facS_any mode key info w hkl z2
              by_cases hc:facC mode key info=0
              · have hC0:=hC.trans hc;have hG:evaG mode key info es r=evaE mode key info es:=if_pos hC0;have hlE:=evaE_length mode key info es;simp only [hc,if_true] at F;have hU:=ptT_of (nt_on gG_on (facT mode key info))
                have hUW:triW (evaU mode key info)= .agg #[int u64 (px (nt (facT mode key info) gG)),int u64 (py (nt (facT mode key info) gG)),.bool (pb (nt (facT mode key info) gG))]:=by
                  rw [triW_of (evaU_of mode key info).2,(evaU_of mode key info).1,ptW_eq]
                have htl:facT mode key info<2305843010818082053:=by
                  unfold facT;split
                  · exact kt_lt _ _
                  · exact hkl
                obtain⟨hb1,hb2⟩:=eva_bat (mode:=mode) (key:=key) (info:=info) ⟨h0,h9⟩ hall;rw [hG,hC0,hlE];refine evS_g mode key r info g es.length cap w es T K hr' h0 h9 rfl hp hall (facB mode key info) (facT mode key info:Nat) _ _ (nt (facT mode key info) gG) (Nat.lt_trans (facB_lt mode key info hkl) (by decide)) F (fun w'=>tiS_pt gG_on (facT mode key info) (Nat.lt_trans htl (by decide)) w') ?_;have hK:evaK mode key info es r=(if mode=1 then (prvC 1 (facT mode key info) r gT (evaU mode key info) es ((evaE mode key info es).map ptT),prvN 1 (facT mode key info) r gT (evaU mode key info) es ((evaE mode key info es).map ptT)) else if mode=2 then (prvC 2 (facT mode key info) r gT (evaU mode key info) ((evaE mode key info es).map ptT) es,prvN 2 (facT mode key info) r gT (evaU mode key info) ((evaE mode key info es).map ptT) es) else (0,0)):=if_pos hC0;have hlm:((evaE mode key info es).map ptT).length=es.length:=by rw [List.length_map,hlE]
                by_cases m1:mode=1
                · refine .inr (.inl ⟨m1,fun w' v hb hown=> ?_⟩);rw [hK,if_pos m1];obtain⟨gd,cd,rfl,-,-⟩:=hown.form h0;have hrs:=own_pts hown (evaE_on mode key info es);have:=prvS_yes 1 (facT mode key info) r gT (evaU mode key info) es ((evaE mode key info es).map ptT) g 0 cap gd 0 cd w' (hp.below hb hp.lt) hrs hb1 htl hr;rw [gT_W,hUW,hlm] at this;exact this
                · by_cases m2:mode=2
                  · refine .inr (.inr ⟨m2,fun w' v hb hown=> ?_⟩);rw [hK,if_neg m1,if_pos m2];obtain⟨gd,cd,rfl,-,-⟩:=hown.form h0;have hrs:=own_pts hown (evaE_on mode key info es);have:=prvS_yes 2 (facT mode key info) r gT (evaU mode key info) ((evaE mode key info es).map ptT) es gd 0 cd g 0 cap w' hrs (hp.below hb hp.lt) hb2 htl hr;rw [gT_W,hUW,hlm] at this;exact this
                  · refine .inl ⟨by simpa using m1,by simpa using m2,?_,?_⟩
                    · rw [hK,if_neg m1,if_neg m2];rfl
                    · rw [hK,if_neg m1,if_neg m2];rfl
              · have h3:facC mode key info=3:=by
                  unfold facC at hc⊢;split
                  · rfl
                  · rename_i hx;rw [if_neg hx] at hc;exact absurd rfl hc
                simp only [h3] at F;exact bad 3 (hC.trans h3) (by decide) (evS_f mode key r info g es.length cap w es T K hr' h0 h9 rfl hp hall 3 (by decide) F)
            · have hall':es.all elT=false:=by cases h:es.all elT<;>simp_all
              exact bad 1 (evaC_no (fun h=>hall h.2.2.2.2)) (by decide) (evS_e mode key r info g es.length cap w es T K hr' h0 h9 rfl hp hall')
          · exact bad 1 (evaC_no (fun h=>h9 h.2.2.2.1.2)) (by decide) (evS_9 mode key r info g es.length cap w T K hr' (by omega) (by omega))
        · exact bad 1 (evaC_no (fun h=>h0 h.2.2.2.1.1)) (by decide) (evS_0 mode key r info g es.length cap w T K hr' (by omega))
      · exact bad 1 (evaC_no (fun h=>hr h.2.2.1)) (by decide) (evS_r mode key r info g es.length cap w T K (by omega))
    · have hB':keyB key=false:=by cases h:keyB key<;>simp_all
      rw [hB'] at K;exact bad 1 (evaC_no (fun h=>hB h.2.1)) (by decide) (evS_k mode key r info g es.length cap w T K)
  · have hA':txtB mode (ByteArray.mk #[]).size info.size=false:=by
      cases h:txtB mode (ByteArray.mk #[]).size info.size with
      |false=>rfl
      |true=>exact absurd h hA
    rw [hA'] at T;exact bad 1 (evaC_no (fun h=>hA h.1)) (by decide) (evS_t mode key r info g es.length cap w T)
theorem wth0 (t:ByteArray)(w:World)(hz:t.size≤300000):
    Cr 119 #[.string t,.slice none 0 0] w (.string t):=by
  have hB0:Lib.IsBuilder 227 5 w.heap.size w.heap.size [] (w.alloc (.cells #[.pointer none,.slice none 0 0] 227)):=
    .inl ⟨Nat.le_refl _,.slice none 0 0,heap_alloc_new w _,⟨rfl,.inl ⟨rfl,rfl⟩⟩,by simp [Value.ownBlock]⟩
  have hb0:=balc w (Obj.cells #[.pointer none,.slice none 0 0] 227);have W1:=Any.Builder_WriteString (P:=prog) (ρ:=renRepeat) {laysRepeat with} extraRepeat w.heap.size w.heap.size [] t (w.alloc (.cells #[.pointer none,.slice none 0 0] 227)) hB0 (by simp;omega) (by simp);go_enter func119,ntmps119;go_wp2_with fail;refine W1.mono ?_;rintro e w1 ⟨rfl,hB1,b1⟩;replace hb0:=hb0.trans b1;clear W1 hB0 b1
  have hB1':Lib.BuilderAt 227 5 w.heap.size w.heap.size (.pointer (some ⟨w.heap.size,0,none⟩)) (Lib.byteCells t.data.toList) w1:=by
    have: []++Lib.strCells t=Lib.byteCells t.data.toList:=by simp [strCells_byt]
    rw [←this];exact hB1
  clear hB1;have S1:=Any.Builder_String_any (P:=prog) (ρ:=renRepeat) {laysRepeat with} extraRepeat w.heap.size w.heap.size t.data.toList w1 (.inr hB1') hb0.size;rw [mk_data] at S1;go_wp2;refine wp_loop_rounds 1 ?_;rw [rounds_succ];go_wp2_with fail;refine S1.mono ?_;rintro e w2 ⟨rfl,b2⟩;go_wp2;go_ret;exact⟨rfl,hb0.trans b2⟩
theorem wth2 (t:ByteArray)(u:Pt)(i:Nat)(w:World)(h:t.size≤200000)(hr:w.heap[i]? =some (.cells #[.iface 75 (.agg #[int u64 (px u),int u64 (py u),.bool (pb u)]),.iface 196 (.string finW)] 231)):
    Cr 119 #[.string t,.slice (some ⟨i,0,none⟩) 2 2] w (.string (t++sizB (ptB u)++finW)):=by
  have:=with_blk t [(.iface 75 (.agg #[int u64 (px u),int u64 (py u),.bool (pb u)]),sizB (ptB u)),(.iface 196 (.string finW),finW)] i 2 _ _ w hr rfl rfl (by omega) (by
    intro vs hvs;simp only [List.mem_cons,List.not_mem_nil,or_false] at hvs;rcases hvs with rfl|rfl
    · exact writC u
    · exact writP finW) (by
      show(t++sizB (ptB u)++finW).size≤_
      rw [ByteArray.size_append,ByteArray.size_append,sizB_size,ptB_size,show finW.size=8 from rfl];omega)
  exact this
theorem nopI (info:ByteArray)(w:World):
    Cr 140 #[.string info] w (.slice none 0 0):=by
  go_enter func140,ntmps140;go_wp2;go_ret;exact⟨rfl,Below.refl _ _⟩
theorem ipaI (info:ByteArray)(w:World):
    Calls prog 148 #[.string info] w fun e w'=>∃x,e= .returned (.slice (some ⟨x,0,none⟩) 1 1)∧w'.heap[x]? =some (.cells #[.iface 211 (.string info)] 231)∧Bl w w':=by
  go_enter func148,ntmps148;go_wp2;go_ret;exact⟨_,rfl,heap_alloc_new w _,(Below.refl _ w).alloc (Nat.le_refl _) _⟩
theorem G.last_same {kinds:List G.Knd}(obs:List Obj)(h:∀F R,G.Knd.got F R∈kinds→G.Lasts R obs∧∀x (w w':World),R x w→(∀k:Nat,w'.heap[k]? =w.heap[k]?)→R x w')(ho:∀ob ob' k,G.Knd.new ob ob' k∈kinds→ob=ob'∨ob∈obs)(ho2:∀b ob ob',G.Knd.set b ob ob'∈kinds→ob∈obs):G.Last (G.kindOf kinds):=by
  intro i F R hk;obtain⟨h1,h2⟩:=h F R (G.kind_mem hk (by simp));refine⟨h1.below,fun x w w' b j ob ob' hj hR hb hT=> ?_⟩;rcases hj with ⟨k,hj⟩|hj
  · rcases ho ob ob' k (G.kind_mem hj (by simp)) with e|e
    · subst e;refine h2 x w w' hR (fun k=> ?_);by_cases hkb:k=b
      · subst hkb;rw [hT.self,hb]
      · exact hT.other k hkb
    · exact h1.turned x w w' b ob ob' hR e hb hT
  · exact h1.turned x w w' b ob ob' hR (ho2 b ob ob' (G.kind_mem hj (by simp))) hb hT
abbrev slP (x:Nat):Value:= .slice (some ⟨x,0,none⟩) 1 1
abbrev cePart (info:ByteArray)(x:Nat)(w:World):Prop:=w.heap[x]? =some (.cells #[.iface 211 (.string info)] 231)
theorem cePart_lasts (info:ByteArray)(obs:List Obj)(h:∀ob∈obs,∃cs t,ob= .cells cs t∧t≠231):G.Lasts (cePart info) obs:=
  ⟨fun x w w' hx hb=>(hb.block x (Array.getElem?_eq_some_iff.1 hx).1).trans hx,fun x w w' b ob ob' hx hm hb hT=>by
    by_cases e:x=b
    · subst e;obtain⟨cs,t,rfl,ht⟩:=h ob hm;unfold cePart at hx;rw [hb] at hx;cases hx;exact absurd rfl ht
    · exact(hT.other x e).trans hx⟩
section
variable (cx info input T1 T2 TX R:ByteArray)(u:Pt)(F0 F1 F2 F3 F4 F5 F6:FuncId)(w:World)(hT:TabK w)
    (E6:∀(args:Array Value) (w:World),(callFunc F6 args).run prog w= .ok (.enter F6 args) w)
    (Q1:∀i (w:World),w.heap[i]? =some (.cells #[.iface 211 (.string input)] 231)→Cr 119 #[.string ⟨#[]⟩,.slice (some ⟨i,0,none⟩) 1 1] w (.string T1))
    (QH:∀g w,TabK w→w.heap[g]? =some (.cells #[.string TX] 9)→Cr 130 #[.slice (some ⟨g,0,none⟩) 1 1] w (.string R))
include hT E6 Q1 QH
theorem outI_noof
    (HS:Cc F6 #[.string info] (.slice none 0 0))
    (Q2:Cc 119 #[.string T1,.slice none 0 0] (.string T1))
    (Q3:∀i (w:World),w.heap[i]? =some (.cells #[.iface 75 (.agg #[int u64 (px u),int u64 (py u),.bool (pb u)]),.iface 196 (.string finW)] 231)→Cr 119 #[.string T1,.slice (some ⟨i,0,none⟩) 2 2] w (.string TX)):
    Cr 96 #[.agg #[.string cx,.string info,.func (.func F0) #[] #[],.func (.func F1) #[] #[],.func (.func F2) #[] #[],.func (.func F3) #[] #[],.func (.func F4) #[] #[],.func (.func F5) #[] #[],.func (.func F6) #[] #[]],.string input,.agg #[int u64 (px u),int u64 (py u),.bool (pb u)]] w (.string R):=by
  have hgw:7<w.heap.size:=World.block_lt_of_cell? w _ (hT 0 (by omega));obtain⟨X,hX⟩:∃X,X=(w.alloc (Obj.cells #[.string cx,.string info,.func (.func F0) #[] #[],.func (.func F1) #[] #[],.func (.func F2) #[] #[],.func (.func F3) #[] #[],.func (.func F4) #[] #[],.func (.func F5) #[] #[],.func (.func F6) #[] #[]] 130)).alloc (Obj.cells #[int u64 (px u),int u64 (py u),.bool (pb u)] 75):=⟨_,rfl⟩;have r0:Bk X 130 w.heap.size #[.string cx,.string info,.func (.func F0) #[] #[],.func (.func F1) #[] #[],.func (.func F2) #[] #[],.func (.func F3) #[] #[],.func (.func F4) #[] #[],.func (.func F5) #[] #[],.func (.func F6) #[] #[]]:=by rw [hX];exact(Bk.new _ _ _).alloc _
  have r1:K3 X 75 (w.heap.size+1) (px u) (py u) (pb u):=by rw [hX];exact(K3.new _ _ _ _ _).at (by simp)
  have hb:Bl w X:=by rw [hX];exact((Below.refl _ w).alloc (Nat.le_refl _) _).alloc (by simp) _
  go_enter func96,ntmps96;go_wp2;rw [←hX];clear hX;have s1:X.drew.cell? ⟨w.heap.size,1,none⟩=_:=r0.cell (k:=1) rfl;have s8:X.drew.cell? ⟨w.heap.size,8,none⟩=_:=r0.cell (k:=8) rfl;have u0:X.drew.cell? ⟨w.heap.size+1,0,none⟩=_:=r1.c0;have u1:X.drew.cell? ⟨w.heap.size+1,1,none⟩=_:=r1.c1;have u2:X.drew.cell? ⟨w.heap.size+1,2,none⟩=_:=r1.c2
  refine G.pool_list (W:=X) [] [.val (.string input),
      .val (.iface 211 (.string input)),
      .new (.cells #[.iface 211 (.string input)] 231) (.cells #[.iface 211 (.string input)] 231) 1001,
      .val (.string T1),
      .val (.pointer (some ⟨w.heap.size,2,none⟩)),
      .val (.pointer (some ⟨w.heap.size,8,none⟩)),
      .val (.func (.func F6) #[] #[]),
      .val (.pointer (some ⟨w.heap.size,0,none⟩)),
      .val (.pointer (some ⟨w.heap.size,1,none⟩)),
      .val (.string info),
      .val (.slice none 0 0),
      .val (.string T1),
      .val (.agg #[int u64 (px u),int u64 (py u),.bool (pb u)]),
      .val (.iface 75 (.agg #[int u64 (px u),int u64 (py u),.bool (pb u)])),
      .val (.iface 196 (.string finW)),
      .new (.cells #[.iface 75 (.agg #[int u64 (px u),int u64 (py u),.bool (pb u)]),.iface 196 (.string finW)] 231) (.cells #[.iface 75 (.agg #[int u64 (px u),int u64 (py u),.bool (pb u)]),.iface 196 (.string finW)] 231) 1002,
      .val (.string TX),
      .val (.string TX)] [[1],[8],[9],[10],[3],[12],[13],[3],[15],[16],[14,17],[11,18],[5],[20],[],[21,22],[19,23],[24]] (fun f=> [(some 8,.string input),(some 9,.iface 211 (.string input)),(some 10,.slice (some ⟨f 2,0,none⟩) 1 1),(some 11,.string T1),(some 12,.pointer (some ⟨w.heap.size,2,none⟩)),(some 13,.pointer (some ⟨w.heap.size,8,none⟩)),(some 14,.func (.func F6) #[] #[]),(some 15,.pointer (some ⟨w.heap.size,0,none⟩)),(some 16,.pointer (some ⟨w.heap.size,1,none⟩)),(some 17,.string info),(some 18,.slice none 0 0),(some 19,.string T1),(some 20,.agg #[int u64 (px u),int u64 (py u),.bool (pb u)]),(some 21,.iface 75 (.agg #[int u64 (px u),int u64 (py u),.bool (pb u)])),(some 22,.iface 196 (.string finW)),(some 23,.slice (some ⟨f 15,0,none⟩) 2 2),(some 24,.string TX),(some 7,.string TX)]) (by kernel_rfl) (by kernel_rfl) (by kernel_rfl) (by kernel_rfl) (fun _=>by kernel_rfl) (G.last_of [.cells #[.iface 211 (.string input)] 231,.cells #[.iface 75 (.agg #[int u64 (px u),int u64 (py u),.bool (pb u)]),.iface 196 (.string finW)] 231] (fun F R hm=>by simp at hm) (fun ob ob' k hm=>by simp at hm;rcases hm with h|h<;>simp [h]) (fun b ob ob' hm=>by simp at hm)) (fun b ob ob' hm=>by simp at hm) ?_ ?_
  · intro ix hix
    match ix,hix with
    |0,_=>exact G.obv [(1,.string input)] rfl rfl (fun A w ⟨e0,_⟩ hB=>doV_move e0)
    |1,_=>exact G.obv [(8,.string input)] rfl rfl (fun A w ⟨e0,_⟩ hB=>mi_sized e0)
    |2,_=>exact G.ob_slc 1 [(9,.iface 211 (.string input))] rfl rfl (fun _=>by kernel_rfl) (fun A w ⟨e0,_⟩=>sl_parts1 e0)
    |3,_=>exact G.ob_use 10 2 1001 (.cells #[.iface 211 (.string input)] 231) (fun f=> [(10,.slice (some ⟨f 2,0,none⟩) 1 1)]) rfl rfl (by decide) (by kernel_rfl) rfl (fun _=>by kernel_rfl) (fun f A w ⟨e0,_⟩ hB hr=>cl2 cf_impl_transcript_with rfl e0 (Q1 _ w hr))
    |4,_=>exact G.obv [(3,.pointer (some ⟨w.heap.size,0,none⟩))] rfl rfl (fun A w ⟨e0,_⟩ hB=>fa_pro1 e0)
    |5,_=>exact G.obv [(12,.pointer (some ⟨w.heap.size,2,none⟩))] rfl rfl (fun A w ⟨e0,_⟩ hB=>fa_rul6 e0)
    |6,_=>exact G.obv [(13,.pointer (some ⟨w.heap.size,8,none⟩))] rfl rfl (fun A w ⟨e0,_⟩ hB=>ld_fn6 e0 (hB.cell s8 (by simp)))
    |7,_=>exact G.obv [(3,.pointer (some ⟨w.heap.size,0,none⟩))] rfl rfl (fun A w ⟨e0,_⟩ hB=>fa_pro0 e0)
    |8,_=>exact G.obv [(15,.pointer (some ⟨w.heap.size,0,none⟩))] rfl rfl (fun A w ⟨e0,_⟩ hB=>fa_set1 e0)
    |9,_=>exact G.obv [(16,.pointer (some ⟨w.heap.size,1,none⟩))] rfl rfl (fun A w ⟨e0,_⟩ hB=>ld_str e0 (hB.cell s1 (by simp)))
    |10,_=>exact G.obv [(14,.func (.func F6) #[] #[]),(17,.string info)] rfl rfl (fun A w ⟨e0,e1,_⟩ hB=>cv1 E6 e0 e1 (HS w))
    |11,_=>exact G.obv [(11,.string T1),(18,.slice none 0 0)] rfl rfl (fun A w ⟨e0,e1,_⟩ hB=>cl2 cf_impl_transcript_with e0 e1 (Q2 w))
    |12,_=>exact G.obv [(5,.pointer (some ⟨w.heap.size+1,0,none⟩))] rfl rfl (fun A w ⟨e0,_⟩ hB=>ld_cp e0 (hB.cell u0 (by simp)) (hB.cell u1 (by simp)) (hB.cell u2 (by simp)))
    |13,_=>exact G.obv [(20,.agg #[int u64 (px u),int u64 (py u),.bool (pb u)])] rfl rfl (fun A w ⟨e0,_⟩ hB=>mi_cp e0)
    |14,_=>exact G.obv [] rfl rfl (fun A w _ hB=>mi_plain rfl)
    |15,_=>exact G.ob_slc 2 [(21,.iface 75 (.agg #[int u64 (px u),int u64 (py u),.bool (pb u)])),(22,.iface 196 (.string finW))] rfl rfl (fun _=>by kernel_rfl) (fun A w ⟨e0,e1,_⟩=>sl_parts2 e0 e1)
    |16,_=>exact G.ob_use 23 15 1002 (.cells #[.iface 75 (.agg #[int u64 (px u),int u64 (py u),.bool (pb u)]),.iface 196 (.string finW)] 231) (fun f=> [(19,.string T1),(23,.slice (some ⟨f 15,0,none⟩) 2 2)]) rfl rfl (by decide) (by kernel_rfl) rfl (fun _=>by kernel_rfl) (fun f A w ⟨e0,e1,_⟩ hB hr=>cl2 cf_impl_transcript_with e0 e1 (Q3 _ w hr))
    |17,_=>exact G.obv [(24,.string TX)] rfl rfl (fun A w ⟨e0,_⟩ hB=>doV_assign e0)
    |ix+18,h=>exact absurd h (by simp)
  intro f W3 hS _ _ _ _;have b3:Bl X W3:=(Below.refl _ X).drew.trans hS.below;replace hb:=hb.tr b3;have hT3:TabK W3:=fun i hi=>(hb.cell (p:=⟨7,i,none⟩) hgw).trans (hT i hi)
  clear hS b3 s1 s8 u0 u1 u2 r0 r1 Q1 Q2 Q3 HS;simp only [puts,List.foldl,Act.put,List.setIfInBounds_toArray,List.set_cons_zero,List.set_cons_succ];have hal:=balc W3 (Obj.cells #[.string TX] 9);have hT4:TabK (W3.alloc (Obj.cells #[.string TX] 9)):=fun i hi=>(hal.cell (p:=⟨7,i,none⟩) (Nat.lt_of_lt_of_le hgw hb.size)).trans (hT3 i hi)
  go_wp2_with fail;refine(QH _ _ hT4 (heap_alloc_new W3 _)).mono ?_;rintro e w4 ⟨rfl,b4⟩;replace hb:=hb.tr hal;replace hb:=hb.tr b4;go_wp2;go_ret;exact⟨rfl,hb⟩
theorem outI_twoof
    (HS:∀w,Calls prog F6 #[.string info] w fun e w'=>∃x,e= .returned (slP x)∧cePart info x w'∧Bl w w')
    (Q2:∀x w,cePart info x w→Cr 119 #[.string T1,slP x] w (.string T2))
    (Q3:∀i (w:World),w.heap[i]? =some (.cells #[.iface 75 (.agg #[int u64 (px u),int u64 (py u),.bool (pb u)]),.iface 196 (.string finW)] 231)→Cr 119 #[.string T2,.slice (some ⟨i,0,none⟩) 2 2] w (.string TX)):
    Cr 96 #[.agg #[.string cx,.string info,.func (.func F0) #[] #[],.func (.func F1) #[] #[],.func (.func F2) #[] #[],.func (.func F3) #[] #[],.func (.func F4) #[] #[],.func (.func F5) #[] #[],.func (.func F6) #[] #[]],.string input,.agg #[int u64 (px u),int u64 (py u),.bool (pb u)]] w (.string R):=by
  have hgw:7<w.heap.size:=World.block_lt_of_cell? w _ (hT 0 (by omega));obtain⟨X,hX⟩:∃X,X=(w.alloc (Obj.cells #[.string cx,.string info,.func (.func F0) #[] #[],.func (.func F1) #[] #[],.func (.func F2) #[] #[],.func (.func F3) #[] #[],.func (.func F4) #[] #[],.func (.func F5) #[] #[],.func (.func F6) #[] #[]] 130)).alloc (Obj.cells #[int u64 (px u),int u64 (py u),.bool (pb u)] 75):=⟨_,rfl⟩;have r0:Bk X 130 w.heap.size #[.string cx,.string info,.func (.func F0) #[] #[],.func (.func F1) #[] #[],.func (.func F2) #[] #[],.func (.func F3) #[] #[],.func (.func F4) #[] #[],.func (.func F5) #[] #[],.func (.func F6) #[] #[]]:=by rw [hX];exact(Bk.new _ _ _).alloc _
  have r1:K3 X 75 (w.heap.size+1) (px u) (py u) (pb u):=by rw [hX];exact(K3.new _ _ _ _ _).at (by simp)
  have hb:Bl w X:=by rw [hX];exact((Below.refl _ w).alloc (Nat.le_refl _) _).alloc (by simp) _
  go_enter func96,ntmps96;go_wp2;rw [←hX];clear hX;have s1:X.drew.cell? ⟨w.heap.size,1,none⟩=_:=r0.cell (k:=1) rfl;have s8:X.drew.cell? ⟨w.heap.size,8,none⟩=_:=r0.cell (k:=8) rfl;have u0:X.drew.cell? ⟨w.heap.size+1,0,none⟩=_:=r1.c0;have u1:X.drew.cell? ⟨w.heap.size+1,1,none⟩=_:=r1.c1;have u2:X.drew.cell? ⟨w.heap.size+1,2,none⟩=_:=r1.c2
  refine G.pool_list (W:=X) [] [.val (.string input),
      .val (.iface 211 (.string input)),
      .new (.cells #[.iface 211 (.string input)] 231) (.cells #[.iface 211 (.string input)] 231) 1001,
      .val (.string T1),
      .val (.pointer (some ⟨w.heap.size,2,none⟩)),
      .val (.pointer (some ⟨w.heap.size,8,none⟩)),
      .val (.func (.func F6) #[] #[]),
      .val (.pointer (some ⟨w.heap.size,0,none⟩)),
      .val (.pointer (some ⟨w.heap.size,1,none⟩)),
      .val (.string info),
      .got (slP) (cePart info),
      .val (.string T2),
      .val (.agg #[int u64 (px u),int u64 (py u),.bool (pb u)]),
      .val (.iface 75 (.agg #[int u64 (px u),int u64 (py u),.bool (pb u)])),
      .val (.iface 196 (.string finW)),
      .new (.cells #[.iface 75 (.agg #[int u64 (px u),int u64 (py u),.bool (pb u)]),.iface 196 (.string finW)] 231) (.cells #[.iface 75 (.agg #[int u64 (px u),int u64 (py u),.bool (pb u)]),.iface 196 (.string finW)] 231) 1002,
      .val (.string TX),
      .val (.string TX)] [[1],[8],[9],[10],[3],[12],[13],[3],[15],[16],[14,17],[11,18],[5],[20],[],[21,22],[19,23],[24]] (fun f=> [(some 8,.string input),(some 9,.iface 211 (.string input)),(some 10,.slice (some ⟨f 2,0,none⟩) 1 1),(some 11,.string T1),(some 12,.pointer (some ⟨w.heap.size,2,none⟩)),(some 13,.pointer (some ⟨w.heap.size,8,none⟩)),(some 14,.func (.func F6) #[] #[]),(some 15,.pointer (some ⟨w.heap.size,0,none⟩)),(some 16,.pointer (some ⟨w.heap.size,1,none⟩)),(some 17,.string info),(some 18,slP (f 10)),(some 19,.string T2),(some 20,.agg #[int u64 (px u),int u64 (py u),.bool (pb u)]),(some 21,.iface 75 (.agg #[int u64 (px u),int u64 (py u),.bool (pb u)])),(some 22,.iface 196 (.string finW)),(some 23,.slice (some ⟨f 15,0,none⟩) 2 2),(some 24,.string TX),(some 7,.string TX)]) (by kernel_rfl) (by kernel_rfl) (by kernel_rfl) (by kernel_rfl) (fun _=>by kernel_rfl) (G.last_same [] (fun F R hm=>by simp only [List.mem_cons,List.not_mem_nil,or_false,reduceCtorEq,false_or,G.Knd.got.injEq] at hm;obtain⟨-,rfl⟩:=hm;exact⟨cePart_lasts info _ (fun ob hm=>by simp at hm),fun x w w' hx hk=>(hk x).trans hx⟩) (fun ob ob' k hm=>by simp at hm;rcases hm with ⟨rfl,rfl,-⟩|⟨rfl,rfl,-⟩<;>exact .inl rfl) (fun b ob ob' hm=>by simp at hm)) (fun b ob ob' hm=>by simp at hm) ?_ ?_
  · intro ix hix
    match ix,hix with
    |0,_=>exact G.obv [(1,.string input)] rfl rfl (fun A w ⟨e0,_⟩ hB=>doV_move e0)
    |1,_=>exact G.obv [(8,.string input)] rfl rfl (fun A w ⟨e0,_⟩ hB=>mi_sized e0)
    |2,_=>exact G.ob_slc 1 [(9,.iface 211 (.string input))] rfl rfl (fun _=>by kernel_rfl) (fun A w ⟨e0,_⟩=>sl_parts1 e0)
    |3,_=>exact G.ob_use 10 2 1001 (.cells #[.iface 211 (.string input)] 231) (fun f=> [(10,.slice (some ⟨f 2,0,none⟩) 1 1)]) rfl rfl (by decide) (by kernel_rfl) rfl (fun _=>by kernel_rfl) (fun f A w ⟨e0,_⟩ hB hr=>cl2 cf_impl_transcript_with rfl e0 (Q1 _ w hr))
    |4,_=>exact G.obv [(3,.pointer (some ⟨w.heap.size,0,none⟩))] rfl rfl (fun A w ⟨e0,_⟩ hB=>fa_pro1 e0)
    |5,_=>exact G.obv [(12,.pointer (some ⟨w.heap.size,2,none⟩))] rfl rfl (fun A w ⟨e0,_⟩ hB=>fa_rul6 e0)
    |6,_=>exact G.obv [(13,.pointer (some ⟨w.heap.size,8,none⟩))] rfl rfl (fun A w ⟨e0,_⟩ hB=>ld_fn6 e0 (hB.cell s8 (by simp)))
    |7,_=>exact G.obv [(3,.pointer (some ⟨w.heap.size,0,none⟩))] rfl rfl (fun A w ⟨e0,_⟩ hB=>fa_pro0 e0)
    |8,_=>exact G.obv [(15,.pointer (some ⟨w.heap.size,0,none⟩))] rfl rfl (fun A w ⟨e0,_⟩ hB=>fa_set1 e0)
    |9,_=>exact G.obv [(16,.pointer (some ⟨w.heap.size,1,none⟩))] rfl rfl (fun A w ⟨e0,_⟩ hB=>ld_str e0 (hB.cell s1 (by simp)))
    |10,_=>exact G.ob_got (fun f=> [(14,.func (.func F6) #[] #[]),(17,.string info)]) rfl rfl (fun _=>by kernel_rfl) (fun f A w ⟨e0,e1,_⟩ hB hh=>cw1 E6 e0 e1 (HS w))
    |11,_=>exact G.ob_had (fun f=> [(11,.string T1),(18,slP (f 10))]) rfl rfl (fun _=>by kernel_rfl) (fun f A w ⟨e0,e1,_⟩ hB hh=>cl2 cf_impl_transcript_with e0 e1 (Q2 _ w (hh 18 (by decide) 10 rfl (by decide) _ _ rfl)))
    |12,_=>exact G.obv [(5,.pointer (some ⟨w.heap.size+1,0,none⟩))] rfl rfl (fun A w ⟨e0,_⟩ hB=>ld_cp e0 (hB.cell u0 (by simp)) (hB.cell u1 (by simp)) (hB.cell u2 (by simp)))
    |13,_=>exact G.obv [(20,.agg #[int u64 (px u),int u64 (py u),.bool (pb u)])] rfl rfl (fun A w ⟨e0,_⟩ hB=>mi_cp e0)
    |14,_=>exact G.obv [] rfl rfl (fun A w _ hB=>mi_plain rfl)
    |15,_=>exact G.ob_slc 2 [(21,.iface 75 (.agg #[int u64 (px u),int u64 (py u),.bool (pb u)])),(22,.iface 196 (.string finW))] rfl rfl (fun _=>by kernel_rfl) (fun A w ⟨e0,e1,_⟩=>sl_parts2 e0 e1)
    |16,_=>exact G.ob_use 23 15 1002 (.cells #[.iface 75 (.agg #[int u64 (px u),int u64 (py u),.bool (pb u)]),.iface 196 (.string finW)] 231) (fun f=> [(19,.string T2),(23,.slice (some ⟨f 15,0,none⟩) 2 2)]) rfl rfl (by decide) (by kernel_rfl) rfl (fun _=>by kernel_rfl) (fun f A w ⟨e0,e1,_⟩ hB hr=>cl2 cf_impl_transcript_with e0 e1 (Q3 _ w hr))
    |17,_=>exact G.obv [(24,.string TX)] rfl rfl (fun A w ⟨e0,_⟩ hB=>doV_assign e0)
    |ix+18,h=>exact absurd h (by simp)
  intro f W3 hS _ _ _ _;have b3:Bl X W3:=(Below.refl _ X).drew.trans hS.below;replace hb:=hb.tr b3;have hT3:TabK W3:=fun i hi=>(hb.cell (p:=⟨7,i,none⟩) hgw).trans (hT i hi)
  clear hS b3 s1 s8 u0 u1 u2 r0 r1 Q1 Q2 Q3 HS;simp only [puts,List.foldl,Act.put,List.setIfInBounds_toArray,List.set_cons_zero,List.set_cons_succ];have hal:=balc W3 (Obj.cells #[.string TX] 9);have hT4:TabK (W3.alloc (Obj.cells #[.string TX] 9)):=fun i hi=>(hal.cell (p:=⟨7,i,none⟩) (Nat.lt_of_lt_of_le hgw hb.size)).trans (hT3 i hi)
  go_wp2_with fail;refine(QH _ _ hT4 (heap_alloc_new W3 _)).mono ?_;rintro e w4 ⟨rfl,b4⟩;replace hb:=hb.tr hal;replace hb:=hb.tr b4;go_wp2;go_ret;exact⟨rfl,hb⟩
end
section
variable (cx info input:ByteArray)(u:Pt)(F0 F1 F2 F3 F4 F5 F6:FuncId)(w:World)(hT:TabK w)(h1:input.size≤65535)(h2:info.size≤60000)
    (E6:∀(args:Array Value) (w:World),(callFunc F6 args).run prog w= .ok (.enter F6 args) w)
include hT h1 h2 E6
theorem outI_no (mode:Int)(hm: ¬ mode=2)
    (HS:Cc F6 #[.string info] (.slice none 0 0)):
    Cr 96 #[.agg #[.string cx,.string info,.func (.func F0) #[] #[],.func (.func F1) #[] #[],.func (.func F2) #[] #[],.func (.func F3) #[] #[],.func (.func F4) #[] #[],.func (.func F5) #[] #[],.func (.func F6) #[] #[]],.string input,.agg #[int u64 (px u),int u64 (py u),.bool (pb u)]] w (.string (outB mode input info u)):=by
  have hz1:(⟨#[]⟩++sizB input:ByteArray).size≤200000:=by rw [ByteArray.size_append,sizB_size];show 0+_≤_;omega
  have eT:(⟨#[]⟩++sizB input:ByteArray)++sizB (ptB u)++finW=outT mode input info u:=by unfold outT;rw [if_neg hm,eml]
  have hzo:=outT_size mode input info u h1 h2;have A1:∀i (w:World),w.heap[i]? =some (.cells #[.iface 211 (.string input)] 231)→Cr 119 #[.string ⟨#[]⟩,.slice (some ⟨i,0,none⟩) 1 1] w (.string (⟨#[]⟩++sizB input)):=fun i w hr=>wth1 ⟨#[]⟩ input i w (by decide) h1 hr
  have A2:=fun w=>wth0 (⟨#[]⟩++sizB input) w (by omega)
  have A3:=fun i w hr=>wth2 (⟨#[]⟩++sizB input) u i w hz1 hr
  rw [eT] at A3;have A4:=fun g w hT hr=>hash_blk (outT mode input info u) g 9 w hT hr (by omega)
  clear eT hz1 hzo;generalize (⟨#[]⟩++sizB input:ByteArray)=T1 at A1 A2 A3;exact outI_noof cx info input T1 (outT mode input info u) (outB mode input info u) u F0 F1 F2 F3 F4 F5 F6 w hT E6 A1 A4 HS A2 A3
theorem outI_two
    (HS:∀w,Calls prog F6 #[.string info] w fun e w'=>∃x,e= .returned (slP x)∧cePart info x w'∧Bl w w'):
    Cr 96 #[.agg #[.string cx,.string info,.func (.func F0) #[] #[],.func (.func F1) #[] #[],.func (.func F2) #[] #[],.func (.func F3) #[] #[],.func (.func F4) #[] #[],.func (.func F5) #[] #[],.func (.func F6) #[] #[]],.string input,.agg #[int u64 (px u),int u64 (py u),.bool (pb u)]] w (.string (outB 2 input info u)):=by
  have e0:=eml (sizB input);have hzo:=outT_size 2 input info u h1 h2;have A4:=fun g w hT hr=>hash_blk (outT 2 input info u) g 9 w hT hr (by omega)
  have eO:outB 2 input info u=strOfNums (shaF (byt (outT 2 input info u))):=rfl;have eX:outT 2 input info u=sizB input++sizB info++sizB (ptB u)++finW:=by unfold outT;rw [if_pos rfl]
  rw [eO];clear eO
  have A1:∀i (w:World),w.heap[i]? =some (.cells #[.iface 211 (.string input)] 231)→Cr 119 #[.string ⟨#[]⟩,.slice (some ⟨i,0,none⟩) 1 1] w (.string (sizB input)):=fun i w hr=>by
    have:=wth1 ⟨#[]⟩ input i w (by decide) h1 hr;rw [e0] at this;exact this
  clear e0;have z1:=sizB_size input;have z2:=sizB_size info;obtain⟨T1,hT1⟩:∃T1,T1=sizB input:=⟨_,rfl⟩;rw [←hT1] at A1 eX z1;have A2:∀x w,cePart info x w→Cr 119 #[.string T1,slP x] w (.string (T1++sizB info)):=fun x w hr=>wth1 T1 info x w (by omega) (by omega) hr
  obtain⟨T2,hT2⟩:∃T2,T2=T1++sizB info:=⟨_,rfl⟩;have z3:T2.size≤200000:=by rw [hT2,ByteArray.size_append];omega
  rw [←hT2] at A2 eX;have A3:=fun i w hr=>wth2 T2 u i w z3 hr
  rw [←eX] at A3;generalize outT 2 input info u=TX at*;exact outI_twoof cx info input T1 T2 TX _ u F0 F1 F2 F3 F4 F5 F6 w hT E6 A1 A4 HS A2 A3
end
end
end Go.Proofs.YtmjniccfjffclaaGreatDoor
