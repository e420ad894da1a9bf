import Derived.Test.YtjmhmajfkdglnabGreatDoorMrg37
set_option linter.unusedVariables false
set_option maxRecDepth 100000
set_option maxHeartbeats 16000000
namespace Go.Proofs.YtjmhmajfkdglnabGreatDoor
open Go.Proofs.Tryz Go.RowKit
open Go.Value (int)
open Go.IntKind (u64)
section
open M
theorem wpList_append_ow {P:Program}{w:World}{ops:Array Oper}{rest:List Oper}{o:Oper}{a:Act}{Q:Exit→Act→World→Prop}(hgd:o.guard=none)(s x:Operand)(t:TypeId)
    (ho:o.op= .call {callee:= .builtin .append,args:=#[s,x],argTypes:=#[t,t]})
    (base:Nat)(e:TypeId)(i:TypeInfo)(z:Value)(size bytes:Nat)(ht:P.underlying t=some (.slice e))(hi:P.info? e=some i)(hz:i.zero=some z)
    (hsize:i.size=size)(hby:i.bytes=bytes)(hzs:z.cells.size=size)(hsz:0<size)
    (v:Value)(n:Nat)(xs:List Value)(hs:a.eval s=v)(hown:w.ownsRow base e size v n xs)
    (ad:Addr)(m c:Nat)(news:List Value)(hx:a.eval x= .slice (some ad) m c)(hl:news.length=m*size)(hnews:∀j u,news[j]? =some u→w.cell? (ad.add j)=some u)(h1:∀u∈news,u.oneCell'=true)
    (hm:0<m)(h63:n+m≤maxLen)(hbytes:(n+m)*bytes≤140737488355328)(hbase:base≤w.heap.size)
    (h:∀g cap w',w'.ownsRow base e size (.slice (some ⟨g,0,none⟩) (n+m) cap) (n+m) (xs++news)→w.grownBy w' v.ownBlock→g<w'.heap.size→wpList P ops Q rest (a.put o.dst (.slice (some ⟨g,0,none⟩) (n+m) cap)) w'):wpList P ops Q (o::rest) a w:=by
  refine wpList_plain hgd fun K hK=> ?_
  obtain⟨g,cap,w',hr,h2,h3,-,h5⟩:=run_append_lies (P:=P) w t o.type base e i z size bytes ht hi hz hsize hby hzs hsz v n xs hown ad m c news hl hnews h1 hm h63 hbytes hbase w.heap.size rfl;unfold Oper.wp execOp;simp only [ho,resolve,invoke,builtin,Sem.run_bind,Sem.run_pure,Result.andThen_ok,List.map_toArray,List.map_cons,List.map_nil,hs,hx,hr];exact hK _ _ (h g cap w' h2 h3 h5)
def cells3 (ps:List Pt):List Value:=ps.flatMap fun p=> [int u64 (px p),int u64 (py p),.bool (pb p)]
theorem cells3_app (a b:List Pt):cells3 (a++b)=cells3 a++cells3 b:=by simp [cells3]
theorem cells3_at:∀(ps:List Pt) (i:Nat) (p:Pt),ps[i]? =some p→(cells3 ps)[i*3]? =some (int u64 (px p))∧(cells3 ps)[i*3+1]? =some (int u64 (py p))∧(cells3 ps)[i*3+2]? =some (.bool (pb p))
  | [],i,p,h=>by simp at h
  | q::r,0,p,h=>by
    simp at h;subst h;exact⟨rfl,rfl,rfl⟩
  | q::r,i+1,p,h=>by
    have ih:=cells3_at r i p (by simpa using h);have e:cells3 (q::r)= [int u64 (px q),int u64 (py q),.bool (pb q)]++cells3 r:=rfl;rw [e];refine⟨?_,?_,?_⟩
    · rw [List.getElem?_append_right (by simp;omega)];rw [←ih.1];congr 1;simp;omega
    · rw [List.getElem?_append_right (by simp;omega)];rw [←ih.2.1];congr 1;simp;omega
    · rw [List.getElem?_append_right (by simp;omega)];rw [←ih.2.2];congr 1;simp;omega
structure Cps (W:World)(g:Nat)(ps:List Pt):Prop where
  lt:g<W.heap.size
  c0:∀i p,ps[i]? =some p→W.cell? ⟨g,0+i*3,none⟩=some (int u64 (px p))
  c1:∀i p,ps[i]? =some p→W.cell? ⟨g,0+i*3+1,none⟩=some (int u64 (py p))
  c2:∀i p,ps[i]? =some p→W.cell? ⟨g,0+i*3+2,none⟩=some (.bool (pb p))
theorem Cps.below {W W':World}{g:Nat}{L:List Pt}(h:Cps W g L){B:Nat}(hb:Below B W W')(hg:g<B):Cps W' g L:=
  have e:∀i,W'.cell? ⟨g,i,none⟩=W.cell? ⟨g,i,none⟩:=fun i=>World.cell?_of_block (w:=W) (a:=⟨g,i,none⟩) (hb.block g hg)
  ⟨Nat.lt_of_lt_of_le h.lt hb.size,fun i t ht=>(e _).trans (h.c0 i t ht),fun i t ht=>(e _).trans (h.c1 i t ht),fun i t ht=>(e _).trans (h.c2 i t ht)⟩
theorem Cps.keep {W W':World}{g:Nat}{L:List Pt}(h:Cps W g L)(hb:Bl W W'):Cps W' g L:=h.below hb h.lt
theorem Cps.drew {W:World}{g:Nat}{L:List Pt}(h:Cps W g L):Cps W.drew g L:=⟨h.lt,h.c0,h.c1,h.c2⟩
theorem Cps.of_owns {W:World}{base:Nat}{e:TypeId}{g n cap:Nat}{ps:List Pt}(h:W.ownsRow base e 3 (.slice (some ⟨g,0,none⟩) n cap) n (cells3 ps)):Cps W g ps:=by
  have hc:=h.cells (g:=g) rfl;have hlt:=(h.lt g rfl).2;refine⟨hlt,fun i p hp=> ?_,fun i p hp=> ?_,fun i p hp=> ?_⟩
  · have:=hc _ _ (cells3_at ps i p hp).1;rwa [Addr.add_mid] at this
  · have:=hc _ _ (cells3_at ps i p hp).2.1;rwa [Addr.add_mid,←Nat.add_assoc] at this
  · have:=hc _ _ (cells3_at ps i p hp).2.2;rwa [Addr.add_mid,←Nat.add_assoc] at this
theorem infoCP:(prog.info? 86).map (fun i=>(i.zero,i.size,i.bytes))=some (some (.agg #[int u64 0,int u64 0,.bool false]),3,24):=by kernel_rfl
theorem ansS_ok (s:ByteArray)(w:World):
    Cr 37 #[.string s,.nilIface] w (.tuple #[.string s,.int .i64 0]):=by
  go_enter func37,ntmps37;go_wp2;go_ret2;exact⟨rfl,Below.refl _ _⟩
theorem ansS_err (s:ByteArray)(v:Value)(c:Int)(a0 a1 a2 a3:Addr)(w:World)(hs:Sn w a0 a1 a2 a3)(hv:Er a0 a1 a2 a3 v c):
    Cr 37 #[.string s,v] w (.tuple #[.string ⟨#[]⟩,.int .i64 c]):=by
  obtain⟨⟨T,x,rfl⟩,C⟩:=hv;go_enter func37,ntmps37;go_wp2_with fail;refine(C _ hs).mono ?_;rintro e w1 ⟨rfl,b1⟩;go_wp2;go_ret2;exact⟨rfl,b1⟩
theorem facI_of (k z:Int)(b:Bool)(a0 a1 a2 a3:Addr)(w:World)(hs:Sn w a0 a1 a2 a3)(hk:b=true→z=k)
    (E:Cc 50 #[int u64 k,.agg #[]] (.tuple #[.agg #[int u64 z],.bool b])):
    Cr 69 #[int u64 k] w (.tuple #[.agg #[int u64 (if b=true∧ ¬ k=0 then k else 0)],if b=true∧ ¬ k=0 then .nilIface else sen a0]):=by
  have hr:RN (w.alloc (.cells #[int u64 0] 97)) w.heap.size 0:=heap_alloc_new w _;have hb:=balc w (Obj.cells #[int u64 0] 97);have hs1:=hs.keep hb;by_cases h:b=true∧ ¬ k=0
  · rw [if_pos h,if_pos h];obtain⟨rfl,h0⟩:=h;obtain rfl:=hk rfl;have h0':(z==0)=false:=by simpa using h0
    clear hk h0 hs1;go_enter func69,ntmps69;go_wp2_with fail;refine(E _).mono ?_;rintro e w1 ⟨rfl,b1⟩;have hal:=balc w1 (Obj.cells #[int u64 z] 97);have hr2:RN (w1.alloc (.cells #[int u64 z] 97)) w1.heap.size z:=heap_alloc_new w1 _;replace hr:=(hr.keep b1).keep hal;replace hb:=hb.tr b1;replace hb:=hb.tr hal;clear E b1 hal;have c0:=hr.cell;have c1:=hr2.cell;have cf:=hr.frz;go_wp2;exact bodyPost_ret (v:= .tuple #[.agg #[int u64 z],.nilIface]) (RN_res (fn:=Tryz.f69) (p:=2) (u:=3) results69 _ rfl (hr.set z)) rfl ⟨rfl,hb.setCell (p:=⟨w.heap.size,0,none⟩) (Nat.le_refl _) _⟩
  · rw [if_neg h,if_neg h];have hg0:0<w.heap.size:=World.block_lt_of_cell? w _ hs.c0
    cases b with
    | false=>
      clear h hk;go_enter func69,ntmps69;go_wp2_with fail;refine(E _).mono ?_;rintro e w1 ⟨rfl,b1⟩;obtain⟨W2,hW2⟩:∃W2,W2=w1.alloc (Obj.cells #[int u64 z] 97):=⟨_,rfl⟩;have hal:Bl w1 W2:=by rw [hW2];exact(Below.refl _ w1).alloc (Nat.le_refl _) _
      replace hr:=(hr.keep b1).keep hal;replace hs1:=(hs1.keep b1).keep hal;replace hb:=hb.tr b1;replace hb:=hb.tr hal;clear E b1 hal;go_wp2;rw [←hW2];clear hW2;have g0:W2.drew.cell? ⟨0,0,none⟩=_:=hs1.c0;have n0:0∉ [w.heap.size]:=fun h=>absurd (List.mem_singleton.1 h) (by omega)
      have l1:w.heap.size<W2.drew.heap.size:=hr.lt
      refine G.pool_list (W:=W2) [w.heap.size] [.val (.agg #[int u64 0]),
          .val (sen a0),
          .set (w.heap.size) (.cells #[int u64 0] 97) (.cells #[int u64 0] 97),
          .val (sen a0)] [[],[],[2,18],[19]] (fun f=> [(some 18,.agg #[int u64 0]),(some 19,sen a0),(none,undef),(some 3,sen a0)]) (by kernel_rfl) (by kernel_rfl) (by kernel_rfl) (by kernel_rfl) (fun _=>by kernel_rfl) (G.last_of [.cells #[int u64 0] 97] (fun F R hm=>by simp at hm) (fun ob ob' k hm=>by simp at hm) (fun b ob ob' hm=>by simp at hm;simp [hm])) (fun b ob ob' hm=>by simp at hm;obtain⟨rfl,rfl,-⟩:=hm;exact hr) ?_ ?_
      · intro ix hix
        match ix,hix with
        |0,_=>exact G.obv [] rfl rfl (fun A w _ hB=>bu0_nN)
        |1,_=>exact G.obv [] rfl rfl (fun A w _ hB=>ld_err rfl (hB.cell g0 n0))
        |2,_=>exact G.ob_set (fun f=> [(2,.pointer (some ⟨w.heap.size,0,none⟩)),(18,.agg #[int u64 0])]) rfl rfl rfl (by simp) l1 (fun j ob1 ob2 h=>by (rcases j with _|_|_|_|j)<;>simp [G.kindOf] at h⊢ <;>omega) (fun _=>by kernel_rfl) (fun f A w ⟨e0,e1,_⟩ hh hr=>pu_nN e0 e1 hr)
        |3,_=>exact G.obv [(19,sen a0)] rfl rfl (fun A w ⟨e0,_⟩ hB=>doV_assign e0)
        |ix+4,h=>exact absurd h (by simp)
      intro f W3 hS _ _ _ hset;have q1:RN W3 w.heap.size 0:=hset 2 _ _ _ rfl (by decide);have hb3:Bl w W3:=hS.under hb.drew (by simp<;>omega) hb.size;clear hset hS g0;simp only [puts,List.foldl,Act.put,List.setIfInBounds_toArray,List.set_cons_zero,List.set_cons_succ];go_wp2;exact bodyPost_ret (v:= .tuple #[.agg #[int u64 0],sen a0]) (RN_res (fn:=Tryz.f69) (p:=2) (u:=3) results69 _ rfl q1) rfl ⟨rfl,hb3⟩
    | true=>
      obtain rfl:=hk rfl;have h0:z=0:=by simpa using h
      have h0':(z==0)=true:=by simpa using h0
      clear h hk h0;go_enter func69,ntmps69;go_wp2_with fail;refine(E _).mono ?_;rintro e w1 ⟨rfl,b1⟩;obtain⟨W2,hW2⟩:∃W2,W2=w1.alloc (Obj.cells #[int u64 z] 97):=⟨_,rfl⟩;have hal:Bl w1 W2:=by rw [hW2];exact(Below.refl _ w1).alloc (Nat.le_refl _) _
      replace hr:=(hr.keep b1).keep hal;replace hs1:=(hs1.keep b1).keep hal;replace hb:=hb.tr b1;replace hb:=hb.tr hal;clear E b1 hal;go_wp2;rw [←hW2];clear hW2;have g0:W2.drew.cell? ⟨0,0,none⟩=_:=hs1.c0;have n0:0∉ [w.heap.size]:=fun h=>absurd (List.mem_singleton.1 h) (by omega)
      have l1:w.heap.size<W2.drew.heap.size:=hr.lt
      refine G.pool_list (W:=W2) [w.heap.size] [.val (.agg #[int u64 0]),
          .val (sen a0),
          .set (w.heap.size) (.cells #[int u64 0] 97) (.cells #[int u64 0] 97),
          .val (sen a0)] [[],[],[2,18],[19]] (fun f=> [(some 18,.agg #[int u64 0]),(some 19,sen a0),(none,undef),(some 3,sen a0)]) (by kernel_rfl) (by kernel_rfl) (by kernel_rfl) (by kernel_rfl) (fun _=>by kernel_rfl) (G.last_of [.cells #[int u64 0] 97] (fun F R hm=>by simp at hm) (fun ob ob' k hm=>by simp at hm) (fun b ob ob' hm=>by simp at hm;simp [hm])) (fun b ob ob' hm=>by simp at hm;obtain⟨rfl,rfl,-⟩:=hm;exact hr) ?_ ?_
      · intro ix hix
        match ix,hix with
        |0,_=>exact G.obv [] rfl rfl (fun A w _ hB=>bu0_nN)
        |1,_=>exact G.obv [] rfl rfl (fun A w _ hB=>ld_err rfl (hB.cell g0 n0))
        |2,_=>exact G.ob_set (fun f=> [(2,.pointer (some ⟨w.heap.size,0,none⟩)),(18,.agg #[int u64 0])]) rfl rfl rfl (by simp) l1 (fun j ob1 ob2 h=>by (rcases j with _|_|_|_|j)<;>simp [G.kindOf] at h⊢ <;>omega) (fun _=>by kernel_rfl) (fun f A w ⟨e0,e1,_⟩ hh hr=>pu_nN e0 e1 hr)
        |3,_=>exact G.obv [(19,sen a0)] rfl rfl (fun A w ⟨e0,_⟩ hB=>doV_assign e0)
        |ix+4,h=>exact absurd h (by simp)
      intro f W3 hS _ _ _ hset;have q1:RN W3 w.heap.size 0:=hset 2 _ _ _ rfl (by decide);have hb3:Bl w W3:=hS.under hb.drew (by simp<;>omega) hb.size;clear hset hS g0;simp only [puts,List.foldl,Act.put,List.setIfInBounds_toArray,List.set_cons_zero,List.set_cons_succ];go_wp2;exact bodyPost_ret (v:= .tuple #[.agg #[int u64 0],sen a0]) (RN_res (fn:=Tryz.f69) (p:=2) (u:=3) results69 _ rfl q1) rfl ⟨rfl,hb3⟩
theorem facI_any (k:Nat)(a0 a1 a2 a3:Addr)(w:World)(hs:Sn w a0 a1 a2 a3):
    Cr 69 #[int u64 k] w (.tuple #[.agg #[int u64 (if keyB k=true then (k:Int) else 0)],if keyB k=true then .nilIface else sen a0]):=by
  have h:=facI_of (k:Int) _ _ a0 a1 a2 a3 w hs (fun h=>if_pos (of_decide_eq_true h)) (fun w=>exN_any k w);have e:(decide (k<2305843010818082053)=true∧ ¬ (k:Int)=0)↔keyB k=true:=by rw [decide_eq_true_eq,keyB_iff];omega
  simp only [e] at h;exact h
end
theorem mthN (w:World):(method 430 95 (.agg #[]) "loop.example/s02095/impl.value").run prog w= .ok (227,.agg #[]) w:=by kernel_rfl
theorem vluN (w:World):
    Calls prog 227 #[.agg #[]] w fun e w'=>e= .returned (int u64 2305843010818082053)∧w'=w.alloc (.cells #[] 95):=by
  go_enter func227,ntmps227;go_wp2;go_ret;exact⟨rfl,rfl⟩
theorem fldN:Array.foldl (fun(cs:Array Value) (x:Value×Nat)=>cs.setIfInBounds x.snd x.fst) #[Value.int IntKind.u64 0] (#[]:Array Value).zipIdx 0 0=#[Value.int .u64 0]:=rfl
theorem celN:prog.cellsOf 97=1:=by kernel_rfl
theorem bytN:byteOfCell prog prog.depth 97 0=some 0:=by kernel_rfl
theorem prtN {W:World}{b:Nat}{cs:Array Value}(hW:W.heap[b]? =some (.cells cs 97)):(partAt ⟨b,0,none⟩ 0 0).run prog W= .ok ⟨b,0,none⟩ W:=by
  have h:(byteOf ⟨b,0,none⟩).run prog W= .ok 0 W:=by
    have hs:W.shape? b=some (97,cs.size):=by simp [World.shape?,hW]
    simp [byteOf,noView,viewAt,shape,program,Sem.run,hs,celN,bytN,go_sem]
  simp [partAt,h,go_sem]
theorem timN_any (a b:Nat)(w:World)(ha:a<2305843010818082053)(hb:b<2305843010818082053):
    Cr 160 #[.agg #[int u64 a],.agg #[int u64 b]] w (.agg #[int u64 (a*b%2305843010818082053:Nat)]):=by
  have hme:=mthN;have hf:=fldN;have M:=mul64_any a b (by omega) (by omega)
  have D:=fun w=>div_any (a*b/18446744073709551616) (a*b%18446744073709551616) 2305843010818082053 w (by
    rw [Nat.div_lt_iff_lt_mul (by decide)];have:a*b≤2305843010818082052*2305843010818082052:=Nat.mul_le_mul (by omega) (by omega)
    omega) (by decide) (Nat.mod_lt _ (by decide))
  have e:a*b/18446744073709551616*18446744073709551616+a*b%18446744073709551616=a*b:=by omega
  rw [e] at D;clear e;generalize a*b/18446744073709551616=hi at*;generalize a*b%18446744073709551616=lo at*;obtain⟨c,hc⟩:∃c,c=a*b%2305843010818082053:=⟨_,rfl⟩;rw [←hc] at D⊢;clear hc ha hb;obtain⟨X,hX⟩:∃X,X=((w.alloc (Obj.cells #[int u64 (a:Int)] 97)).alloc (Obj.cells #[int u64 (b:Int)] 97)).alloc (Obj.cells #[int u64 0] 97):=⟨_,rfl⟩
  have hX0:X.heap[w.heap.size]? =some (.cells #[int u64 (a:Int)] 97):=by
    rw [hX];exact(Below.heap_alloc _ _ _ (by simp;omega)).trans ((Below.heap_alloc _ _ _ (by simp)).trans (heap_alloc_new w _))
  have hp1:=prtN hX0;have hX1:(X.alloc (Obj.cells #[] 95)).heap[w.heap.size]? =some (.cells #[int u64 (a:Int)] 97):=(Below.heap_alloc _ _ _ (Array.getElem?_eq_some_iff.1 hX0).1).trans hX0;have hp2:=prtN hX1;have hp3:=prtN (W:=(X.alloc (Obj.cells #[] 95)).drew) hX1;rw [hX] at hp1 hp2 hp3;clear hX hX0 hX1;go_enter func160,ntmps160;go_wp2_with fail;refine(M _).mono ?_;rintro e w' ⟨rfl,rfl⟩;go_wp2_with fail;refine(vluN _).mono ?_;rintro e w' ⟨rfl,rfl⟩;go_wp2_with fail;refine(D _).mono ?_;rintro e w' ⟨⟨z,rfl⟩,rfl|rfl⟩
  · go_wp2;refine bodyPost_ret (v:= .agg #[int u64 c]) (by simp [results,results160,go_sem]) rfl ⟨rfl,?_⟩;exact((((Below.refl _ _).alloc (Nat.le_refl _) _).alloc (by simp) _).alloc (by simp;omega) _).alloc (by simp;omega) _
  · go_wp2;refine bodyPost_ret (v:= .agg #[int u64 c]) (by simp [results,results160,go_sem]) rfl ⟨rfl,?_⟩;exact(((((Below.refl _ _).alloc (Nat.le_refl _) _).alloc (by simp) _).alloc (by simp;omega) _).alloc (by simp;omega) _).drew
theorem mnN_lt (a b d c:Int)(w:World)(h:a<b)(hd:IntKind.u64.wrap (a-b)=d)(hc:IntKind.u64.wrap (d+2305843010818082053)=c):
    Cr 178 #[.agg #[int u64 a],.agg #[int u64 b]] w (.agg #[int u64 c]):=by
  have hme:=mthN;have hf:=fldN;obtain⟨X,hX⟩:∃X,X=((w.alloc (Obj.cells #[int u64 a] 97)).alloc (Obj.cells #[int u64 b] 97)).alloc (Obj.cells #[int u64 0] 97):=⟨_,rfl⟩
  have hX0:X.heap[w.heap.size]? =some (.cells #[int u64 a] 97):=by
    rw [hX];exact(Below.heap_alloc _ _ _ (by simp;omega)).trans ((Below.heap_alloc _ _ _ (by simp)).trans (heap_alloc_new w _))
  have hp1:=prtN hX0;have hX1:(X.alloc (Obj.cells #[] 95)).heap[w.heap.size]? =some (.cells #[int u64 a] 97):=(Below.heap_alloc _ _ _ (Array.getElem?_eq_some_iff.1 hX0).1).trans hX0;have hp2:=prtN hX1;rw [hX] at hp1 hp2;clear hX hX0 hX1;go_enter func178,ntmps178;go_wp2_with fail;refine(vluN _).mono ?_;rintro e w' ⟨rfl,rfl⟩;go_wp2;refine bodyPost_ret (v:= .agg #[int u64 c]) (by simp [results,results178,go_sem]) rfl ⟨rfl,?_⟩;exact((((Below.refl _ _).alloc (Nat.le_refl _) _).alloc (by simp) _).alloc (by simp;omega) _).alloc (by simp;omega) _
theorem mnN_ge (a b d:Int)(w:World)(h:b≤a)(hd:IntKind.u64.wrap (a-b)=d):
    Cr 178 #[.agg #[int u64 a],.agg #[int u64 b]] w (.agg #[int u64 d]):=by
  have hme:=mthN;have hf:=fldN;have hlt: ¬ a<b:=by omega
  clear h;obtain⟨X,hX⟩:∃X,X=((w.alloc (Obj.cells #[int u64 a] 97)).alloc (Obj.cells #[int u64 b] 97)).alloc (Obj.cells #[int u64 0] 97):=⟨_,rfl⟩
  have hX0:X.heap[w.heap.size]? =some (.cells #[int u64 a] 97):=by
    rw [hX];exact(Below.heap_alloc _ _ _ (by simp;omega)).trans ((Below.heap_alloc _ _ _ (by simp)).trans (heap_alloc_new w _))
  have hp1:=prtN hX0;rw [hX] at hp1;clear hX hX0;go_enter func178,ntmps178;go_wp2;refine bodyPost_ret (v:= .agg #[int u64 d]) (by simp [results,results178,go_sem]) rfl ⟨rfl,?_⟩;exact(((Below.refl _ _).alloc (Nat.le_refl _) _).alloc (by simp) _).alloc (by simp;omega) _
theorem mnN_any (a b:Nat)(w:World)(ha:a<2305843010818082053)(hb:b<2305843010818082053):
    Cr 178 #[.agg #[int u64 a],.agg #[int u64 b]] w (.agg #[int u64 ((a+(2305843010818082053-b)%2305843010818082053)%2305843010818082053:Nat)]):=by
  by_cases h:a<b
  · have e:((a+(2305843010818082053-b)%2305843010818082053)%2305843010818082053:Nat)=a+2305843010818082053-b:=by
      rw [Nat.mod_eq_of_lt (show 2305843010818082053-b<2305843010818082053 by omega),Nat.mod_eq_of_lt (by omega)];omega
    rw [e];refine mnN_lt a b ((a:Int)-b+18446744073709551616) _ w (by omega) ?_ ?_
    · rw [IntKind.wrap_u64];omega
    · rw [IntKind.wrap_u64];omega
  · have e:((a+(2305843010818082053-b)%2305843010818082053)%2305843010818082053:Nat)=a-b:=by
      by_cases hb0:b=0
      · subst hb0;rw [Nat.sub_zero,Nat.mod_self,Nat.add_zero,Nat.mod_eq_of_lt ha,Nat.sub_zero]
      · rw [Nat.mod_eq_of_lt (show 2305843010818082053-b<2305843010818082053 by omega)];have:a+(2305843010818082053-b)=(a-b)+2305843010818082053:=by omega
        rw [this,Nat.add_mod_right,Nat.mod_eq_of_lt (by omega)]
    rw [e];refine mnN_ge a b _ w (by omega) ?_;rw [IntKind.wrap_u64];omega
def ctxB (k:Nat):ByteArray:=⟨#[84,79,89,80,82,70,45]⟩++(⟨#[48,49,50]⟩:ByteArray).extract k (k+1)++⟨#[45,77,54,49]⟩
theorem tagB_ctx (word:ByteArray)(k:Nat):tagB word k=word++ctxB k:=by
  unfold tagB ctxB;rw [←ByteArray.append_assoc,←ByteArray.append_assoc]
theorem ctxB_size (k:Nat)(h:k<3):(ctxB k).size=12:=by
  rcases(show k=0∨k=1∨k=2 by omega) with rfl|rfl|rfl<;>rfl
theorem smlI (k:Nat)(w:World)(hk:k<3):
    Calls prog 185 #[.int .i64 k] w fun e w'=>e= .returned (.string ((⟨#[48,49,50]⟩:ByteArray).extract k (k+1)))∧w=w':=by
  rcases(show k=0∨k=1∨k=2 by omega) with rfl|rfl|rfl
  · go_enter func185,ntmps185;go_wp2;go_ret;exact⟨congrArg (fun s=>Ending.returned (Value.string s)) (by kernel_rfl),rfl⟩
  · go_enter func185,ntmps185;go_wp2;go_ret;exact⟨congrArg (fun s=>Ending.returned (Value.string s)) (by kernel_rfl),rfl⟩
  · go_enter func185,ntmps185;go_wp2;go_ret;exact⟨congrArg (fun s=>Ending.returned (Value.string s)) (by kernel_rfl),rfl⟩
theorem fmtI_of (k:Int)(s:ByteArray)(w:World)(h0:0≤k)(h1:k<100)
    (L:∀w,Calls prog 185 #[.int .i64 k] w fun e w'=>e= .returned (.string s)∧w=w'):
    Calls prog 179 #[.int .i64 k,.int .i64 10] w fun e w'=>e= .returned (.string s)∧w=w':=by
  go_enter func179,ntmps179;go_wp2_with fail;refine(L _).mono ?_;rintro e w1 ⟨rfl,rfl⟩;go_wp2;go_ret;exact⟨rfl,rfl⟩
theorem itoI_of (k:Int)(s:ByteArray)(w:World)
    (L:∀w,Calls prog 179 #[.int .i64 k,.int .i64 10] w fun e w'=>e= .returned (.string s)∧w=w'):
    Calls prog 161 #[.int .i64 k] w fun e w'=>e= .returned (.string s)∧w=w':=by
  go_enter func161,ntmps161;go_wp2_with fail;refine(L _).mono ?_;rintro e w1 ⟨rfl,rfl⟩;go_wp2;go_ret;exact⟨rfl,rfl⟩
theorem itoP_of (k:Int)(s:ByteArray)(w:World)
    (L:∀w,Calls prog 161 #[.int .i64 k] w fun e w'=>e= .returned (.string s)∧w=w'):
    Calls prog 117 #[.int .i64 k] w fun e w'=>e= .returned (.string s)∧w=w':=by
  go_enter func117,ntmps117;go_wp2_with fail;refine(L _).mono ?_;rintro e w1 ⟨rfl,rfl⟩;go_wp2;go_ret;exact⟨rfl,rfl⟩
theorem ctxI_yes (k:Nat)(w:World)(hk:k<3):
    Calls prog 84 #[.int .i64 k] w fun e w'=>e= .returned (.tuple #[.string (ctxB k),.bool true])∧w=w':=by
  have L:=fun w=>itoP_of k _ w (fun w=>itoI_of k _ w (fun w=>fmtI_of k _ w (by omega) (by omega) (fun w=>smlI k w hk)))
  have hs:((⟨#[48,49,50]⟩:ByteArray).extract k (k+1)).size=1:=by
    rcases(show k=0∨k=1∨k=2 by omega) with rfl|rfl|rfl<;>rfl
  unfold ctxB;generalize (⟨#[48,49,50]⟩:ByteArray).extract k (k+1)=D at*;have g1: ¬ (k:Int)<0:=by omega
  have g2: ¬ (3:Int)≤(k:Int):=by omega
  have q1: ¬ (9223372036854775807<(ByteArray.mk #[84,79,89,80,82,70,45]).size+D.size):=by rw [hs];decide
  have q2: ¬ (9223372036854775807<(ByteArray.mk #[84,79,89,80,82,70,45]++D).size+(ByteArray.mk #[45,77,54,49]).size):=by rw [ByteArray.size_append,hs];decide
  go_enter func84,ntmps84;go_wp2_with fail;refine(L _).mono ?_;rintro e w1 ⟨rfl,rfl⟩;clear L hk;go_wp2;go_ret2;exact⟨rfl,rfl⟩
theorem ctxI_no (k:Int)(w:World)(hk: ¬ (0≤k∧k≤2)):
    Calls prog 84 #[.int .i64 k] w fun e w'=>e= .returned (.tuple #[.string ⟨#[]⟩,.bool false])∧w=w':=by
  by_cases h0:k<0
  · clear hk;go_enter func84,ntmps84;go_wp2;go_ret2;exact⟨rfl,rfl⟩
  · have g2:(3:Int)≤k:=by omega
    clear hk;go_enter func84,ntmps84;go_wp2;go_ret2;exact⟨rfl,rfl⟩
theorem tagI_any (c word:ByteArray)(w:World)(h1:c.size≤1000)(h2:word.size≤1000):
    Cr 105 #[.string c,.string word] w (.string (word++c)):=by
  go_enter func105,ntmps105;go_wp2;go_ret;exact⟨rfl,Below.refl _ _⟩
end Go.Proofs.YtjmhmajfkdglnabGreatDoor
