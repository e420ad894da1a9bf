import Derived.Test.YtmjniccfjffclaaGreatDoorMrg36
set_option linter.unusedVariables false
set_option maxRecDepth 100000
set_option maxHeartbeats 16000000
namespace Go.Proofs.YtmjniccfjffclaaGreatDoor
open Go.Proofs.Tryz Go.RowKit
open Go.Value (int)
open Go.IntKind (u64)
section
open M
theorem R3.keep' {W W':World}{b:Nat}{x y:Int}{c:Bool}(h:R3 W b x y c)(hb:Bl W W'):R3 W' b x y c:=h.below hb h.lt
noncomputable def comM (k:Nat) (b:Tri) (cs ds ps:List Tri):Pt:=mixTo (wgts k (asT b) (cs.map asT) (ds.map asT) cs.length) (ps.map asT) cs.length
theorem asT_list (ps:List Tri):∀p∈ps.map asT,on p:=fun p hp=>by obtain⟨t,-,rfl⟩:=List.mem_map.1 hp;exact asT_on t
theorem comM_on (k:Nat)(b:Tri)(cs ds ps:List Tri):on (comM k b cs ds ps):=mixTo_on (asT_list ps) _
theorem chlS_of (k:Nat)(bx by' mx my zx zy xx xy yx yy n:Int)(bc mc zc xc yc:Bool)(p1 p2 p3 p4 p5 s1 s2 s3 s4 s5:ByteArray)(w:World)
    (h1:s1.size≤100)(h2:s2.size≤100)(h3:s3.size≤100)(h4:s4.size≤100)(h5:s5.size≤100)
    (P1:Cc 95 #[.agg #[int u64 bx,int u64 by',.bool bc]] (.string p1))
    (P2:Cc 95 #[.agg #[int u64 mx,int u64 my,.bool mc]] (.string p2))
    (P3:Cc 95 #[.agg #[int u64 zx,int u64 zy,.bool zc]] (.string p3))
    (P4:Cc 95 #[.agg #[int u64 xx,int u64 xy,.bool xc]] (.string p4))
    (P5:Cc 95 #[.agg #[int u64 yx,int u64 yy,.bool yc]] (.string p5))
    (Z1:Cc 62 #[.string p1] (.string s1))
    (Z2:Cc 62 #[.string p2] (.string s2))
    (Z3:Cc 62 #[.string p3] (.string s3))
    (Z4:Cc 62 #[.string p4] (.string s4))
    (Z5:Cc 62 #[.string p5] (.string s5))
    (SC:Cc 61 #[.string (s1++s2++s3++s4++s5++challB),.int .i64 k] (int u64 n)):
    Cr 68 #[.int .i64 k,.agg #[int u64 bx,int u64 by',.bool bc],.agg #[int u64 mx,int u64 my,.bool mc],.agg #[int u64 zx,int u64 zy,.bool zc],.agg #[int u64 xx,int u64 xy,.bool xc],.agg #[int u64 yx,int u64 yy,.bool yc]] w (int u64 n):=by
  obtain⟨X,hX⟩:∃X,X=((((w.alloc (Obj.cells #[int u64 bx,int u64 by',.bool bc] 34)).alloc (Obj.cells #[int u64 mx,int u64 my,.bool mc] 34)).alloc (Obj.cells #[int u64 zx,int u64 zy,.bool zc] 34)).alloc (Obj.cells #[int u64 xx,int u64 xy,.bool xc] 34)).alloc (Obj.cells #[int u64 yx,int u64 yy,.bool yc] 34):=⟨_,rfl⟩;have r1:R3 X w.heap.size bx by' bc:=by rw [hX];exact((((R3.new _ bx by' bc).alloc _).alloc _).alloc _).alloc _
  have r2:R3 X (w.heap.size+1) mx my mc:=by rw [hX];exact((((R3.new _ mx my mc).at (by simp)).alloc _).alloc _).alloc _
  have r3:R3 X (w.heap.size+1+1) zx zy zc:=by rw [hX];exact(((R3.new _ zx zy zc).at (by simp)).alloc _).alloc _
  have r4:R3 X (w.heap.size+1+1+1) xx xy xc:=by rw [hX];exact((R3.new _ xx xy xc).at (by simp)).alloc _
  have r5:R3 X (w.heap.size+1+1+1+1) yx yy yc:=by rw [hX];exact(R3.new _ yx yy yc).at (by simp)
  have hb:Bl w X:=by
    rw [hX];exact(((((Below.refl _ w).alloc (Nat.le_refl _) _).alloc (by simp) _).alloc (by simp;omega) _).alloc (by simp;omega) _).alloc (by simp;omega) _
  have q1:s1.size+s2.size≤9223372036854775807:=by omega
  have q2:(s1++s2).size+s3.size≤9223372036854775807:=by simp only [ByteArray.size_append];omega
  have q3:(s1++s2++s3).size+s4.size≤9223372036854775807:=by simp only [ByteArray.size_append];omega
  have q4:(s1++s2++s3++s4).size+s5.size≤9223372036854775807:=by simp only [ByteArray.size_append];omega
  have q5:(s1++s2++s3++s4++s5).size+challB.size≤9223372036854775807:=by
    simp only [ByteArray.size_append];rw [show challB.size=9 from rfl];omega
  go_enter func68,ntmps68;go_wp2;rw [←hX];clear hX;have a0:X.drew.cell? ⟨w.heap.size,0,none⟩=_:=r1.c0;have a1:X.drew.cell? ⟨w.heap.size,1,none⟩=_:=r1.c1;have a2:X.drew.cell? ⟨w.heap.size,2,none⟩=_:=r1.c2;have b0:X.drew.cell? ⟨w.heap.size+1,0,none⟩=_:=r2.c0;have b1:X.drew.cell? ⟨w.heap.size+1,1,none⟩=_:=r2.c1;have b2:X.drew.cell? ⟨w.heap.size+1,2,none⟩=_:=r2.c2;have c0:X.drew.cell? ⟨w.heap.size+1+1,0,none⟩=_:=r3.c0;have c1:X.drew.cell? ⟨w.heap.size+1+1,1,none⟩=_:=r3.c1;have c2:X.drew.cell? ⟨w.heap.size+1+1,2,none⟩=_:=r3.c2;have d0:X.drew.cell? ⟨w.heap.size+1+1+1,0,none⟩=_:=r4.c0;have d1:X.drew.cell? ⟨w.heap.size+1+1+1,1,none⟩=_:=r4.c1;have d2:X.drew.cell? ⟨w.heap.size+1+1+1,2,none⟩=_:=r4.c2;have e0':X.drew.cell? ⟨w.heap.size+1+1+1+1,0,none⟩=_:=r5.c0;have e1':X.drew.cell? ⟨w.heap.size+1+1+1+1,1,none⟩=_:=r5.c1;have e2':X.drew.cell? ⟨w.heap.size+1+1+1+1,2,none⟩=_:=r5.c2;clear r1 r2 r3 r4 r5
  refine pool_list [.val (.agg #[int u64 bx,int u64 by',.bool bc]),
      .val (.string p1),
      .val (.string s1),
      .val (.agg #[int u64 mx,int u64 my,.bool mc]),
      .val (.string p2),
      .val (.string s2),
      .val (.string (s1++s2)),
      .val (.agg #[int u64 zx,int u64 zy,.bool zc]),
      .val (.string p3),
      .val (.string s3),
      .val (.string (s1++s2++s3)),
      .val (.agg #[int u64 xx,int u64 xy,.bool xc]),
      .val (.string p4),
      .val (.string s4),
      .val (.string (s1++s2++s3++s4)),
      .val (.agg #[int u64 yx,int u64 yy,.bool yc]),
      .val (.string p5),
      .val (.string s5),
      .val (.string (s1++s2++s3++s4++s5)),
      .val (.string (s1++s2++s3++s4++s5++challB)),
      .val (.int .i64 (k:Int)),
      .val (int u64 n),
      .val (int u64 n)] [[7],[13],[14],[8],[16],[17],[15,18],[9],[20],[21],[19,22],[10],[24],[25],[23,26],[11],[28],[29],[27,30],[31],[0],[32,33],[34]] (fun f=> [(some 13,.agg #[int u64 bx,int u64 by',.bool bc]),(some 14,.string p1),(some 15,.string s1),(some 16,.agg #[int u64 mx,int u64 my,.bool mc]),(some 17,.string p2),(some 18,.string s2),(some 19,.string (s1++s2)),(some 20,.agg #[int u64 zx,int u64 zy,.bool zc]),(some 21,.string p3),(some 22,.string s3),(some 23,.string (s1++s2++s3)),(some 24,.agg #[int u64 xx,int u64 xy,.bool xc]),(some 25,.string p4),(some 26,.string s4),(some 27,.string (s1++s2++s3++s4)),(some 28,.agg #[int u64 yx,int u64 yy,.bool yc]),(some 29,.string p5),(some 30,.string s5),(some 31,.string (s1++s2++s3++s4++s5)),(some 32,.string (s1++s2++s3++s4++s5++challB)),(some 33,.int .i64 (k:Int)),(some 34,int u64 n),(some 12,int u64 n)]) (by kernel_rfl) (by kernel_rfl) (by kernel_rfl) (by kernel_rfl) (fun _=>by kernel_rfl) ?_ ?_
  · intro ix hix
    match ix,hix with
    |0,_=>exact obv [(7,.pointer (some ⟨w.heap.size,0,none⟩))] rfl rfl (fun A w ⟨e0,_⟩ hB=>ld_pt e0 (keepC a0 hB) (keepC a1 hB) (keepC a2 hB))
    |1,_=>exact obv [(13,.agg #[int u64 bx,int u64 by',.bool bc])] rfl rfl (fun A w ⟨e0,_⟩ hB=>cl1 cf_spec_PutPoint e0 (P1 w))
    |2,_=>exact obv [(14,.string p1)] rfl rfl (fun A w ⟨e0,_⟩ hB=>cl1 cf_spec_l5Sized e0 (Z1 w))
    |3,_=>exact obv [(8,.pointer (some ⟨w.heap.size+1,0,none⟩))] rfl rfl (fun A w ⟨e0,_⟩ hB=>ld_pt e0 (keepC b0 hB) (keepC b1 hB) (keepC b2 hB))
    |4,_=>exact obv [(16,.agg #[int u64 mx,int u64 my,.bool mc])] rfl rfl (fun A w ⟨e0,_⟩ hB=>cl1 cf_spec_PutPoint e0 (P2 w))
    |5,_=>exact obv [(17,.string p2)] rfl rfl (fun A w ⟨e0,_⟩ hB=>cl1 cf_spec_l5Sized e0 (Z2 w))
    |6,_=>exact obv [(15,.string s1),(18,.string s2)] rfl rfl (fun A w ⟨e0,e1,_⟩ hB=>doS_cat e0 e1 q1)
    |7,_=>exact obv [(9,.pointer (some ⟨w.heap.size+1+1,0,none⟩))] rfl rfl (fun A w ⟨e0,_⟩ hB=>ld_pt e0 (keepC c0 hB) (keepC c1 hB) (keepC c2 hB))
    |8,_=>exact obv [(20,.agg #[int u64 zx,int u64 zy,.bool zc])] rfl rfl (fun A w ⟨e0,_⟩ hB=>cl1 cf_spec_PutPoint e0 (P3 w))
    |9,_=>exact obv [(21,.string p3)] rfl rfl (fun A w ⟨e0,_⟩ hB=>cl1 cf_spec_l5Sized e0 (Z3 w))
    |10,_=>exact obv [(19,.string (s1++s2)),(22,.string s3)] rfl rfl (fun A w ⟨e0,e1,_⟩ hB=>doS_cat e0 e1 q2)
    |11,_=>exact obv [(10,.pointer (some ⟨w.heap.size+1+1+1,0,none⟩))] rfl rfl (fun A w ⟨e0,_⟩ hB=>ld_pt e0 (keepC d0 hB) (keepC d1 hB) (keepC d2 hB))
    |12,_=>exact obv [(24,.agg #[int u64 xx,int u64 xy,.bool xc])] rfl rfl (fun A w ⟨e0,_⟩ hB=>cl1 cf_spec_PutPoint e0 (P4 w))
    |13,_=>exact obv [(25,.string p4)] rfl rfl (fun A w ⟨e0,_⟩ hB=>cl1 cf_spec_l5Sized e0 (Z4 w))
    |14,_=>exact obv [(23,.string (s1++s2++s3)),(26,.string s4)] rfl rfl (fun A w ⟨e0,e1,_⟩ hB=>doS_cat e0 e1 q3)
    |15,_=>exact obv [(11,.pointer (some ⟨w.heap.size+1+1+1+1,0,none⟩))] rfl rfl (fun A w ⟨e0,_⟩ hB=>ld_pt e0 (keepC e0' hB) (keepC e1' hB) (keepC e2' hB))
    |16,_=>exact obv [(28,.agg #[int u64 yx,int u64 yy,.bool yc])] rfl rfl (fun A w ⟨e0,_⟩ hB=>cl1 cf_spec_PutPoint e0 (P5 w))
    |17,_=>exact obv [(29,.string p5)] rfl rfl (fun A w ⟨e0,_⟩ hB=>cl1 cf_spec_l5Sized e0 (Z5 w))
    |18,_=>exact obv [(27,.string (s1++s2++s3++s4)),(30,.string s5)] rfl rfl (fun A w ⟨e0,e1,_⟩ hB=>doS_cat e0 e1 q4)
    |19,_=>exact obv [(31,.string (s1++s2++s3++s4++s5))] rfl rfl (fun A w ⟨e0,_⟩ hB=>doS_cat e0 rfl q5)
    |20,_=>exact obv [(0,.int .i64 (k:Int))] rfl rfl (fun A w ⟨e0,_⟩ hB=>doV_move e0)
    |21,_=>exact obv [(32,.string (s1++s2++s3++s4++s5++challB)),(33,.int .i64 (k:Int))] rfl rfl (fun A w ⟨e0,e1,_⟩ hB=>cl2 cf_spec_l5Scalar e0 e1 (SC w))
    |22,_=>exact obv [(34,int u64 n)] rfl rfl (fun A w ⟨e0,_⟩ hB=>doV_assign e0)
    |ix+23,h=>exact absurd h (by simp)
  intro f W3 hb3 _ _;have hb4:=hb.drew.trans (hb3.mono hb.size);simp only [puts,List.foldl,Act.put,List.setIfInBounds_toArray,List.set_cons_zero,List.set_cons_succ];go_wp2;go_ret;exact⟨rfl,hb4⟩
theorem chlS_any (k:Nat){b m z x y:Pt}(hb:on b)(hm:on m)(hz:on z)(hx:on x)(hy:on y)(w:World)(hk:k<3):
    Cr 68 #[.int .i64 k,ptW b,ptW m,ptW z,ptW x,ptW y] w (int u64 (chal k b m z x y:Nat)):=by
  rw [ptW_eq,ptW_eq,ptW_eq,ptW_eq,ptW_eq];have hs:∀p,(sizB (ptB p)).size≤100:=fun p=>by rw [sizB_size,ptB_size];omega
  have hl:∀p w,Cr 62 #[.string (ptB p)] w (.string (sizB (ptB p))):=fun p w=>sizS_any (ptB p) w (by rw [ptB_size];omega)
  refine chlS_of k _ _ _ _ _ _ _ _ _ _ _ _ _ _ _ _ (ptB b) (ptB m) (ptB z) (ptB x) (ptB y) (sizB (ptB b)) (sizB (ptB m)) (sizB (ptB z)) (sizB (ptB x)) (sizB (ptB y)) w (hs b) (hs m) (hs z) (hs x) (hs y)
    (puS_pt hb) (puS_pt hm) (puS_pt hz) (puS_pt hx) (puS_pt hy) (hl b) (hl m) (hl z) (hl x) (hl y) (fun w=>scaS_any (chalT b m z x y) k w hk ?_)
  unfold chalT;simp only [ByteArray.size_append,sizB_size,ptB_size];rw [show challB.size=9 from rfl];omega
def P2 (W:World)(t:TypeId)(b:Nat)(x y:Int):Prop:=W.heap[b]? =some (.cells #[int u64 x,int u64 y] t)
section
variable {W W':World}{t:TypeId}{b:Nat}{x y:Int}
theorem P2.c0 (h:P2 W t b x y):W.cell? ⟨b,0,none⟩=some (int u64 x):=by unfold P2 at h;simp [World.cell?,h]
theorem P2.c1 (h:P2 W t b x y):W.cell? ⟨b,1,none⟩=some (int u64 y):=by unfold P2 at h;simp [World.cell?,h]
theorem P2.frz (h:P2 W t b x y)(i:Nat):W.frozen? ⟨b,i,none⟩=false:=by unfold P2 at h;simp [World.frozen?,h]
theorem P2.lt (h:P2 W t b x y):b<W.heap.size:=(Array.getElem?_eq_some_iff.1 h).1
theorem P2.keep (h:P2 W t b x y)(hb:Bl W W'):P2 W' t b x y:=(hb.block b h.lt).trans h
theorem P2.new (w:World)(t:TypeId)(x y:Int):P2 (w.alloc (.cells #[int u64 x,int u64 y] t)) t w.heap.size x y:=heap_alloc_new w _
theorem P2.alloc (h:P2 W t b x y)(o:Obj):P2 (W.alloc o) t b x y:=(Below.heap_alloc W o b h.lt).trans h
theorem P2.at {b':Nat}(h:P2 W t b x y)(e:b=b'):P2 W t b' x y:=e▸h
theorem P2.range (h:P2 W t b x y):W.rangeAt b 0 [int u64 x,int u64 y]:=fun j v hj=>by
  match j,hj with
  |0,hj=>cases hj;exact h.c0
  |1,hj=>cases hj;exact h.c1
theorem P2.set (h:P2 W t b x y)(x' y':Int):P2 ((W.setCell ⟨b,0,none⟩ (int u64 x')).setCell ⟨b,1,none⟩ (int u64 y')) t b x' y':=by
  unfold P2 at*;simp [World.setCell,Array.getElem?_modify,h]
theorem P2_below {N:Nat}{w:World}(h:Below N w W)(hb:N≤b)(u v:Value):Below N w ((W.setCell ⟨b,0,none⟩ u).setCell ⟨b,1,none⟩ v):=(h.setCell (p:=⟨b,0,none⟩) hb _).setCell (p:=⟨b,1,none⟩) hb _
theorem prb_res {fn:Func}{p u:Tmp}(h:fn.results=#[.cell p 28,.tmp u])(tmps:Array Value)(hp:tmps.getD p undef= .pointer (some ⟨b,0,none⟩))(hc:P2 W 28 b x y):
    (results fn tmps).run prog W= .ok (.tuple #[.agg #[int u64 x,int u64 y],tmps.getD u undef]) W:=by
  have hp':tmps[p]?.getD undef= .pointer (some ⟨b,0,none⟩):=by simpa using hp
  simp [results,h,hp',asAddr,run_loadVar_mid W b 0 28 [int u64 x,int u64 y] _ hc.range underlying28 rfl (by kernel_rfl)]
end
section
variable (ax ay bx by' k r:Int)(ac bc:Bool)(gc oc nc cc gd od nd cd:Nat)(w:World)
theorem prvS_no (mode:Int)(ob:Bool)(h:ob=false∨2305843010818082053≤k∨2305843010818082053≤r)
    (B:Cb w 65 #[.int .i64 mode,.agg #[int u64 ax,int u64 ay,.bool ac],.agg #[int u64 bx,int u64 by',.bool bc],.slice (some ⟨gc,oc,none⟩) nc cc,.slice (some ⟨gd,od,none⟩) nd cd] (.bool ob)):
    Cr 34 #[.int .i64 mode,int u64 k,.agg #[int u64 ax,int u64 ay,.bool ac],.agg #[int u64 bx,int u64 by',.bool bc],.slice (some ⟨gc,oc,none⟩) nc cc,.slice (some ⟨gd,od,none⟩) nd cd,int u64 r] w (.tuple #[.agg #[int u64 0,int u64 0],.bool false]):=by
  obtain⟨X,hX⟩:∃X,X=((w.alloc (Obj.cells #[int u64 ax,int u64 ay,.bool ac] 34)).alloc (Obj.cells #[int u64 bx,int u64 by',.bool bc] 34)).alloc (Obj.cells #[int u64 0,int u64 0] 28):=⟨_,rfl⟩;have r2:P2 X 28 (w.heap.size+1+1) 0 0:=by rw [hX];exact(P2.new _ _ 0 0).at (by simp)
  have hb:Bl w X:=by rw [hX];exact((((Below.refl _ w).alloc (Nat.le_refl _) _).alloc (by simp) _).alloc (by simp;omega) _)
  rw [hX] at r2 hb;clear hX;go_enter func34,ntmps34;go_wp2_with fail;refine(B _ hb).mono ?_;rintro e w1 ⟨rfl,b1⟩;replace r2:=r2.keep b1;replace hb:=hb.tr b1;clear B b1;have d0:=r2.c0;have d1:=r2.c1;have e0:=r2.frz
  cases ob with
  | false=>
    clear h;go_wp2;exact bodyPost_ret (v:= .tuple #[.agg #[int u64 0,int u64 0],.bool false]) (prb_res (fn:=Tryz.f34) (p:=14) (u:=15) results34 _ rfl (r2.set 0 0)) rfl ⟨rfl,P2_below hb (by omega) _ _⟩
  | true=>
    by_cases hk:2305843010818082053≤k
    · clear h;go_wp2;exact bodyPost_ret (v:= .tuple #[.agg #[int u64 0,int u64 0],.bool false]) (prb_res (fn:=Tryz.f34) (p:=14) (u:=15) results34 _ rfl (r2.set 0 0)) rfl ⟨rfl,P2_below hb (by omega) _ _⟩
    · have hr:2305843010818082053≤r:=by
        rcases h with h|h|h
        · cases h
        · exact absurd h hk
        · exact h
      clear h;go_wp2;exact bodyPost_ret (v:= .tuple #[.agg #[int u64 0,int u64 0],.bool false]) (prb_res (fn:=Tryz.f34) (p:=14) (u:=15) results34 _ rfl (r2.set 0 0)) rfl ⟨rfl,P2_below hb (by omega) _ _⟩
theorem prvS_of (md:Nat)(ws:List Int)(mx my zx zy xx xy yx yy c ck d s:Int)(mc zc xc yc:Bool)(hk:k<2305843010818082053)(hr:r<2305843010818082053)
    (hd:IntKind.u64.wrap (2305843010818082053-ck)=2305843010818082053-ck)(hd2:(2305843010818082053-ck).tmod 2305843010818082053=d)
    (B:Cb w 65 #[.int .i64 md,.agg #[int u64 ax,int u64 ay,.bool ac],.agg #[int u64 bx,int u64 by',.bool bc],.slice (some ⟨gc,oc,none⟩) nc cc,.slice (some ⟨gd,od,none⟩) nc cd] (.bool true))
    (Wg:∀w',Bl w w'→Calls prog 67 #[.int .i64 md,.agg #[int u64 bx,int u64 by',.bool bc],.slice (some ⟨gc,oc,none⟩) nc cc,.slice (some ⟨gd,od,none⟩) nc cd] w' fun e w''=>∃g cap,e= .returned (.slice (some ⟨g,0,none⟩) nc cap)∧Row w'' w'.heap.size g nc cap (ws.map (Value.int .u64))∧Bl w' w'')
    (M1:∀g cap w',Bl w w'→g<w'.heap.size→(∀i,i<nc→w'.cell? ⟨g,i,none⟩=some (int u64 (lk ws i)))→Cr 66 #[.slice (some ⟨g,0,none⟩) nc cap,.slice (some ⟨gc,oc,none⟩) nc cc] w' (.agg #[int u64 mx,int u64 my,.bool mc]))
    (T1:Cc 15 #[int u64 k,.agg #[int u64 mx,int u64 my,.bool mc]] (.agg #[int u64 zx,int u64 zy,.bool zc]))
    (T2:Cc 15 #[int u64 r,.agg #[int u64 ax,int u64 ay,.bool ac]] (.agg #[int u64 xx,int u64 xy,.bool xc]))
    (T3:Cc 15 #[int u64 r,.agg #[int u64 mx,int u64 my,.bool mc]] (.agg #[int u64 yx,int u64 yy,.bool yc]))
    (C:Cc 68 #[.int .i64 md,.agg #[int u64 bx,int u64 by',.bool bc],.agg #[int u64 mx,int u64 my,.bool mc],.agg #[int u64 zx,int u64 zy,.bool zc],.agg #[int u64 xx,int u64 xy,.bool xc],.agg #[int u64 yx,int u64 yy,.bool yc]] (int u64 c))
    (MU:∀w,Calls prog 69 #[int u64 c,int u64 k,int u64 2305843010818082053] w fun e w'=>e= .returned (int u64 ck)∧w=w')
    (AD:∀w,Calls prog 64 #[int u64 r,int u64 d,int u64 2305843010818082053] w fun e w'=>e= .returned (int u64 s)∧w=w'):
    Cr 34 #[.int .i64 md,int u64 k,.agg #[int u64 ax,int u64 ay,.bool ac],.agg #[int u64 bx,int u64 by',.bool bc],.slice (some ⟨gc,oc,none⟩) nc cc,.slice (some ⟨gd,od,none⟩) nc cd,int u64 r] w (.tuple #[.agg #[int u64 c,int u64 s],.bool true]):=by
  obtain⟨X,hX⟩:∃X,X=((w.alloc (Obj.cells #[int u64 ax,int u64 ay,.bool ac] 34)).alloc (Obj.cells #[int u64 bx,int u64 by',.bool bc] 34)).alloc (Obj.cells #[int u64 0,int u64 0] 28):=⟨_,rfl⟩;have ra:R3 X w.heap.size ax ay ac:=by rw [hX];exact((R3.new _ ax ay ac).alloc _).alloc _
  have rb:R3 X (w.heap.size+1) bx by' bc:=by rw [hX];exact((R3.new _ bx by' bc).at (by simp)).alloc _
  have rp:P2 X 28 (w.heap.size+1+1) 0 0:=by rw [hX];exact(P2.new _ _ 0 0).at (by simp)
  have hb:Bl w X:=by rw [hX];exact((((Below.refl _ w).alloc (Nat.le_refl _) _).alloc (by simp) _).alloc (by simp;omega) _)
  rw [hX] at ra rb rp hb;clear hX;go_enter func34,ntmps34;go_wp2_with fail;refine(B _ hb).mono ?_;rintro e w1 ⟨rfl,b1⟩;replace ra:=ra.keep' b1;replace rb:=rb.keep' b1;replace rp:=rp.keep b1;replace hb:=hb.tr b1;clear B b1;have a0:=rb.c0;have a1:=rb.c1;have a2:=rb.c2;go_wp2_with fail;refine(Wg _ hb).mono ?_;rintro e w2 ⟨g,cap,rfl,hrow,b2⟩;replace ra:=ra.keep' b2;replace rb:=rb.keep' b2;replace rp:=rp.keep b2;replace hb:=hb.tr b2;clear Wg b2 a0 a1 a2;go_wp2_with fail;refine(M1 g cap _ hb hrow.hi (fun i hi=>hrow.cell i hi)).mono ?_;rintro e w3 ⟨rfl,b3⟩;replace ra:=(ra.keep' b3).alloc (Obj.cells #[int u64 mx,int u64 my,.bool mc] 34);replace rb:=(rb.keep' b3).alloc (Obj.cells #[int u64 mx,int u64 my,.bool mc] 34);replace rp:=(rp.keep b3).alloc (Obj.cells #[int u64 mx,int u64 my,.bool mc] 34);replace hb:=hb.tr b3;replace hb:=hb.alloc hb.size (Obj.cells #[int u64 mx,int u64 my,.bool mc] 34);have rm:=R3.new w3 mx my mc;clear M1 b3 hrow;go_wp2;generalize w3.alloc (Obj.cells #[int u64 mx,int u64 my,.bool mc] 34)=W3 at*;generalize w3.heap.size=H3 at*;have a0:W3.drew.cell? ⟨w.heap.size,0,none⟩=_:=ra.c0;have a1:W3.drew.cell? ⟨w.heap.size,1,none⟩=_:=ra.c1;have a2:W3.drew.cell? ⟨w.heap.size,2,none⟩=_:=ra.c2;have b0:W3.drew.cell? ⟨w.heap.size+1,0,none⟩=_:=rb.c0;have b1:W3.drew.cell? ⟨w.heap.size+1,1,none⟩=_:=rb.c1;have b2:W3.drew.cell? ⟨w.heap.size+1,2,none⟩=_:=rb.c2;have c0:W3.drew.cell? ⟨H3,0,none⟩=_:=rm.c0;have c1:W3.drew.cell? ⟨H3,1,none⟩=_:=rm.c1;have c2:W3.drew.cell? ⟨H3,2,none⟩=_:=rm.c2
  refine pool_list [.val (.int .i64 (md:Int)),
      .val (.agg #[int u64 bx,int u64 by',.bool bc]),
      .val (.agg #[int u64 mx,int u64 my,.bool mc]),
      .val (int u64 k),
      .val (.agg #[int u64 mx,int u64 my,.bool mc]),
      .val (.agg #[int u64 zx,int u64 zy,.bool zc]),
      .val (int u64 r),
      .val (.agg #[int u64 ax,int u64 ay,.bool ac]),
      .val (.agg #[int u64 xx,int u64 xy,.bool xc]),
      .val (int u64 r),
      .val (.agg #[int u64 mx,int u64 my,.bool mc]),
      .val (.agg #[int u64 yx,int u64 yy,.bool yc]),
      .val (int u64 c),
      .val (int u64 c)] [[0],[10],[16],[1],[16],[45,46],[6],[9],[48,49],[6],[16],[51,52],[42,43,44,47,50,53],[54]] (fun f=> [(some 42,.int .i64 (md:Int)),(some 43,.agg #[int u64 bx,int u64 by',.bool bc]),(some 44,.agg #[int u64 mx,int u64 my,.bool mc]),(some 45,int u64 k),(some 46,.agg #[int u64 mx,int u64 my,.bool mc]),(some 47,.agg #[int u64 zx,int u64 zy,.bool zc]),(some 48,int u64 r),(some 49,.agg #[int u64 ax,int u64 ay,.bool ac]),(some 50,.agg #[int u64 xx,int u64 xy,.bool xc]),(some 51,int u64 r),(some 52,.agg #[int u64 mx,int u64 my,.bool mc]),(some 53,.agg #[int u64 yx,int u64 yy,.bool yc]),(some 54,int u64 c),(some 17,int u64 c)]) (by kernel_rfl) (by kernel_rfl) (by kernel_rfl) (by kernel_rfl) (fun _=>by kernel_rfl) ?_ ?_
  · intro ix hix
    match ix,hix with
    |0,_=>exact obv [(0,.int .i64 (md:Int))] rfl rfl (fun A w ⟨e0,_⟩ hB=>doV_move e0)
    |1,_=>exact obv [(10,.pointer (some ⟨w.heap.size+1,0,none⟩))] rfl rfl (fun A w ⟨e0,_⟩ hB=>ld_pt e0 (keepC b0 hB) (keepC b1 hB) (keepC b2 hB))
    |2,_=>exact obv [(16,.pointer (some ⟨H3,0,none⟩))] rfl rfl (fun A w ⟨e0,_⟩ hB=>ld_pt e0 (keepC c0 hB) (keepC c1 hB) (keepC c2 hB))
    |3,_=>exact obv [(1,int u64 k)] rfl rfl (fun A w ⟨e0,_⟩ hB=>doV_move e0)
    |4,_=>exact obv [(16,.pointer (some ⟨H3,0,none⟩))] rfl rfl (fun A w ⟨e0,_⟩ hB=>ld_pt e0 (keepC c0 hB) (keepC c1 hB) (keepC c2 hB))
    |5,_=>exact obv [(45,int u64 k),(46,.agg #[int u64 mx,int u64 my,.bool mc])] rfl rfl (fun A w ⟨e0,e1,_⟩ hB=>cl2 cf_spec_Times e0 e1 (T1 w))
    |6,_=>exact obv [(6,int u64 r)] rfl rfl (fun A w ⟨e0,_⟩ hB=>doV_move e0)
    |7,_=>exact obv [(9,.pointer (some ⟨w.heap.size,0,none⟩))] rfl rfl (fun A w ⟨e0,_⟩ hB=>ld_pt e0 (keepC a0 hB) (keepC a1 hB) (keepC a2 hB))
    |8,_=>exact obv [(48,int u64 r),(49,.agg #[int u64 ax,int u64 ay,.bool ac])] rfl rfl (fun A w ⟨e0,e1,_⟩ hB=>cl2 cf_spec_Times e0 e1 (T2 w))
    |9,_=>exact obv [(6,int u64 r)] rfl rfl (fun A w ⟨e0,_⟩ hB=>doV_move e0)
    |10,_=>exact obv [(16,.pointer (some ⟨H3,0,none⟩))] rfl rfl (fun A w ⟨e0,_⟩ hB=>ld_pt e0 (keepC c0 hB) (keepC c1 hB) (keepC c2 hB))
    |11,_=>exact obv [(51,int u64 r),(52,.agg #[int u64 mx,int u64 my,.bool mc])] rfl rfl (fun A w ⟨e0,e1,_⟩ hB=>cl2 cf_spec_Times e0 e1 (T3 w))
    |12,_=>exact obv [(42,.int .i64 (md:Int)),(43,.agg #[int u64 bx,int u64 by',.bool bc]),(44,.agg #[int u64 mx,int u64 my,.bool mc]),(47,.agg #[int u64 zx,int u64 zy,.bool zc]),(50,.agg #[int u64 xx,int u64 xy,.bool xc]),(53,.agg #[int u64 yx,int u64 yy,.bool yc])] rfl rfl (fun A w ⟨e0,e1,e2,e3,e4,e5,_⟩ hB=>cl6 cf_spec_l5Challenge e0 e1 e2 e3 e4 e5 (C w))
    |13,_=>exact obv [(54,int u64 c)] rfl rfl (fun A w ⟨e0,_⟩ hB=>doV_assign e0)
    |ix+14,h=>exact absurd h (by simp)
  intro f W4 hb4 _ _;have hb4':Bl W3 W4:=(Below.refl _ W3).drew.trans hb4;replace rp:=rp.keep hb4';replace hb:=hb.tr hb4';clear a0 a1 a2 b0 b1 b2 c0 c1 c2 T1 T2 T3 C ra rb rm hb4 hb4';simp only [puts,List.foldl,Act.put,List.setIfInBounds_toArray,List.set_cons_zero,List.set_cons_succ];go_wp2_with fail;refine(MU _).mono ?_;rintro e w5 ⟨rfl,rfl⟩;go_wp2_with fail;refine(AD _).mono ?_;rintro e w6 ⟨rfl,rfl⟩;have d0:=rp.c0;have d1:=rp.c1;have e0:=rp.frz;clear MU AD hd hd2;go_wp2;exact bodyPost_ret (v:= .tuple #[.agg #[int u64 c,int u64 s],.bool true]) (prb_res (fn:=Tryz.f34) (p:=14) (u:=15) results34 _ rfl (rp.set c s)) rfl ⟨rfl,P2_below hb (by omega) _ _⟩
end
noncomputable def prvC (md k r:Nat) (a b:Tri) (cs ds:List Tri):Nat:=chal md (asT b) (comM md b cs ds cs) (nt k (comM md b cs ds cs)) (nt r (asT a)) (nt r (comM md b cs ds cs))
noncomputable def prvN (md k r:Nat) (a b:Tri) (cs ds:List Tri):Nat:=(r+(2305843010818082053-prvC md k r a b cs ds*k%2305843010818082053)%2305843010818082053)%2305843010818082053
theorem prvC_lt (md k r:Nat)(a b:Tri)(cs ds:List Tri):prvC md k r a b cs ds<2305843010818082053:=scaN_lt _ _
theorem wgts_in (k:Nat)(b:Pt)(cs ds:List Pt)(n i:Nat)(hi:i<n):0≤lk (wgts k b cs ds n) i∧lk (wgts k b cs ds n) i<18446744073709551616:=by
  rw [wgts_at k b cs ds n i hi];have:=scaN_lt (wgtT k b i (cs.getD i none) (ds.getD i none)) k;unfold wgt;omega
theorem prvS_yes (md k r:Nat)(a b:Tri)(cs ds:List Tri)(gc oc cc gd od cd:Nat)(w:World)(hc:Pts w gc oc cs)(hd:Pts w gd od ds)(h:batB md a b cs ds=true)(hk:k<2305843010818082053)(hr:r<2305843010818082053):
    Cr 34 #[.int .i64 md,int u64 k,triW a,triW b,.slice (some ⟨gc,oc,none⟩) cs.length cc,.slice (some ⟨gd,od,none⟩) ds.length cd,int u64 r] w (.tuple #[.agg #[int u64 (prvC md k r a b cs ds:Nat),int u64 (prvN md k r a b cs ds:Nat)],.bool true]):=by
  have h':=h;rw [batB_iff] at h';obtain⟨h1,h2,h3,h4,h5,-,-⟩:=h'
  have hB:∀w',Bl w w'→Cr 65 #[.int .i64 md,triW a,triW b,.slice (some ⟨gc,oc,none⟩) cs.length cc,.slice (some ⟨gd,od,none⟩) cs.length cd] w' (.bool true):=fun w' hb=>by
    have:=batS_any md a b cs ds gc oc cc gd od cd w' (hc.below hb hc.lt) (hd.below hb hd.lt);rw [h,←h5] at this;exact this
  have hW:∀w',Bl w w'→Calls prog 67 #[.int .i64 md,triW b,.slice (some ⟨gc,oc,none⟩) cs.length cc,.slice (some ⟨gd,od,none⟩) cs.length cd] w' fun e w''=>∃g cap,e= .returned (.slice (some ⟨g,0,none⟩) cs.length cap)∧Row w'' w'.heap.size g cs.length cap ((wgts md (asT b) (cs.map asT) (ds.map asT) cs.length).map (Value.int .u64))∧Bl w' w'':=fun w' hb=>
    wgtS_any md b cs ds cs.length gc oc cc gd od cd w' (by omega) rfl h5.symm h4.2 (hc.below hb hc.lt) (hd.below hb hd.lt)
  rw [triW_of h2,triW_of h3,ptW_eq,ptW_eq] at hB;rw [triW_of h3,ptW_eq] at hW;have hon:=comM_on md b cs ds cs;have hcl:=prvC_lt md k r a b cs ds;have hC:=fun w=>chlS_any md (asT_on b) hon (nt_on hon k) (nt_on (asT_on a) r) (nt_on hon r) w (by omega)
  rw [ptW_eq,ptW_eq,ptW_eq,ptW_eq,ptW_eq] at hC;rw [triW_of h2,triW_of h3,ptW_eq,ptW_eq,←h5];have hx:prvC md k r a b cs ds*k%2305843010818082053<2305843010818082053:=Nat.mod_lt _ (by decide)
  refine prvS_of _ _ _ _ k r _ _ gc oc cs.length cc gd od cd w md (wgts md (asT b) (cs.map asT) (ds.map asT) cs.length) _ _ _ _ _ _ _ _ _ ((prvC md k r a b cs ds*k%2305843010818082053:Nat):Int) (((2305843010818082053-prvC md k r a b cs ds*k%2305843010818082053)%2305843010818082053:Nat):Int) _ _ _ _ _ (by omega) (by omega) ?_ ?_ hB hW
    (fun g cap w' hb hg hcl=>mixS_any _ g _ cap cs cs.length gc oc cc w' h4.2 (Nat.le_refl _) (fun i hi=>wgts_in _ _ _ _ _ i hi) hg hcl rfl (hc.below hb hc.lt))
    (tiS_pt hon k (by omega)) (tiS_pt (asT_on a) r (by omega)) (tiS_pt hon r (by omega)) hC ?_ ?_
  · generalize prvC md k r a b cs ds*k%2305843010818082053=z at*;rw [IntKind.wrap_u64];omega
  · generalize prvC md k r a b cs ds*k%2305843010818082053=z at*;rw [Int.tmod_eq_emod_of_nonneg (by omega)];omega
  · intro w;exact mulS_any (prvC md k r a b cs ds) k 2305843010818082053 w (by omega) (by omega) (by decide) (by decide)
  · intro w;have hy:(2305843010818082053-prvC md k r a b cs ds*k%2305843010818082053)%2305843010818082053<2305843010818082053:=Nat.mod_lt _ (by decide);unfold prvN;generalize (2305843010818082053-prvC md k r a b cs ds*k%2305843010818082053)%2305843010818082053=z at*;exact l2add_any r z 2305843010818082053 w (by omega) (by omega) (by decide)
noncomputable def chkC (md c s:Nat) (a b:Tri) (cs ds:List Tri):Nat:=chal md (asT b) (comM md b cs ds cs) (comM md b cs ds ds) (ad (nt s (asT a)) (nt c (asT b))) (ad (nt s (comM md b cs ds cs)) (nt c (comM md b cs ds ds)))
noncomputable def chkB (mode:Int) (a b:Tri) (cs ds:List Tri) (c s:Nat):Bool:=batB mode a b cs ds&&decide (c<2305843010818082053)&&decide (s<2305843010818082053)&&decide (c=chkC mode.toNat c s a b cs ds)
theorem batB_b {mode:Int}{a b:Tri}{cs ds:List Tri}(h:batB mode a b cs ds=true):batB mode b b cs ds=true:=by
  rw [batB_iff] at h⊢;obtain⟨h1,-,h3,h4⟩:=h;exact⟨h1,h3,h3,h4⟩
end
end Go.Proofs.YtmjniccfjffclaaGreatDoor
