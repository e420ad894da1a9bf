import Derived.Test.YtmjniccfjffclaaGreatDoorMrg48
set_option linter.unusedVariables false
set_option maxRecDepth 100000
set_option maxHeartbeats 16000000
namespace Go.Proofs.YtmjniccfjffclaaGreatDoor
open Go.Proofs.Tryz Go.RowKit
open Go.Value (int)
open Go.IntKind (u64)
section
open M
theorem accI_any (md n g1 k1 g2 k2 c s:Nat)(a b:Pt)(cs ds:List Pt)(w:World)(hT:TabK w)(hmd:md<3)(h1:1≤n)(hn:n≤200)(hlc:cs.length=n)(hld:ds.length=n)(ha:on a)(hob:on b)(hoc:∀p∈cs,on p)(hod:∀p∈ds,on p)(hc:Cps w g1 cs)(hd:Cps w g2 ds)
    (hcl:c<2305843010818082053)(hsl:s<2305843010818082053)(m z:Pt)(hm:m=mixTo (wgts md b cs ds n) cs n)(hz:z=mixTo (wgts md b cs ds n) ds n)(h:Nat)(hh:h=chal md b m z (ad (nt s a) (nt c b)) (ad (nt s m) (nt c z))):
    Cr 40 #[.agg #[.string (ctxB md),int u64 (px b),int u64 (py b),.bool (pb b),.slice (some ⟨g1,0,none⟩) n k1,.slice (some ⟨g2,0,none⟩) n k2],.agg #[int u64 (px a),int u64 (py a),.bool (pb a)],.agg #[int u64 c],.agg #[int u64 s]] w (.bool ((h:Int)==(c:Int))):=by
  have hgw:7<w.heap.size:=World.block_lt_of_cell? w _ (hT 0 (by omega));have hom:on m:=by rw [hm];exact mixTo_on hoc n
  have hoz:on z:=by rw [hz];exact mixTo_on hod n
  have CM:=fun w' hb=>cmpI_any md n g1 k1 g2 k2 b cs ds w' (keepT hT hgw hb) hmd h1 hn hlc hld hoc hod (hc.below (B:=w.heap.size) hb hc.lt) (hd.below (B:=w.heap.size) hb hd.lt)
  rw [←hm,←hz,ptW_eq,ptW_eq] at CM;have T1:=fun w=>ctmV ha s (by omega) w
  have T2:=fun w=>ctmV hob c (by omega) w
  have T3':=fun w=>ctmV hom s (by omega) w
  have T4:=fun w=>ctmV hoz c (by omega) w
  have A1:=fun w=>cplV (nt_on ha s) (nt_on hob c) w
  have A2:=fun w=>cplV (nt_on hom s) (nt_on hoz c) w
  rw [ptW_eq,ptW_eq] at T1 T2 T3' T4;rw [ptW_eq,ptW_eq,ptW_eq] at A1 A2;have CH:=fun w hT=>chlI_of md b m z (ad (nt s a) (nt c b)) (ad (nt s m) (nt c z)) (some ⟨g1,0,none⟩) n k1 (some ⟨g2,0,none⟩) n k2 w hT hmd
  rw [←hh] at CH;generalize ad (nt s a) (nt c b)=x at*;generalize ad (nt s m) (nt c z)=y at*;generalize nt s a=sa at*;generalize nt c b=cb at*;generalize nt s m=sm at*;generalize nt c z=cz at*;clear hm hz hh hoc hod hom hoz ha hob;obtain⟨X,hX⟩:∃X,X=(((w.alloc (Obj.cells #[.string (ctxB md),int u64 (px b),int u64 (py b),.bool (pb b),.slice (some ⟨g1,0,none⟩) n k1,.slice (some ⟨g2,0,none⟩) n k2] 78)).alloc (Obj.cells #[int u64 (px a),int u64 (py a),.bool (pb a)] 75)).alloc (Obj.cells #[int u64 (c:Int)] 86)).alloc (Obj.cells #[int u64 (s:Int)] 86):=⟨_,rfl⟩;have r0:B6 X w.heap.size (ctxB md) (px b) (py b) (pb b) (some ⟨g1,0,none⟩) n k1 (some ⟨g2,0,none⟩) n k2:=by rw [hX];exact(((B6.new _ _ _ _ _ _ _ _ _ _ _).alloc _).alloc _).alloc _
  have ra:K3 X 75 (w.heap.size+1) (px a) (py a) (pb a):=by rw [hX];exact(((K3.new _ _ _ _ _).at (by simp)).alloc _).alloc _
  have rc:RN X (w.heap.size+1+1) (c:Int):=by rw [hX];exact((RN.new _ _).at' (by simp)).alloc' _
  have rs:RN X (w.heap.size+1+1+1) (s:Int):=by rw [hX];exact(RN.new _ _).at' (by simp)
  have hb:Bl w X:=by
    rw [hX];exact((((Below.refl _ w).alloc (Nat.le_refl _) _).alloc (by simp) _).alloc (by simp;omega) _).alloc (by simp;omega) _
  rw [hX] at r0 ra rc rs hb;clear hX;go_enter func40,ntmps40;go_wp2_with fail;refine(CM _ hb).mono ?_;rintro e w1 ⟨rfl,b1⟩;obtain⟨W1,hW1⟩:∃W1,W1=(w1.alloc (Obj.cells #[int u64 (px m),int u64 (py m),.bool (pb m)] 75)).alloc (Obj.cells #[int u64 (px z),int u64 (py z),.bool (pb z)] 75):=⟨_,rfl⟩;have hB1:Bl w1 W1:=by rw [hW1];exact((Below.refl _ w1).alloc (Nat.le_refl _) _).alloc (by simp) _
  replace r0:=(r0.keep b1).keep hB1;replace ra:=(ra.keep b1).keep hB1;replace rc:=(rc.keep b1).keep hB1;replace rs:=(rs.keep b1).keep hB1;replace hb:=hb.tr b1;replace hb:=hb.tr hB1;have rm:K3 W1 75 w1.heap.size (px m) (py m) (pb m):=by rw [hW1];exact(K3.new _ _ _ _ _).alloc _
  have rz:K3 W1 75 (w1.heap.size+1) (px z) (py z) (pb z):=by rw [hW1];exact(K3.new _ _ _ _ _).at (by simp)
  clear CM b1 hB1;go_wp2;rw [←hW1];clear hW1;generalize w1.heap.size=H1 at*;have s1:W1.drew.cell? ⟨w.heap.size,1,none⟩=_:=r0.c1;have s2:W1.drew.cell? ⟨w.heap.size,2,none⟩=_:=r0.c2;have s3:W1.drew.cell? ⟨w.heap.size,3,none⟩=_:=r0.c3;have a0:W1.drew.cell? ⟨w.heap.size+1,0,none⟩=_:=ra.c0;have a1:W1.drew.cell? ⟨w.heap.size+1,1,none⟩=_:=ra.c1;have a2:W1.drew.cell? ⟨w.heap.size+1,2,none⟩=_:=ra.c2;have cc:W1.drew.cell? ⟨w.heap.size+1+1,0,none⟩=some (int u64 (c:Int)):=rc.cell;have ss:W1.drew.cell? ⟨w.heap.size+1+1+1,0,none⟩=some (int u64 (s:Int)):=rs.cell
  refine pool_list [.val (.agg #[int u64 (px a),int u64 (py a),.bool (pb a)]),
      .val (.pointer (some ⟨w.heap.size+1+1+1,0,none⟩)),
      .val (int u64 (s:Int)),
      .val (.agg #[int u64 (px sa),int u64 (py sa),.bool (pb sa)]),
      .val (.pointer (some ⟨w.heap.size,1,none⟩)),
      .val (.agg #[int u64 (px b),int u64 (py b),.bool (pb b)]),
      .val (.pointer (some ⟨w.heap.size+1+1,0,none⟩)),
      .val (int u64 (c:Int)),
      .val (.agg #[int u64 (px cb),int u64 (py cb),.bool (pb cb)]),
      .val (.agg #[int u64 (px x),int u64 (py x),.bool (pb x)]),
      .new (.cells #[int u64 0,int u64 0,.bool false] 75) (.cells #[int u64 (px x),int u64 (py x),.bool (pb x)] 75) 11,
      .put 10] [[5],[7],[19],[18,20],[4],[22],[6],[24],[23,25],[21,26],[],[11,27]] (fun f=> [(some 18,.agg #[int u64 (px a),int u64 (py a),.bool (pb a)]),(some 19,.pointer (some ⟨w.heap.size+1+1+1,0,none⟩)),(some 20,int u64 (s:Int)),(some 21,.agg #[int u64 (px sa),int u64 (py sa),.bool (pb sa)]),(some 22,.pointer (some ⟨w.heap.size,1,none⟩)),(some 23,.agg #[int u64 (px b),int u64 (py b),.bool (pb b)]),(some 24,.pointer (some ⟨w.heap.size+1+1,0,none⟩)),(some 25,int u64 (c:Int)),(some 26,.agg #[int u64 (px cb),int u64 (py cb),.bool (pb cb)]),(some 27,.agg #[int u64 (px x),int u64 (py x),.bool (pb x)]),(some 11,.pointer (some ⟨f 10,0,none⟩)),(none,undef)]) (by kernel_rfl) (by kernel_rfl) (by kernel_rfl) (by kernel_rfl) (fun _=>by kernel_rfl) ?_ ?_
  · intro ix hix
    match ix,hix with
    |0,_=>exact obv [(5,.pointer (some ⟨w.heap.size+1,0,none⟩))] rfl rfl (fun A w ⟨e0,_⟩ hB=>ld_cp e0 (keepC a0 hB) (keepC a1 hB) (keepC a2 hB))
    |1,_=>exact obv [(7,.pointer (some ⟨w.heap.size+1+1+1,0,none⟩))] rfl rfl (fun A w ⟨e0,_⟩ hB=>fa_nN1 e0)
    |2,_=>exact obv [(19,.pointer (some ⟨w.heap.size+1+1+1,0,none⟩))] rfl rfl (fun A w ⟨e0,_⟩ hB=>ld_u64 e0 (keepC ss hB))
    |3,_=>exact obv [(18,.agg #[int u64 (px a),int u64 (py a),.bool (pb a)]),(20,int u64 (s:Int))] rfl rfl (fun A w ⟨e0,e1,_⟩ hB=>cl2 cf_impl_curvePoint_times e0 e1 (T1 w))
    |4,_=>exact obv [(4,.pointer (some ⟨w.heap.size,0,none⟩))] rfl rfl (fun A w ⟨e0,_⟩ hB=>fa_bat1 e0)
    |5,_=>exact obv [(22,.pointer (some ⟨w.heap.size,1,none⟩))] rfl rfl (fun A w ⟨e0,_⟩ hB=>ld_cp e0 (keepC s1 hB) (keepC s2 hB) (keepC s3 hB))
    |6,_=>exact obv [(6,.pointer (some ⟨w.heap.size+1+1,0,none⟩))] rfl rfl (fun A w ⟨e0,_⟩ hB=>fa_nN1 e0)
    |7,_=>exact obv [(24,.pointer (some ⟨w.heap.size+1+1,0,none⟩))] rfl rfl (fun A w ⟨e0,_⟩ hB=>ld_u64 e0 (keepC cc hB))
    |8,_=>exact obv [(23,.agg #[int u64 (px b),int u64 (py b),.bool (pb b)]),(25,int u64 (c:Int))] rfl rfl (fun A w ⟨e0,e1,_⟩ hB=>cl2 cf_impl_curvePoint_times e0 e1 (T2 w))
    |9,_=>exact obv [(21,.agg #[int u64 (px sa),int u64 (py sa),.bool (pb sa)]),(26,.agg #[int u64 (px cb),int u64 (py cb),.bool (pb cb)])] rfl rfl (fun A w ⟨e0,e1,_⟩ hB=>cl2 cf_impl_curvePoint_plus e0 e1 (A1 w))
    |10,_=>exact ob_new rfl rfl (fun A w=>al_cp)
    |11,_=>exact ob_put 11 (fun f=> [(11,.pointer (some ⟨f 10,0,none⟩)),(27,.agg #[int u64 (px x),int u64 (py x),.bool (pb x)])]) rfl rfl rfl (by decide) (by kernel_rfl) rfl (fun _=>by kernel_rfl) (fun f A w ⟨e0,e1,_⟩ hr=>pu_cp e0 e1 hr)
    |ix+12,h=>exact absurd h (by simp)
  intro f W2 hb2 hnew _;have hb2':Bl W1 W2:=(Below.refl _ W1).drew.trans hb2;have rx:K3 W2 75 (f 10) (px x) (py x) (pb x):=(hnew 10 _ _ _ rfl (by decide)).2;generalize f 10=BX at*;replace r0:=r0.keep hb2';replace rm:=rm.keep hb2';replace rz:=rz.keep hb2';replace rc:=rc.keep hb2';replace rs:=rs.keep hb2';replace hb:=hb.tr hb2';clear s1 s2 s3 a0 a1 a2 cc ss hb2 hb2' hnew T1 T2 A1 ra;simp only [puts,List.foldl,Act.put,List.setIfInBounds_toArray,List.set_cons_zero,List.set_cons_succ];go_wp2;have m0:W2.drew.cell? ⟨H1,0,none⟩=_:=rm.c0;have m1:W2.drew.cell? ⟨H1,1,none⟩=_:=rm.c1;have m2:W2.drew.cell? ⟨H1,2,none⟩=_:=rm.c2;have z0:W2.drew.cell? ⟨H1+1,0,none⟩=_:=rz.c0;have z1:W2.drew.cell? ⟨H1+1,1,none⟩=_:=rz.c1;have z2:W2.drew.cell? ⟨H1+1,2,none⟩=_:=rz.c2;have cc:W2.drew.cell? ⟨w.heap.size+1+1,0,none⟩=some (int u64 (c:Int)):=rc.cell;have ss:W2.drew.cell? ⟨w.heap.size+1+1+1,0,none⟩=some (int u64 (s:Int)):=rs.cell
  refine pool_list [.val (.agg #[int u64 (px m),int u64 (py m),.bool (pb m)]),
      .val (.pointer (some ⟨w.heap.size+1+1+1,0,none⟩)),
      .val (int u64 (s:Int)),
      .val (.agg #[int u64 (px sm),int u64 (py sm),.bool (pb sm)]),
      .val (.agg #[int u64 (px z),int u64 (py z),.bool (pb z)]),
      .val (.pointer (some ⟨w.heap.size+1+1,0,none⟩)),
      .val (int u64 (c:Int)),
      .val (.agg #[int u64 (px cz),int u64 (py cz),.bool (pb cz)]),
      .val (.agg #[int u64 (px y),int u64 (py y),.bool (pb y)]),
      .new (.cells #[int u64 0,int u64 0,.bool false] 75) (.cells #[int u64 (px y),int u64 (py y),.bool (pb y)] 75) 10,
      .put 9] [[9],[7],[29],[28,30],[10],[6],[33],[32,34],[31,35],[],[12,36]] (fun f=> [(some 28,.agg #[int u64 (px m),int u64 (py m),.bool (pb m)]),(some 29,.pointer (some ⟨w.heap.size+1+1+1,0,none⟩)),(some 30,int u64 (s:Int)),(some 31,.agg #[int u64 (px sm),int u64 (py sm),.bool (pb sm)]),(some 32,.agg #[int u64 (px z),int u64 (py z),.bool (pb z)]),(some 33,.pointer (some ⟨w.heap.size+1+1,0,none⟩)),(some 34,int u64 (c:Int)),(some 35,.agg #[int u64 (px cz),int u64 (py cz),.bool (pb cz)]),(some 36,.agg #[int u64 (px y),int u64 (py y),.bool (pb y)]),(some 12,.pointer (some ⟨f 9,0,none⟩)),(none,undef)]) (by kernel_rfl) (by kernel_rfl) (by kernel_rfl) (by kernel_rfl) (fun _=>by kernel_rfl) ?_ ?_
  · intro ix hix
    match ix,hix with
    |0,_=>exact obv [(9,.pointer (some ⟨H1,0,none⟩))] rfl rfl (fun A w ⟨e0,_⟩ hB=>ld_cp e0 (keepC m0 hB) (keepC m1 hB) (keepC m2 hB))
    |1,_=>exact obv [(7,.pointer (some ⟨w.heap.size+1+1+1,0,none⟩))] rfl rfl (fun A w ⟨e0,_⟩ hB=>fa_nN1 e0)
    |2,_=>exact obv [(29,.pointer (some ⟨w.heap.size+1+1+1,0,none⟩))] rfl rfl (fun A w ⟨e0,_⟩ hB=>ld_u64 e0 (keepC ss hB))
    |3,_=>exact obv [(28,.agg #[int u64 (px m),int u64 (py m),.bool (pb m)]),(30,int u64 (s:Int))] rfl rfl (fun A w ⟨e0,e1,_⟩ hB=>cl2 cf_impl_curvePoint_times e0 e1 (T3' w))
    |4,_=>exact obv [(10,.pointer (some ⟨H1+1,0,none⟩))] rfl rfl (fun A w ⟨e0,_⟩ hB=>ld_cp e0 (keepC z0 hB) (keepC z1 hB) (keepC z2 hB))
    |5,_=>exact obv [(6,.pointer (some ⟨w.heap.size+1+1,0,none⟩))] rfl rfl (fun A w ⟨e0,_⟩ hB=>fa_nN1 e0)
    |6,_=>exact obv [(33,.pointer (some ⟨w.heap.size+1+1,0,none⟩))] rfl rfl (fun A w ⟨e0,_⟩ hB=>ld_u64 e0 (keepC cc hB))
    |7,_=>exact obv [(32,.agg #[int u64 (px z),int u64 (py z),.bool (pb z)]),(34,int u64 (c:Int))] rfl rfl (fun A w ⟨e0,e1,_⟩ hB=>cl2 cf_impl_curvePoint_times e0 e1 (T4 w))
    |8,_=>exact obv [(31,.agg #[int u64 (px sm),int u64 (py sm),.bool (pb sm)]),(35,.agg #[int u64 (px cz),int u64 (py cz),.bool (pb cz)])] rfl rfl (fun A w ⟨e0,e1,_⟩ hB=>cl2 cf_impl_curvePoint_plus e0 e1 (A2 w))
    |9,_=>exact ob_new rfl rfl (fun A w=>al_cp)
    |10,_=>exact ob_put 12 (fun f=> [(12,.pointer (some ⟨f 9,0,none⟩)),(36,.agg #[int u64 (px y),int u64 (py y),.bool (pb y)])]) rfl rfl rfl (by decide) (by kernel_rfl) rfl (fun _=>by kernel_rfl) (fun f A w ⟨e0,e1,_⟩ hr=>pu_cp e0 e1 hr)
    |ix+11,h=>exact absurd h (by simp)
  intro f W3 hb3 hnew _;have hb3':Bl W2 W3:=(Below.refl _ W2).drew.trans hb3;have ry:K3 W3 75 (f 9) (px y) (py y) (pb y):=(hnew 9 _ _ _ rfl (by decide)).2;generalize f 9=BY at*;replace r0:=r0.keep hb3';replace rm:=rm.keep hb3';replace rz:=rz.keep hb3';replace rx:=rx.keep hb3';replace rc:=rc.keep hb3';replace hb:=hb.tr hb3';clear m0 m1 m2 z0 z1 z2 cc ss hb3 hb3' hnew T3' T4 A2 rs;simp only [puts,List.foldl,Act.put,List.setIfInBounds_toArray,List.set_cons_zero,List.set_cons_succ];go_wp2;have hT3:TabK W3.drew:=fun i hi=>(hb.cell (p:=⟨7,i,none⟩) hgw).trans (hT i hi)
  have hg3:7<W3.drew.heap.size:=Nat.lt_of_lt_of_le hgw hb.size;have s0:W3.drew.cell? ⟨w.heap.size,0,none⟩=_:=r0.c0;have s1:W3.drew.cell? ⟨w.heap.size,1,none⟩=_:=r0.c1;have s2:W3.drew.cell? ⟨w.heap.size,2,none⟩=_:=r0.c2;have s3:W3.drew.cell? ⟨w.heap.size,3,none⟩=_:=r0.c3;have s4:W3.drew.cell? ⟨w.heap.size,4,none⟩=_:=r0.c4;have s5:W3.drew.cell? ⟨w.heap.size,5,none⟩=_:=r0.c5;have m0:W3.drew.cell? ⟨H1,0,none⟩=_:=rm.c0;have m1:W3.drew.cell? ⟨H1,1,none⟩=_:=rm.c1;have m2:W3.drew.cell? ⟨H1,2,none⟩=_:=rm.c2;have z0:W3.drew.cell? ⟨H1+1,0,none⟩=_:=rz.c0;have z1:W3.drew.cell? ⟨H1+1,1,none⟩=_:=rz.c1;have z2:W3.drew.cell? ⟨H1+1,2,none⟩=_:=rz.c2;have x0:W3.drew.cell? ⟨BX,0,none⟩=_:=rx.c0;have x1:W3.drew.cell? ⟨BX,1,none⟩=_:=rx.c1;have x2:W3.drew.cell? ⟨BX,2,none⟩=_:=rx.c2;have y0:W3.drew.cell? ⟨BY,0,none⟩=_:=ry.c0;have y1:W3.drew.cell? ⟨BY,1,none⟩=_:=ry.c1;have y2:W3.drew.cell? ⟨BY,2,none⟩=_:=ry.c2;have cc:W3.drew.cell? ⟨w.heap.size+1+1,0,none⟩=some (int u64 (c:Int)):=rc.cell
  refine pool_list [.val (.agg #[.string (ctxB md),int u64 (px b),int u64 (py b),.bool (pb b),.slice (some ⟨g1,0,none⟩) n k1,.slice (some ⟨g2,0,none⟩) n k2]),
      .val (.agg #[int u64 (px m),int u64 (py m),.bool (pb m)]),
      .val (.agg #[int u64 (px z),int u64 (py z),.bool (pb z)]),
      .val (.agg #[int u64 (px x),int u64 (py x),.bool (pb x)]),
      .val (.agg #[int u64 (px y),int u64 (py y),.bool (pb y)]),
      .val (.agg #[int u64 (h:Int)]),
      .val (.agg #[int u64 (c:Int)]),
      .val (.bool ((h:Int)==(c:Int))),
      .val (.bool ((h:Int)==(c:Int)))] [[4],[9],[10],[11],[12],[37,38,39,40,41],[6],[42,43],[44]] (fun f=> [(some 37,.agg #[.string (ctxB md),int u64 (px b),int u64 (py b),.bool (pb b),.slice (some ⟨g1,0,none⟩) n k1,.slice (some ⟨g2,0,none⟩) n k2]),(some 38,.agg #[int u64 (px m),int u64 (py m),.bool (pb m)]),(some 39,.agg #[int u64 (px z),int u64 (py z),.bool (pb z)]),(some 40,.agg #[int u64 (px x),int u64 (py x),.bool (pb x)]),(some 41,.agg #[int u64 (px y),int u64 (py y),.bool (pb y)]),(some 42,.agg #[int u64 (h:Int)]),(some 43,.agg #[int u64 (c:Int)]),(some 44,.bool ((h:Int)==(c:Int))),(some 8,.bool ((h:Int)==(c:Int)))]) (by kernel_rfl) (by kernel_rfl) (by kernel_rfl) (by kernel_rfl) (fun _=>by kernel_rfl) ?_ ?_
  · intro ix hix
    match ix,hix with
    |0,_=>exact obv [(4,.pointer (some ⟨w.heap.size,0,none⟩))] rfl rfl (fun A w ⟨e0,_⟩ hB=>ld_bat e0 (keepC s0 hB) (keepC s1 hB) (keepC s2 hB) (keepC s3 hB) (keepC s4 hB) (keepC s5 hB))
    |1,_=>exact obv [(9,.pointer (some ⟨H1,0,none⟩))] rfl rfl (fun A w ⟨e0,_⟩ hB=>ld_cp e0 (keepC m0 hB) (keepC m1 hB) (keepC m2 hB))
    |2,_=>exact obv [(10,.pointer (some ⟨H1+1,0,none⟩))] rfl rfl (fun A w ⟨e0,_⟩ hB=>ld_cp e0 (keepC z0 hB) (keepC z1 hB) (keepC z2 hB))
    |3,_=>exact obv [(11,.pointer (some ⟨BX,0,none⟩))] rfl rfl (fun A w ⟨e0,_⟩ hB=>ld_cp e0 (keepC x0 hB) (keepC x1 hB) (keepC x2 hB))
    |4,_=>exact obv [(12,.pointer (some ⟨BY,0,none⟩))] rfl rfl (fun A w ⟨e0,_⟩ hB=>ld_cp e0 (keepC y0 hB) (keepC y1 hB) (keepC y2 hB))
    |5,_=>exact obv [(37,.agg #[.string (ctxB md),int u64 (px b),int u64 (py b),.bool (pb b),.slice (some ⟨g1,0,none⟩) n k1,.slice (some ⟨g2,0,none⟩) n k2]),(38,.agg #[int u64 (px m),int u64 (py m),.bool (pb m)]),(39,.agg #[int u64 (px z),int u64 (py z),.bool (pb z)]),(40,.agg #[int u64 (px x),int u64 (py x),.bool (pb x)]),(41,.agg #[int u64 (px y),int u64 (py y),.bool (pb y)])] rfl rfl (fun A w ⟨e0,e1,e2,e3,e4,_⟩ hB=>cl5 cf_impl_batch_challenge e0 e1 e2 e3 e4 (CH w (keepT hT3 hg3 hB)))
    |6,_=>exact obv [(6,.pointer (some ⟨w.heap.size+1+1,0,none⟩))] rfl rfl (fun A w ⟨e0,_⟩ hB=>ld_nN e0 (keepC cc hB))
    |7,_=>exact obv [(42,.agg #[int u64 (h:Int)]),(43,.agg #[int u64 (c:Int)])] rfl rfl (fun A w ⟨e0,e1,_⟩ hB=>eq_nN e0 e1)
    |8,_=>exact obv [(44,.bool ((h:Int)==(c:Int)))] rfl rfl (fun A w ⟨e0,_⟩ hB=>doV_assign e0)
    |ix+9,h=>exact absurd h (by simp)
  intro f W4 hb4 _ _;have hb5:=hb.drew.trans (hb4.mono hb.size);simp only [puts,List.foldl,Act.put,List.setIfInBounds_toArray,List.set_cons_zero,List.set_cons_succ];go_wp2;go_ret;exact⟨rfl,hb5⟩
theorem enNC:Ent 139:=fun _ _=>by kernel_rfl
theorem enCF:Ent 141:=fun _ _=>by kernel_rfl
theorem enCB:Ent 147:=fun _ _=>by kernel_rfl
end
end Go.Proofs.YtmjniccfjffclaaGreatDoor
