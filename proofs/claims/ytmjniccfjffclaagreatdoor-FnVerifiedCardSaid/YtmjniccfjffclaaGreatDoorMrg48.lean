import Derived.Test.YtmjniccfjffclaaGreatDoorMrg47
import Derived.Test.YtmjniccfjffclaaGreatDoorMrg46
import Derived.Test.YtmjniccfjffclaaGreatDoorMrg43
set_option linter.unusedVariables false
set_option maxRecDepth 100000
set_option maxHeartbeats 16000000
namespace Go.Proofs.YtmjniccfjffclaaGreatDoor
open Go.Proofs.Tryz Go.RowKit
open Go.Value (int)
open Go.IntKind (u64)
section
open M
theorem RN.new (w:World)(z:Int):RN (w.alloc (.cells #[int u64 z] 86)) w.heap.size z:=heap_alloc_new w _
theorem RN.alloc' {W:World}{b:Nat}{z:Int}(h:RN W b z)(o:Obj):RN (W.alloc o) b z:=(Below.heap_alloc W o b (Array.getElem?_eq_some_iff.1 h).1).trans h
theorem RN.at' {W:World}{b b':Nat}{z:Int}(h:RN W b z)(e:b=b'):RN W b' z:=e▸h
theorem accI_any (md n g1 k1 g2 k2 c s:Nat)(a b:Pt)(cs ds:List Pt)(w:World)(hT:TabK w)(hmd:md<3)(h1:1≤n)(hn:n≤200)(hlc:cs.length=n)(hld:ds.length=n)(ha:on a)(hob:on b)(hoc:∀p∈cs,on p)(hod:∀p∈ds,on p)(hc:Cps w g1 cs)(hd:Cps w g2 ds)
    (hcl:c<2305843010818082053)(hsl:s<2305843010818082053)(m z:Pt)(hm:m=mixTo (wgts md b cs ds n) cs n)(hz:z=mixTo (wgts md b cs ds n) ds n)(h:Nat)(hh:h=chal md b m z (ad (nt s a) (nt c b)) (ad (nt s m) (nt c z))):
    Cr 40 #[.agg #[.string (ctxB md),int u64 (px b),int u64 (py b),.bool (pb b),.slice (some ⟨g1,0,none⟩) n k1,.slice (some ⟨g2,0,none⟩) n k2],.agg #[int u64 (px a),int u64 (py a),.bool (pb a)],.agg #[int u64 c],.agg #[int u64 s]] w (.bool ((h:Int)==(c:Int))):=by
  have hgw:7<w.heap.size:=World.block_lt_of_cell? w _ (hT 0 (by omega));have hom:on m:=by rw [hm];exact mixTo_on hoc n
  have hoz:on z:=by rw [hz];exact mixTo_on hod n
  have CM:=fun w' hb=>cmpI_any md n g1 k1 g2 k2 b cs ds w' (keepT hT hgw hb) hmd h1 hn hlc hld hoc hod (hc.below (B:=w.heap.size) hb hc.lt) (hd.below (B:=w.heap.size) hb hd.lt)
  rw [←hm,←hz,ptW_eq,ptW_eq] at CM;have T1:=fun w=>ctmV ha s (by omega) w
  have T2:=fun w=>ctmV hob c (by omega) w
  have T3':=fun w=>ctmV hom s (by omega) w
  have T4:=fun w=>ctmV hoz c (by omega) w
  have A1:=fun w=>cplV (nt_on ha s) (nt_on hob c) w
  have A2:=fun w=>cplV (nt_on hom s) (nt_on hoz c) w
  rw [ptW_eq,ptW_eq] at T1 T2 T3' T4;rw [ptW_eq,ptW_eq,ptW_eq] at A1 A2;have CH:=fun w hT=>chlI_of md b m z (ad (nt s a) (nt c b)) (ad (nt s m) (nt c z)) (some ⟨g1,0,none⟩) n k1 (some ⟨g2,0,none⟩) n k2 w hT hmd
  rw [←hh] at CH;generalize ad (nt s a) (nt c b)=x at*;generalize ad (nt s m) (nt c z)=y at*;generalize nt s a=sa at*;generalize nt c b=cb at*;generalize nt s m=sm at*;generalize nt c z=cz at*;clear hm hz hh hoc hod hom hoz ha hob;obtain⟨X,hX⟩:∃X,X=(((w.alloc (Obj.cells #[.string (ctxB md),int u64 (px b),int u64 (py b),.bool (pb b),.slice (some ⟨g1,0,none⟩) n k1,.slice (some ⟨g2,0,none⟩) n k2] 78)).alloc (Obj.cells #[int u64 (px a),int u64 (py a),.bool (pb a)] 75)).alloc (Obj.cells #[int u64 (c:Int)] 86)).alloc (Obj.cells #[int u64 (s:Int)] 86):=⟨_,rfl⟩;have r0:B6 X w.heap.size (ctxB md) (px b) (py b) (pb b) (some ⟨g1,0,none⟩) n k1 (some ⟨g2,0,none⟩) n k2:=by rw [hX];exact(((B6.new _ _ _ _ _ _ _ _ _ _ _).alloc _).alloc _).alloc _
  have ra:K3 X 75 (w.heap.size+1) (px a) (py a) (pb a):=by rw [hX];exact(((K3.new _ _ _ _ _).at (by simp)).alloc _).alloc _
  have rc:RN X (w.heap.size+1+1) (c:Int):=by rw [hX];exact((RN.new _ _).at' (by simp)).alloc' _
  have rs:RN X (w.heap.size+1+1+1) (s:Int):=by rw [hX];exact(RN.new _ _).at' (by simp)
  have hb:Bl w X:=by
    rw [hX];exact((((Below.refl _ w).alloc (Nat.le_refl _) _).alloc (by simp) _).alloc (by simp;omega) _).alloc (by simp;omega) _
  rw [hX] at r0 ra rc rs hb;clear hX;go_enter func40,ntmps40;go_wp2_with fail;refine(CM _ hb).mono ?_;rintro e w1 ⟨rfl,b1⟩;obtain⟨W1,hW1⟩:∃W1,W1=(w1.alloc (Obj.cells #[int u64 (px m),int u64 (py m),.bool (pb m)] 75)).alloc (Obj.cells #[int u64 (px z),int u64 (py z),.bool (pb z)] 75):=⟨_,rfl⟩;have hB1:Bl w1 W1:=by rw [hW1];exact((Below.refl _ w1).alloc (Nat.le_refl _) _).alloc (by simp) _
  replace r0:=(r0.keep b1).keep hB1;replace ra:=(ra.keep b1).keep hB1;replace rc:=(rc.keep b1).keep hB1;replace rs:=(rs.keep b1).keep hB1;replace hb:=hb.tr b1;replace hb:=hb.tr hB1;have rm:K3 W1 75 w1.heap.size (px m) (py m) (pb m):=by rw [hW1];exact(K3.new _ _ _ _ _).alloc _
  have rz:K3 W1 75 (w1.heap.size+1) (px z) (py z) (pb z):=by rw [hW1];exact(K3.new _ _ _ _ _).at (by simp)
  clear CM b1 hB1;go_wp2;rw [←hW1];clear hW1;generalize w1.heap.size=H1 at*;have s1:W1.drew.cell? ⟨w.heap.size,1,none⟩=_:=r0.c1;have s2:W1.drew.cell? ⟨w.heap.size,2,none⟩=_:=r0.c2;have s3:W1.drew.cell? ⟨w.heap.size,3,none⟩=_:=r0.c3;have a0:W1.drew.cell? ⟨w.heap.size+1,0,none⟩=_:=ra.c0;have a1:W1.drew.cell? ⟨w.heap.size+1,1,none⟩=_:=ra.c1;have a2:W1.drew.cell? ⟨w.heap.size+1,2,none⟩=_:=ra.c2;have cc:W1.drew.cell? ⟨w.heap.size+1+1,0,none⟩=some (int u64 (c:Int)):=rc.cell;have ss:W1.drew.cell? ⟨w.heap.size+1+1+1,0,none⟩=some (int u64 (s:Int)):=rs.cell
  refine pool_list [.val (.agg #[int u64 (px a),int u64 (py a),.bool (pb a)]),
      .val (.pointer (some ⟨w.heap.size+1+1+1,0,none⟩)),
      .val (int u64 (s:Int)),
      .val (.agg #[int u64 (px sa),int u64 (py sa),.bool (pb sa)]),
      .val (.pointer (some ⟨w.heap.size,1,none⟩)),
      .val (.agg #[int u64 (px b),int u64 (py b),.bool (pb b)]),
      .val (.pointer (some ⟨w.heap.size+1+1,0,none⟩)),
      .val (int u64 (c:Int)),
      .val (.agg #[int u64 (px cb),int u64 (py cb),.bool (pb cb)]),
      .val (.agg #[int u64 (px x),int u64 (py x),.bool (pb x)]),
      .new (.cells #[int u64 0,int u64 0,.bool false] 75) (.cells #[int u64 (px x),int u64 (py x),.bool (pb x)] 75) 11,
      .put 10] [[5],[7],[19],[18,20],[4],[22],[6],[24],[23,25],[21,26],[],[11,27]] (fun f=> [(some 18,.agg #[int u64 (px a),int u64 (py a),.bool (pb a)]),(some 19,.pointer (some ⟨w.heap.size+1+1+1,0,none⟩)),(some 20,int u64 (s:Int)),(some 21,.agg #[int u64 (px sa),int u64 (py sa),.bool (pb sa)]),(some 22,.pointer (some ⟨w.heap.size,1,none⟩)),(some 23,.agg #[int u64 (px b),int u64 (py b),.bool (pb b)]),(some 24,.pointer (some ⟨w.heap.size+1+1,0,none⟩)),(some 25,int u64 (c:Int)),(some 26,.agg #[int u64 (px cb),int u64 (py cb),.bool (pb cb)]),(some 27,.agg #[int u64 (px x),int u64 (py x),.bool (pb x)]),(some 11,.pointer (some ⟨f 10,0,none⟩)),(none,undef)]) (by kernel_rfl) (by kernel_rfl) (by kernel_rfl) (by kernel_rfl) (fun _=>by kernel_rfl) ?_ ?_
  · intro ix hix
    match ix,hix with
    |0,_=>exact obv [(5,.pointer (some ⟨w.heap.size+1,0,none⟩))] rfl rfl (fun A w ⟨e0,_⟩ hB=>ld_cp e0 (keepC a0 hB) (keepC a1 hB) (keepC a2 hB))
    |1,_=>exact obv [(7,.pointer (some ⟨w.heap.size+1+1+1,0,none⟩))] rfl rfl (fun A w ⟨e0,_⟩ hB=>fa_nN1 e0)
    |2,_=>exact obv [(19,.pointer (some ⟨w.heap.size+1+1+1,0,none⟩))] rfl rfl (fun A w ⟨e0,_⟩ hB=>ld_u64 e0 (keepC ss hB))
    |3,_=>exact obv [(18,.agg #[int u64 (px a),int u64 (py a),.bool (pb a)]),(20,int u64 (s:Int))] rfl rfl (fun A w ⟨e0,e1,_⟩ hB=>cl2 cf_impl_curvePoint_times e0 e1 (T1 w))
    |4,_=>exact obv [(4,.pointer (some ⟨w.heap.size,0,none⟩))] rfl rfl (fun A w ⟨e0,_⟩ hB=>fa_bat1 e0)
    |5,_=>exact obv [(22,.pointer (some ⟨w.heap.size,1,none⟩))] rfl rfl (fun A w ⟨e0,_⟩ hB=>ld_cp e0 (keepC s1 hB) (keepC s2 hB) (keepC s3 hB))
    |6,_=>exact obv [(6,.pointer (some ⟨w.heap.size+1+1,0,none⟩))] rfl rfl (fun A w ⟨e0,_⟩ hB=>fa_nN1 e0)
    |7,_=>exact obv [(24,.pointer (some ⟨w.heap.size+1+1,0,none⟩))] rfl rfl (fun A w ⟨e0,_⟩ hB=>ld_u64 e0 (keepC cc hB))
    |8,_=>exact obv [(23,.agg #[int u64 (px b),int u64 (py b),.bool (pb b)]),(25,int u64 (c:Int))] rfl rfl (fun A w ⟨e0,e1,_⟩ hB=>cl2 cf_impl_curvePoint_times e0 e1 (T2 w))
    |9,_=>exact obv [(21,.agg #[int u64 (px sa),int u64 (py sa),.bool (pb sa)]),(26,.agg #[int u64 (px cb),int u64 (py cb),.bool (pb cb)])] rfl rfl (fun A w ⟨e0,e1,_⟩ hB=>cl2 cf_impl_curvePoint_plus e0 e1 (A1 w))
    |10,_=>exact ob_new rfl rfl (fun A w=>al_cp)
    |11,_=>exact ob_put 11 (fun f=> [(11,.pointer (some ⟨f 10,0,none⟩)),(27,.agg #[int u64 (px x),int u64 (py x),.bool (pb x)])]) rfl rfl rfl (by decide) (by kernel_rfl) rfl (fun _=>by kernel_rfl) (fun f A w ⟨e0,e1,_⟩ hr=>pu_cp e0 e1 hr)
    |ix+12,h=>exact absurd h (by simp)
  intro f W2 hb2 hnew _;have hb2':Bl W1 W2:=(Below.refl _ W1).drew.trans hb2;have rx:K3 W2 75 (f 10) (px x) (py x) (pb x):=(hnew 10 _ _ _ rfl (by decide)).2;generalize f 10=BX at*;replace r0:=r0.keep hb2';replace rm:=rm.keep hb2';replace rz:=rz.keep hb2';replace rc:=rc.keep hb2';replace rs:=rs.keep hb2';replace hb:=hb.tr hb2';clear s1 s2 s3 a0 a1 a2 cc ss hb2 hb2' hnew T1 T2 A1 ra;simp only [puts,List.foldl,Act.put,List.setIfInBounds_toArray,List.set_cons_zero,List.set_cons_succ];go_wp2;have m0:W2.drew.cell? ⟨H1,0,none⟩=_:=rm.c0;have m1:W2.drew.cell? ⟨H1,1,none⟩=_:=rm.c1;have m2:W2.drew.cell? ⟨H1,2,none⟩=_:=rm.c2;have z0:W2.drew.cell? ⟨H1+1,0,none⟩=_:=rz.c0;have z1:W2.drew.cell? ⟨H1+1,1,none⟩=_:=rz.c1;have z2:W2.drew.cell? ⟨H1+1,2,none⟩=_:=rz.c2;have cc:W2.drew.cell? ⟨w.heap.size+1+1,0,none⟩=some (int u64 (c:Int)):=rc.cell;have ss:W2.drew.cell? ⟨w.heap.size+1+1+1,0,none⟩=some (int u64 (s:Int)):=rs.cell
  refine pool_list [.val (.agg #[int u64 (px m),int u64 (py m),.bool (pb m)]),
      .val (.pointer (some ⟨w.heap.size+1+1+1,0,none⟩)),
      .val (int u64 (s:Int)),
      .val (.agg #[int u64 (px sm),int u64 (py sm),.bool (pb sm)]),
      .val (.agg #[int u64 (px z),int u64 (py z),.bool (pb z)]),
      .val (.pointer (some ⟨w.heap.size+1+1,0,none⟩)),
      .val (int u64 (c:Int)),
      .val (.agg #[int u64 (px cz),int u64 (py cz),.bool (pb cz)]),
      .val (.agg #[int u64 (px y),int u64 (py y),.bool (pb y)]),
      .new (.cells #[int u64 0,int u64 0,.bool false] 75) (.cells #[int u64 (px y),int u64 (py y),.bool (pb y)] 75) 10,
      .put 9] [[9],[7],[29],[28,30],[10],[6],[33],[32,34],[31,35],[],[12,36]] (fun f=> [(some 28,.agg #[int u64 (px m),int u64 (py m),.bool (pb m)]),(some 29,.pointer (some ⟨w.heap.size+1+1+1,0,none⟩)),(some 30,int u64 (s:Int)),(some 31,.agg #[int u64 (px sm),int u64 (py sm),.bool (pb sm)]),(some 32,.agg #[int u64 (px z),int u64 (py z),.bool (pb z)]),(some 33,.pointer (some ⟨w.heap.size+1+1,0,none⟩)),(some 34,int u64 (c:Int)),(some 35,.agg #[int u64 (px cz),int u64 (py cz),.bool (pb cz)]),(some 36,.agg #[int u64 (px y),int u64 (py y),.bool (pb y)]),(some 12,.pointer (some ⟨f 9,0,none⟩)),(none,undef)]) (by kernel_rfl) (by kernel_rfl) (by kernel_rfl) (by kernel_rfl) (fun _=>by kernel_rfl) ?_ ?_
  · intro ix hix
    match ix,hix with
    |0,_=>exact obv [(9,.pointer (some ⟨H1,0,none⟩))] rfl rfl (fun A w ⟨e0,_⟩ hB=>ld_cp e0 (keepC m0 hB) (keepC m1 hB) (keepC m2 hB))
    |1,_=>exact obv [(7,.pointer (some ⟨w.heap.size+1+1+1,0,none⟩))] rfl rfl (fun A w ⟨e0,_⟩ hB=>fa_nN1 e0)
    |2,_=>exact obv [(29,.pointer (some ⟨w.heap.size+1+1+1,0,none⟩))] rfl rfl (fun A w ⟨e0,_⟩ hB=>ld_u64 e0 (keepC ss hB))
    |3,_=>exact obv [(28,.agg #[int u64 (px m),int u64 (py m),.bool (pb m)]),(30,int u64 (s:Int))] rfl rfl (fun A w ⟨e0,e1,_⟩ hB=>cl2 cf_impl_curvePoint_times e0 e1 (T3' w))
    |4,_=>exact obv [(10,.pointer (some ⟨H1+1,0,none⟩))] rfl rfl (fun A w ⟨e0,_⟩ hB=>ld_cp e0 (keepC z0 hB) (keepC z1 hB) (keepC z2 hB))
    |5,_=>exact obv [(6,.pointer (some ⟨w.heap.size+1+1,0,none⟩))] rfl rfl (fun A w ⟨e0,_⟩ hB=>fa_nN1 e0)
    |6,_=>exact obv [(33,.pointer (some ⟨w.heap.size+1+1,0,none⟩))] rfl rfl (fun A w ⟨e0,_⟩ hB=>ld_u64 e0 (keepC cc hB))
    |7,_=>exact obv [(32,.agg #[int u64 (px z),int u64 (py z),.bool (pb z)]),(34,int u64 (c:Int))] rfl rfl (fun A w ⟨e0,e1,_⟩ hB=>cl2 cf_impl_curvePoint_times e0 e1 (T4 w))
    |8,_=>exact obv [(31,.agg #[int u64 (px sm),int u64 (py sm),.bool (pb sm)]),(35,.agg #[int u64 (px cz),int u64 (py cz),.bool (pb cz)])] rfl rfl (fun A w ⟨e0,e1,_⟩ hB=>cl2 cf_impl_curvePoint_plus e0 e1 (A2 w))
    |9,_=>exact ob_new rfl rfl (fun A w=>al_cp)
    |10,_=>exact ob_put 12 (fun f=> [(12,.pointer (some ⟨f 9,0,none⟩)),(36,.agg #[int u64 (px y),int u64 (py y),.bool (pb y)])]) rfl rfl rfl (by decide) (by kernel_rfl) rfl (fun _=>by kernel_rfl) (fun f A w ⟨e0,e1,_⟩ hr=>pu_cp e0 e1 hr)
    |ix+11,h=>exact absurd h (by simp)
  intro f W3 hb3 hnew _;have hb3':Bl W2 W3:=(Below.refl _ W2).drew.trans hb3;have ry:K3 W3 75 (f 9) (px y) (py y) (pb y):=(hnew 9 _ _ _ rfl (by decide)).2;generalize f 9=BY at*;replace r0:=r0.keep hb3';replace rm:=rm.keep hb3';replace rz:=rz.keep hb3';replace rx:=rx.keep hb3';replace rc:=rc.keep hb3';replace hb:=hb.tr hb3';clear m0 m1 m2 z0 z1 z2 cc ss hb3 hb3' hnew T3' T4 A2 rs;simp only [puts,List.foldl,Act.put,List.setIfInBounds_toArray,List.set_cons_zero,List.set_cons_succ];go_wp2;have hT3:TabK W3.drew:=fun i hi=>(hb.cell (p:=⟨7,i,none⟩) hgw).trans (hT i hi)
  have hg3:7<W3.drew.heap.size:=Nat.lt_of_lt_of_le hgw hb.size;have s0:W3.drew.cell? ⟨w.heap.size,0,none⟩=_:=r0.c0;have s1:W3.drew.cell? ⟨w.heap.size,1,none⟩=_:=r0.c1;have s2:W3.drew.cell? ⟨w.heap.size,2,none⟩=_:=r0.c2;have s3:W3.drew.cell? ⟨w.heap.size,3,none⟩=_:=r0.c3;have s4:W3.drew.cell? ⟨w.heap.size,4,none⟩=_:=r0.c4;have s5:W3.drew.cell? ⟨w.heap.size,5,none⟩=_:=r0.c5;have m0:W3.drew.cell? ⟨H1,0,none⟩=_:=rm.c0;have m1:W3.drew.cell? ⟨H1,1,none⟩=_:=rm.c1;have m2:W3.drew.cell? ⟨H1,2,none⟩=_:=rm.c2;have z0:W3.drew.cell? ⟨H1+1,0,none⟩=_:=rz.c0;have z1:W3.drew.cell? ⟨H1+1,1,none⟩=_:=rz.c1;have z2:W3.drew.cell? ⟨H1+1,2,none⟩=_:=rz.c2;have x0:W3.drew.cell? ⟨BX,0,none⟩=_:=rx.c0;have x1:W3.drew.cell? ⟨BX,1,none⟩=_:=rx.c1;have x2:W3.drew.cell? ⟨BX,2,none⟩=_:=rx.c2;have y0:W3.drew.cell? ⟨BY,0,none⟩=_:=ry.c0;have y1:W3.drew.cell? ⟨BY,1,none⟩=_:=ry.c1;have y2:W3.drew.cell? ⟨BY,2,none⟩=_:=ry.c2;have cc:W3.drew.cell? ⟨w.heap.size+1+1,0,none⟩=some (int u64 (c:Int)):=rc.cell
  refine pool_list [.val (.agg #[.string (ctxB md),int u64 (px b),int u64 (py b),.bool (pb b),.slice (some ⟨g1,0,none⟩) n k1,.slice (some ⟨g2,0,none⟩) n k2]),
      .val (.agg #[int u64 (px m),int u64 (py m),.bool (pb m)]),
      .val (.agg #[int u64 (px z),int u64 (py z),.bool (pb z)]),
      .val (.agg #[int u64 (px x),int u64 (py x),.bool (pb x)]),
      .val (.agg #[int u64 (px y),int u64 (py y),.bool (pb y)]),
      .val (.agg #[int u64 (h:Int)]),
      .val (.agg #[int u64 (c:Int)]),
      .val (.bool ((h:Int)==(c:Int))),
      .val (.bool ((h:Int)==(c:Int)))] [[4],[9],[10],[11],[12],[37,38,39,40,41],[6],[42,43],[44]] (fun f=> [(some 37,.agg #[.string (ctxB md),int u64 (px b),int u64 (py b),.bool (pb b),.slice (some ⟨g1,0,none⟩) n k1,.slice (some ⟨g2,0,none⟩) n k2]),(some 38,.agg #[int u64 (px m),int u64 (py m),.bool (pb m)]),(some 39,.agg #[int u64 (px z),int u64 (py z),.bool (pb z)]),(some 40,.agg #[int u64 (px x),int u64 (py x),.bool (pb x)]),(some 41,.agg #[int u64 (px y),int u64 (py y),.bool (pb y)]),(some 42,.agg #[int u64 (h:Int)]),(some 43,.agg #[int u64 (c:Int)]),(some 44,.bool ((h:Int)==(c:Int))),(some 8,.bool ((h:Int)==(c:Int)))]) (by kernel_rfl) (by kernel_rfl) (by kernel_rfl) (by kernel_rfl) (fun _=>by kernel_rfl) ?_ ?_
  · intro ix hix
    match ix,hix with
    |0,_=>exact obv [(4,.pointer (some ⟨w.heap.size,0,none⟩))] rfl rfl (fun A w ⟨e0,_⟩ hB=>ld_bat e0 (keepC s0 hB) (keepC s1 hB) (keepC s2 hB) (keepC s3 hB) (keepC s4 hB) (keepC s5 hB))
    |1,_=>exact obv [(9,.pointer (some ⟨H1,0,none⟩))] rfl rfl (fun A w ⟨e0,_⟩ hB=>ld_cp e0 (keepC m0 hB) (keepC m1 hB) (keepC m2 hB))
    |2,_=>exact obv [(10,.pointer (some ⟨H1+1,0,none⟩))] rfl rfl (fun A w ⟨e0,_⟩ hB=>ld_cp e0 (keepC z0 hB) (keepC z1 hB) (keepC z2 hB))
    |3,_=>exact obv [(11,.pointer (some ⟨BX,0,none⟩))] rfl rfl (fun A w ⟨e0,_⟩ hB=>ld_cp e0 (keepC x0 hB) (keepC x1 hB) (keepC x2 hB))
    |4,_=>exact obv [(12,.pointer (some ⟨BY,0,none⟩))] rfl rfl (fun A w ⟨e0,_⟩ hB=>ld_cp e0 (keepC y0 hB) (keepC y1 hB) (keepC y2 hB))
    |5,_=>exact obv [(37,.agg #[.string (ctxB md),int u64 (px b),int u64 (py b),.bool (pb b),.slice (some ⟨g1,0,none⟩) n k1,.slice (some ⟨g2,0,none⟩) n k2]),(38,.agg #[int u64 (px m),int u64 (py m),.bool (pb m)]),(39,.agg #[int u64 (px z),int u64 (py z),.bool (pb z)]),(40,.agg #[int u64 (px x),int u64 (py x),.bool (pb x)]),(41,.agg #[int u64 (px y),int u64 (py y),.bool (pb y)])] rfl rfl (fun A w ⟨e0,e1,e2,e3,e4,_⟩ hB=>cl5 cf_impl_batch_challenge e0 e1 e2 e3 e4 (CH w (keepT hT3 hg3 hB)))
    |6,_=>exact obv [(6,.pointer (some ⟨w.heap.size+1+1,0,none⟩))] rfl rfl (fun A w ⟨e0,_⟩ hB=>ld_nN e0 (keepC cc hB))
    |7,_=>exact obv [(42,.agg #[int u64 (h:Int)]),(43,.agg #[int u64 (c:Int)])] rfl rfl (fun A w ⟨e0,e1,_⟩ hB=>eq_nN e0 e1)
    |8,_=>exact obv [(44,.bool ((h:Int)==(c:Int)))] rfl rfl (fun A w ⟨e0,_⟩ hB=>doV_assign e0)
    |ix+9,h=>exact absurd h (by simp)
  intro f W4 hb4 _ _;have hb5:=hb.drew.trans (hb4.mono hb.size);simp only [puts,List.foldl,Act.put,List.setIfInBounds_toArray,List.set_cons_zero,List.set_cons_succ];go_wp2;go_ret;exact⟨rfl,hb5⟩
theorem Cps.one {W:World}{t:TypeId}{g:Nat}{p:Pt}(h:Bk W t g #[int u64 (px p),int u64 (py p),.bool (pb p)]):Cps W g [p]:=by
  have e:∀i q,([p]:List Pt)[i]? =some q→i=0∧q=p:=fun i q h=>by
    cases i with
    |zero=>simp at h;exact⟨rfl,h.symm⟩
    |succ i=>simp at h
  refine⟨h.lt,fun i q hq=> ?_,fun i q hq=> ?_,fun i q hq=> ?_⟩<;>obtain ⟨rfl,rfl⟩:=e i q hq
  · exact h.cell (k:=0) rfl
  · exact h.cell (k:=1) rfl
  · exact h.cell (k:=2) rfl
section
variable (cx info:ByteArray)(b el ev:Pt)(c s:Int)(F0 F1 F2 F3 F4 F5 F6:FuncId)(a0 a1 a2 a3:Addr)(w:World)(hcf:∀(args:Array Value) (w:World),(callFunc F5 args).run prog w= .ok (.enter F5 args) w)
include hcf
theorem verI_no
    (CL:∀w' g1 g2,Bl w w'→Cr F5 #[.agg #[.string cx,.string info],.agg #[int u64 (px b),int u64 (py b),.bool (pb b)],.slice (some ⟨g1,0,none⟩) 1 1,.slice (some ⟨g2,0,none⟩) 1 1] w' (.tuple #[.agg zBat,.bool false])):
    Cr 98 #[.agg #[.string cx,.string info,.func (.func F0) #[] #[],.func (.func F1) #[] #[],.func (.func F2) #[] #[],.func (.func F3) #[] #[],.func (.func F4) #[] #[],.func (.func F5) #[] #[],.func (.func F6) #[] #[]],.agg #[int u64 (px b),int u64 (py b),.bool (pb b)],.agg #[int u64 (px el),int u64 (py el),.bool (pb el)],.agg #[int u64 (px ev),int u64 (py ev),.bool (pb ev),int u64 c,int u64 s]] w .nilIface:=by
  unfold zBat at CL;obtain⟨X,hX⟩:∃X,X=((((((w.alloc (Obj.cells #[.string cx,.string info,.func (.func F0) #[] #[],.func (.func F1) #[] #[],.func (.func F2) #[] #[],.func (.func F3) #[] #[],.func (.func F4) #[] #[],.func (.func F5) #[] #[],.func (.func F6) #[] #[]] 130)).alloc (Obj.cells #[int u64 (px b),int u64 (py b),.bool (pb b)] 75)).alloc (Obj.cells #[int u64 (px el),int u64 (py el),.bool (pb el)] 75)).alloc (Obj.cells #[int u64 (px ev),int u64 (py ev),.bool (pb ev),int u64 c,int u64 s] 169)).alloc (Obj.cells #[int u64 (px el),int u64 (py el),.bool (pb el)] 75)).alloc (Obj.cells #[int u64 (px ev),int u64 (py ev),.bool (pb ev)] 75)):=⟨_,rfl⟩;have r0:Bk X 130 (w.heap.size) #[.string cx,.string info,.func (.func F0) #[] #[],.func (.func F1) #[] #[],.func (.func F2) #[] #[],.func (.func F3) #[] #[],.func (.func F4) #[] #[],.func (.func F5) #[] #[],.func (.func F6) #[] #[]]:=by rw [hX];exact((((((Bk.new _ _ _).alloc _).alloc _).alloc _).alloc _).alloc _)
  have r1:Bk X 75 (w.heap.size+1) #[int u64 (px b),int u64 (py b),.bool (pb b)]:=by rw [hX];exact((((((Bk.new _ _ _).at (by simp)).alloc _).alloc _).alloc _).alloc _)
  have r2:Bk X 75 (w.heap.size+1+1) #[int u64 (px el),int u64 (py el),.bool (pb el)]:=by rw [hX];exact(((((Bk.new _ _ _).at (by simp)).alloc _).alloc _).alloc _)
  have r3:Bk X 169 (w.heap.size+1+1+1) #[int u64 (px ev),int u64 (py ev),.bool (pb ev),int u64 c,int u64 s]:=by rw [hX];exact((((Bk.new _ _ _).at (by simp)).alloc _).alloc _)
  have r5:Bk X 75 (w.heap.size+1+1+1+1) #[int u64 (px el),int u64 (py el),.bool (pb el)]:=by rw [hX];exact(((Bk.new _ _ _).at (by simp)).alloc _)
  have r6:Bk X 75 (w.heap.size+1+1+1+1+1) #[int u64 (px ev),int u64 (py ev),.bool (pb ev)]:=by rw [hX];exact((Bk.new _ _ _).at (by simp))
  have hb:Bl w X:=by rw [hX];exact(((((((Below.refl _ w).alloc (Nat.le_refl _) _).alloc (by simp) _).alloc (by simp;omega) _).alloc (by simp;omega) _).alloc (by simp;omega) _).alloc (by simp;omega) _)
  rw [hX] at r0 r1 r2 r3 r5 r6 hb;clear hX;obtain⟨Y,hY⟩:∃Y,Y=((((w.alloc (Obj.cells #[.string cx,.string info,.func (.func F0) #[] #[],.func (.func F1) #[] #[],.func (.func F2) #[] #[],.func (.func F3) #[] #[],.func (.func F4) #[] #[],.func (.func F5) #[] #[],.func (.func F6) #[] #[]] 130)).alloc (Obj.cells #[int u64 (px b),int u64 (py b),.bool (pb b)] 75)).alloc (Obj.cells #[int u64 (px el),int u64 (py el),.bool (pb el)] 75)).alloc (Obj.cells #[int u64 (px ev),int u64 (py ev),.bool (pb ev),int u64 c,int u64 s] 169)):=⟨_,rfl⟩;have y0:Bk Y 130 (w.heap.size) #[.string cx,.string info,.func (.func F0) #[] #[],.func (.func F1) #[] #[],.func (.func F2) #[] #[],.func (.func F3) #[] #[],.func (.func F4) #[] #[],.func (.func F5) #[] #[],.func (.func F6) #[] #[]]:=by rw [hY];exact((((Bk.new _ _ _).alloc _).alloc _).alloc _)
  have y1:Bk Y 75 (w.heap.size+1) #[int u64 (px b),int u64 (py b),.bool (pb b)]:=by rw [hY];exact((((Bk.new _ _ _).at (by simp)).alloc _).alloc _)
  have y2:Bk Y 75 (w.heap.size+1+1) #[int u64 (px el),int u64 (py el),.bool (pb el)]:=by rw [hY];exact(((Bk.new _ _ _).at (by simp)).alloc _)
  have y3:Bk Y 169 (w.heap.size+1+1+1) #[int u64 (px ev),int u64 (py ev),.bool (pb ev),int u64 c,int u64 s]:=by rw [hY];exact((Bk.new _ _ _).at (by simp))
  rw [hY] at y0 y1 y2 y3;clear hY;have y0c0:=y0.cell (k:=0) rfl;have y0c1:=y0.cell (k:=1) rfl;have y0c7:=y0.cell (k:=7) rfl;have y1c0:=y1.cell (k:=0) rfl;have y1c1:=y1.cell (k:=1) rfl;have y1c2:=y1.cell (k:=2) rfl;have y2c0:=y2.cell (k:=0) rfl;have y2c1:=y2.cell (k:=1) rfl;have y2c2:=y2.cell (k:=2) rfl;have z3:=y3.alloc (Obj.cells #[int u64 (px el),int u64 (py el),.bool (pb el)] 75);have z3c0:=z3.cell (k:=0) rfl;have z3c1:=z3.cell (k:=1) rfl;have z3c2:=z3.cell (k:=2) rfl;go_enter func98,ntmps98;go_wp2_with fail;refine(CL _ _ _ hb).mono ?_;rintro e w1 ⟨rfl,b1⟩;have hal:=balc w1 (Obj.cells #[.string ⟨#[]⟩,int u64 0,int u64 0,.bool false,.slice none 0 0,.slice none 0 0] 78);replace hb:=hb.tr b1;replace hb:=hb.tr hal;clear CL b1 hal y0c0 y0c1 y0c7 y1c0 y1c1 y1c2 y2c0 y2c1 y2c2 z3c0 z3c1 z3c2 y0 y1 y2 y3 z3 r0 r1 r2 r3 r5 r6;go_wp2;generalize w1.heap.size=H1 at*;generalize w1.alloc _=W1 at*;go_quiet (fail);have hb3:Bl w (W1.drewN nq):=⟨hb.os,hb.tape,hb.output,hb.size,hb.block⟩;clear hb;generalize W1.drewN nq=W3 at*;go_wp2;go_ret;exact⟨rfl,hb3⟩
theorem verI_yes (ok:Bool)(h1 h2:Nat)(hs:Sn w a0 a1 a2 a3)
    (CL:Cb w F5 #[.agg #[.string cx,.string info],.agg #[int u64 (px b),int u64 (py b),.bool (pb b)],.slice (some ⟨w.heap.size+1+1+1+1,0,none⟩) 1 1,.slice (some ⟨w.heap.size+1+1+1+1+1,0,none⟩) 1 1] (.tuple #[.agg #[.string cx,int u64 (px b),int u64 (py b),.bool (pb b),.slice (some ⟨h1,0,none⟩) 1 1,.slice (some ⟨h2,0,none⟩) 1 1],.bool true]))
    (AC:∀w',Bl w w'→Cps w' (w.heap.size+1+1+1+1) [el]→Cps w' (w.heap.size+1+1+1+1+1) [ev]→Cr 40 #[.agg #[.string cx,int u64 (px b),int u64 (py b),.bool (pb b),.slice (some ⟨h1,0,none⟩) 1 1,.slice (some ⟨h2,0,none⟩) 1 1],.agg #[int u64 (px gG),int u64 (py gG),.bool (pb gG)],.agg #[int u64 c],.agg #[int u64 s]] w' (.bool ok)):
    Cr 98 #[.agg #[.string cx,.string info,.func (.func F0) #[] #[],.func (.func F1) #[] #[],.func (.func F2) #[] #[],.func (.func F3) #[] #[],.func (.func F4) #[] #[],.func (.func F5) #[] #[],.func (.func F6) #[] #[]],.agg #[int u64 (px b),int u64 (py b),.bool (pb b)],.agg #[int u64 (px el),int u64 (py el),.bool (pb el)],.agg #[int u64 (px ev),int u64 (py ev),.bool (pb ev),int u64 c,int u64 s]] w (if ok=true then .nilIface else sen a3):=by
  obtain⟨X,hX⟩:∃X,X=((((((w.alloc (Obj.cells #[.string cx,.string info,.func (.func F0) #[] #[],.func (.func F1) #[] #[],.func (.func F2) #[] #[],.func (.func F3) #[] #[],.func (.func F4) #[] #[],.func (.func F5) #[] #[],.func (.func F6) #[] #[]] 130)).alloc (Obj.cells #[int u64 (px b),int u64 (py b),.bool (pb b)] 75)).alloc (Obj.cells #[int u64 (px el),int u64 (py el),.bool (pb el)] 75)).alloc (Obj.cells #[int u64 (px ev),int u64 (py ev),.bool (pb ev),int u64 c,int u64 s] 169)).alloc (Obj.cells #[int u64 (px el),int u64 (py el),.bool (pb el)] 75)).alloc (Obj.cells #[int u64 (px ev),int u64 (py ev),.bool (pb ev)] 75)):=⟨_,rfl⟩;have r0:Bk X 130 (w.heap.size) #[.string cx,.string info,.func (.func F0) #[] #[],.func (.func F1) #[] #[],.func (.func F2) #[] #[],.func (.func F3) #[] #[],.func (.func F4) #[] #[],.func (.func F5) #[] #[],.func (.func F6) #[] #[]]:=by rw [hX];exact((((((Bk.new _ _ _).alloc _).alloc _).alloc _).alloc _).alloc _)
  have r1:Bk X 75 (w.heap.size+1) #[int u64 (px b),int u64 (py b),.bool (pb b)]:=by rw [hX];exact((((((Bk.new _ _ _).at (by simp)).alloc _).alloc _).alloc _).alloc _)
  have r2:Bk X 75 (w.heap.size+1+1) #[int u64 (px el),int u64 (py el),.bool (pb el)]:=by rw [hX];exact(((((Bk.new _ _ _).at (by simp)).alloc _).alloc _).alloc _)
  have r3:Bk X 169 (w.heap.size+1+1+1) #[int u64 (px ev),int u64 (py ev),.bool (pb ev),int u64 c,int u64 s]:=by rw [hX];exact((((Bk.new _ _ _).at (by simp)).alloc _).alloc _)
  have r5:Bk X 75 (w.heap.size+1+1+1+1) #[int u64 (px el),int u64 (py el),.bool (pb el)]:=by rw [hX];exact(((Bk.new _ _ _).at (by simp)).alloc _)
  have r6:Bk X 75 (w.heap.size+1+1+1+1+1) #[int u64 (px ev),int u64 (py ev),.bool (pb ev)]:=by rw [hX];exact((Bk.new _ _ _).at (by simp))
  have hb:Bl w X:=by rw [hX];exact(((((((Below.refl _ w).alloc (Nat.le_refl _) _).alloc (by simp) _).alloc (by simp;omega) _).alloc (by simp;omega) _).alloc (by simp;omega) _).alloc (by simp;omega) _)
  rw [hX] at r0 r1 r2 r3 r5 r6 hb;clear hX;obtain⟨Y,hY⟩:∃Y,Y=((((w.alloc (Obj.cells #[.string cx,.string info,.func (.func F0) #[] #[],.func (.func F1) #[] #[],.func (.func F2) #[] #[],.func (.func F3) #[] #[],.func (.func F4) #[] #[],.func (.func F5) #[] #[],.func (.func F6) #[] #[]] 130)).alloc (Obj.cells #[int u64 (px b),int u64 (py b),.bool (pb b)] 75)).alloc (Obj.cells #[int u64 (px el),int u64 (py el),.bool (pb el)] 75)).alloc (Obj.cells #[int u64 (px ev),int u64 (py ev),.bool (pb ev),int u64 c,int u64 s] 169)):=⟨_,rfl⟩;have y0:Bk Y 130 (w.heap.size) #[.string cx,.string info,.func (.func F0) #[] #[],.func (.func F1) #[] #[],.func (.func F2) #[] #[],.func (.func F3) #[] #[],.func (.func F4) #[] #[],.func (.func F5) #[] #[],.func (.func F6) #[] #[]]:=by rw [hY];exact((((Bk.new _ _ _).alloc _).alloc _).alloc _)
  have y1:Bk Y 75 (w.heap.size+1) #[int u64 (px b),int u64 (py b),.bool (pb b)]:=by rw [hY];exact((((Bk.new _ _ _).at (by simp)).alloc _).alloc _)
  have y2:Bk Y 75 (w.heap.size+1+1) #[int u64 (px el),int u64 (py el),.bool (pb el)]:=by rw [hY];exact(((Bk.new _ _ _).at (by simp)).alloc _)
  have y3:Bk Y 169 (w.heap.size+1+1+1) #[int u64 (px ev),int u64 (py ev),.bool (pb ev),int u64 c,int u64 s]:=by rw [hY];exact((Bk.new _ _ _).at (by simp))
  rw [hY] at y0 y1 y2 y3;clear hY;have y0c0:=y0.cell (k:=0) rfl;have y0c1:=y0.cell (k:=1) rfl;have y0c7:=y0.cell (k:=7) rfl;have y1c0:=y1.cell (k:=0) rfl;have y1c1:=y1.cell (k:=1) rfl;have y1c2:=y1.cell (k:=2) rfl;have y2c0:=y2.cell (k:=0) rfl;have y2c1:=y2.cell (k:=1) rfl;have y2c2:=y2.cell (k:=2) rfl;have z3:=y3.alloc (Obj.cells #[int u64 (px el),int u64 (py el),.bool (pb el)] 75);have z3c0:=z3.cell (k:=0) rfl;have z3c1:=z3.cell (k:=1) rfl;have z3c2:=z3.cell (k:=2) rfl;go_enter func98,ntmps98;go_wp2_with fail;refine(CL _ hb).mono ?_;rintro e w1 ⟨rfl,b1⟩;have hal:=balc w1 (Obj.cells #[.string cx,int u64 (px b),int u64 (py b),.bool (pb b),.slice (some ⟨h1,0,none⟩) 1 1,.slice (some ⟨h2,0,none⟩) 1 1] 78);have r9:=Bk.new w1 78 #[.string cx,int u64 (px b),int u64 (py b),.bool (pb b),.slice (some ⟨h1,0,none⟩) 1 1,.slice (some ⟨h2,0,none⟩) 1 1];replace r3:=(r3.keep b1).keep hal;replace r5:=(r5.keep b1).keep hal;replace r6:=(r6.keep b1).keep hal;replace hb:=hb.tr b1;replace hb:=hb.tr hal;clear CL b1 hal y0c0 y0c1 y0c7 y1c0 y1c1 y1c2 y2c0 y2c1 y2c2 z3c0 z3c1 z3c2 y0 y1 y2 y3 z3 r0 r1 r2;go_wp2;generalize w1.heap.size=H1 at*;generalize w1.alloc _=W1 at*;have u0:W1.drew.cell? ⟨H1,0,none⟩=_:=r9.cell (k:=0) rfl;have u1:W1.drew.cell? ⟨H1,1,none⟩=_:=r9.cell (k:=1) rfl;have u2:W1.drew.cell? ⟨H1,2,none⟩=_:=r9.cell (k:=2) rfl;have u3:W1.drew.cell? ⟨H1,3,none⟩=_:=r9.cell (k:=3) rfl;have u4:W1.drew.cell? ⟨H1,4,none⟩=_:=r9.cell (k:=4) rfl;have u5:W1.drew.cell? ⟨H1,5,none⟩=_:=r9.cell (k:=5) rfl;have v3:W1.drew.cell? ⟨w.heap.size+1+1+1,3,none⟩=_:=r3.cell (k:=3) rfl;have v4:W1.drew.cell? ⟨w.heap.size+1+1+1,4,none⟩=_:=r3.cell (k:=4) rfl;have AC':∀w',G.Sides [] W1.drew w'→_:=fun w' h=>AC w' (hb.drew.trans (h.below.mono hb.size)) ((Cps.one r5.drew).keep h.below) ((Cps.one r6.drew).keep h.below)
  refine G.pool_list (W:=W1) [] [.val (.bool true),
      .val (.bool true),
      .val (.agg #[.string cx,int u64 (px b),int u64 (py b),.bool (pb b),.slice (some ⟨h1,0,none⟩) 1 1,.slice (some ⟨h2,0,none⟩) 1 1]),
      .val (.agg #[int u64 (px gG),int u64 (py gG),.bool (pb gG)]),
      .val (.pointer (some ⟨w.heap.size+1+1+1,3,none⟩)),
      .val (.agg #[int u64 c]),
      .val (.pointer (some ⟨w.heap.size+1+1+1,4,none⟩)),
      .val (.agg #[int u64 s]),
      .val (.bool ok),
      .val (.bool (!ok)),
      .val (.bool (!ok))] [[10],[26],[9],[],[7],[30],[7],[32],[28,29,31,33],[34],[27,35]] (fun f=> [(some 26,.bool true),(some 27,.bool true),(some 28,.agg #[.string cx,int u64 (px b),int u64 (py b),.bool (pb b),.slice (some ⟨h1,0,none⟩) 1 1,.slice (some ⟨h2,0,none⟩) 1 1]),(some 29,.agg #[int u64 (px gG),int u64 (py gG),.bool (pb gG)]),(some 30,.pointer (some ⟨w.heap.size+1+1+1,3,none⟩)),(some 31,.agg #[int u64 c]),(some 32,.pointer (some ⟨w.heap.size+1+1+1,4,none⟩)),(some 33,.agg #[int u64 s]),(some 34,.bool ok),(some 35,.bool (!ok)),(some 36,.bool (!ok))]) (by kernel_rfl) (by kernel_rfl) (by kernel_rfl) (by kernel_rfl) (fun _=>by kernel_rfl) (G.last_of [] (fun F R hm=>by simp at hm) (fun ob ob' k hm=>by simp at hm) (fun b ob ob' hm=>by simp at hm)) (fun b ob ob' hm=>by simp at hm) ?_ ?_
  · intro ix hix
    match ix,hix with
    |0,_=>exact G.obv [(10,.bool true)] rfl rfl (fun A w ⟨e0,_⟩ hB=>doV_move e0)
    |1,_=>exact G.obv [(26,.bool true)] rfl rfl (fun A w ⟨e0,_⟩ hB=>doV_move e0)
    |2,_=>exact G.obv [(9,.pointer (some ⟨H1,0,none⟩))] rfl rfl (fun A w ⟨e0,_⟩ hB=>ld_bat e0 (hB.cell u0 (by simp)) (hB.cell u1 (by simp)) (hB.cell u2 (by simp)) (hB.cell u3 (by simp)) (hB.cell u4 (by simp)) (hB.cell u5 (by simp)))
    |3,_=>exact G.obv [] rfl rfl (fun A w _ hB=>cl0 cf_impl_basePoint (bspI w))
    |4,_=>exact G.obv [(7,.pointer (some ⟨w.heap.size+1+1+1,0,none⟩))] rfl rfl (fun A w ⟨e0,_⟩ hB=>fa_evn1 e0)
    |5,_=>exact G.obv [(30,.pointer (some ⟨w.heap.size+1+1+1,3,none⟩))] rfl rfl (fun A w ⟨e0,_⟩ hB=>ld_nN e0 (hB.cell v3 (by simp)))
    |6,_=>exact G.obv [(7,.pointer (some ⟨w.heap.size+1+1+1,0,none⟩))] rfl rfl (fun A w ⟨e0,_⟩ hB=>fa_evn2 e0)
    |7,_=>exact G.obv [(32,.pointer (some ⟨w.heap.size+1+1+1,4,none⟩))] rfl rfl (fun A w ⟨e0,_⟩ hB=>ld_nN e0 (hB.cell v4 (by simp)))
    |8,_=>exact G.obv [(28,.agg #[.string cx,int u64 (px b),int u64 (py b),.bool (pb b),.slice (some ⟨h1,0,none⟩) 1 1,.slice (some ⟨h2,0,none⟩) 1 1]),(29,.agg #[int u64 (px gG),int u64 (py gG),.bool (pb gG)]),(31,.agg #[int u64 c]),(33,.agg #[int u64 s])] rfl rfl (fun A w ⟨e0,e1,e2,e3,_⟩ hB=>cl4 cf_impl_batch_accepts e0 e1 e2 e3 (AC' w hB))
    |9,_=>exact G.obv [(34,.bool ok)] rfl rfl (fun A w ⟨e0,_⟩ hB=>not_b e0)
    |10,_=>exact G.obv [(27,.bool true),(35,.bool (!ok))] rfl rfl (fun A w ⟨e0,e1,_⟩ hB=>Z.pkT e0 e1)
    |ix+11,h=>exact absurd h (by simp)
  intro f W3 hS _ _ _ _;have hb3:Bl W1 W3:=(Below.refl _ W1).drew.trans hS.below;replace hb:=hb.tr hb3;clear hS hb3 AC AC' u0 u1 u2 u3 u4 u5 v3 v4 r3 r5 r6 r9;simp only [puts,List.foldl,Act.put,List.setIfInBounds_toArray,List.set_cons_zero,List.set_cons_succ];have g3:=(hs.keep hb).c3
  cases ok with
  | true=>
    go_wp2;go_ret;exact⟨rfl,hb⟩
  | false=>
    go_wp2;go_ret;exact⟨rfl,hb⟩
end
section
variable (es:List Tri)(pc ps g cap:Nat)(a0 a1 a2 a3:Addr)(w:World)(hs:Sn w a0 a1 a2 a3)(hp:Pts w g 0 es)
include hs hp
theorem evlI_no (h: ¬ evB es pc ps=true):∃s,∀w',Bl w w'→
    Cr 97 #[.agg #[.slice (some ⟨g,0,none⟩) es.length cap,int u64 pc,int u64 ps]] w' (.tuple #[.agg zEvn,flt s (sen a0)]):=by
  by_cases hl:es.length=1
  · obtain⟨t,rfl⟩:=List.length_eq_one_iff.1 hl;rw [evB_single] at h;by_cases hel:elT t=true
    · refine⟨⟨#[112,114,111,111,102]⟩,fun w' hb=> ?_⟩;obtain⟨e0,e1,e2⟩:=pts_one (hp.below hb hp.lt)
      have:=evlI_x (pc:Int) (ps:Int) a0 a1 a2 a3 w' (hs.keep hb) g 0 cap _ _ _ e0 e1 e2 (asT t) (fun w1 hb1=>by
        have:=eleI_any t a0 a1 a2 a3 w1 ((hs.keep hb).keep hb1)
        rwa [if_pos hel] at this) _ _ _ _ (exN_any pc) (exN_any ps)
      rw [if_neg (by rw [hel,Bool.true_and] at h;exact h)] at this;exact this
    · refine⟨⟨#[101,108,101,109,101,110,116]⟩,fun w' hb=> ?_⟩;obtain⟨e0,e1,e2⟩:=pts_one (hp.below hb hp.lt)
      exact evlI_e (pc:Int) (ps:Int) a0 w' g 0 cap _ _ _ e0 e1 e2 (fun w1 hb1=>by
        have:=eleI_any t a0 a1 a2 a3 w1 ((hs.keep hb).keep hb1)
        rwa [if_neg hel] at this)
  · exact⟨_,fun w' hb=>evlI_n pc ps a0 a1 a2 a3 w' (hs.keep hb) _ es.length cap (by simp;omega)⟩
theorem evlI_yes (t:Tri)(ht:es= [t])(hel:elT t=true)(hpc:pc<2305843010818082053)(hps:ps<2305843010818082053)(w':World)(hb:Bl w w'):
    Cr 97 #[.agg #[.slice (some ⟨g,0,none⟩) es.length cap,int u64 pc,int u64 ps]] w' (.tuple #[.agg #[int u64 (px (asT t)),int u64 (py (asT t)),.bool (pb (asT t)),int u64 pc,int u64 ps],.nilIface]):=by
  subst ht;obtain⟨e0,e1,e2⟩:=pts_one (hp.below hb hp.lt)
  have:=evlI_x (pc:Int) (ps:Int) a0 a1 a2 a3 w' (hs.keep hb) g 0 cap _ _ _ e0 e1 e2 (asT t) (fun w1 hb1=>by
    have:=eleI_any t a0 a1 a2 a3 w1 ((hs.keep hb).keep hb1)
    rwa [if_pos hel] at this) _ _ _ _ (exN_any pc) (exN_any ps)
  rw [if_pos (by rw [decide_eq_true hpc,decide_eq_true hps];rfl),if_pos hpc,if_pos hps] at this;exact this
end
def prvT (mode:Int)(t2 tp:Tri):Tri:=if mode=2 then t2 else tp
noncomputable def verK (k:Nat) (tb t1 te:Tri) (pc ps:Nat):Bool:=if k=1 then chkB 1 gT tb [t1] [te] pc ps else if k=2 then chkB 2 gT tb [te] [t1] pc ps else true
structure Rf (k:Nat)(F0 F1 F2 F3 F4 F5 F6:FuncId):Prop where
  rl:Rl k F0 F1 F2 F3 F4 F5 F6
  e4:Ent F4
  proved:∀(t2 tp:Tri) (a0 a1 a2 a3:Addr) (w:World),Sn w a0 a1 a2 a3→
    Cr F4 #[.agg #[int u64 (px (asT tp)),int u64 (py (asT tp)),.bool (pb (asT tp))],.agg #[int u64 (t2.1:Int),int u64 (t2.2.1:Int),.bool t2.2.2]] w (if twB k t2=true then .tuple #[.agg #[int u64 (px (asT (prvT k t2 tp))),int u64 (py (asT (prvT k t2 tp))),.bool (pb (asT (prvT k t2 tp)))],.nilIface] else .tuple #[.agg #[int u64 0,int u64 0,.bool true],sen a0])
  verify:∀(info:ByteArray) (tb t1 te:Tri) (pc ps:Nat) (a0 a1 a2 a3:Addr) (w:World),TabK w→Sn w a0 a1 a2 a3→onT tb=true→onT t1=true→onT te=true→pc<2305843010818082053→ps<2305843010818082053→
    Cr 98 #[.agg #[.string (ctxB k),.string info,.func (.func F0) #[] #[],.func (.func F1) #[] #[],.func (.func F2) #[] #[],.func (.func F3) #[] #[],.func (.func F4) #[] #[],.func (.func F5) #[] #[],.func (.func F6) #[] #[]],.agg #[int u64 (px (asT tb)),int u64 (py (asT tb)),.bool (pb (asT tb))],.agg #[int u64 (px (asT t1)),int u64 (py (asT t1)),.bool (pb (asT t1))],.agg #[int u64 (px (asT te)),int u64 (py (asT te)),.bool (pb (asT te)),int u64 pc,int u64 ps]] w (if verK k tb t1 te pc ps=true then .nilIface else sen a3)
theorem enPA:Ent 138:=fun _ _=>by kernel_rfl
theorem enTA:Ent 146:=fun _ _=>by kernel_rfl
theorem enNC:Ent 139:=fun _ _=>by kernel_rfl
theorem enCF:Ent 141:=fun _ _=>by kernel_rfl
theorem enCB:Ent 147:=fun _ _=>by kernel_rfl
theorem prv_no {k:Nat}(hk: ¬ k=2)(t2 tp:Tri)(a0 a1 a2 a3:Addr)(w:World)(hs:Sn w a0 a1 a2 a3):
    Cr 138 #[.agg #[int u64 (px (asT tp)),int u64 (py (asT tp)),.bool (pb (asT tp))],.agg #[int u64 (t2.1:Int),int u64 (t2.2.1:Int),.bool t2.2.2]] w (if twB k t2=true then .tuple #[.agg #[int u64 (px (asT (prvT k t2 tp))),int u64 (py (asT (prvT k t2 tp))),.bool (pb (asT (prvT k t2 tp)))],.nilIface] else .tuple #[.agg #[int u64 0,int u64 0,.bool true],sen a0]):=by
  have hk': ¬ (k:Int)=2:=by omega
  unfold twB prvT;rw [if_neg hk',if_neg hk'];by_cases h:t2=(0,0,true)
  · rw [if_pos (decide_eq_true h)];subst h;exact palI_yes (asT tp) w
  · rw [if_neg (by simpa using h)];refine palI_no (asT tp) a0 a1 a2 a3 w hs _ _ _ (fun⟨h0,h1,h2⟩=>h ?_);obtain⟨x,y,c⟩:=t2;simp only at h0 h1 h2;rw [h2,show x=0 by omega,show y=0 by omega]
theorem prv_two (t2 tp:Tri)(a0 a1 a2 a3:Addr)(w:World)(hs:Sn w a0 a1 a2 a3):
    Cr 146 #[.agg #[int u64 (px (asT tp)),int u64 (py (asT tp)),.bool (pb (asT tp))],.agg #[int u64 (t2.1:Int),int u64 (t2.2.1:Int),.bool t2.2.2]] w (if twB (2:Nat) t2=true then .tuple #[.agg #[int u64 (px (asT (prvT (2:Nat) t2 tp))),int u64 (py (asT (prvT (2:Nat) t2 tp))),.bool (pb (asT (prvT (2:Nat) t2 tp)))],.nilIface] else .tuple #[.agg #[int u64 0,int u64 0,.bool true],sen a0]):=by
  have h2:((2:Nat):Int)=2:=rfl;unfold twB prvT;rw [if_pos h2,if_pos h2];by_cases h:elT t2=true
  · rw [if_pos h]
    exact talI_of (asT tp) w _ _ _ _ _ _ _ (fun w' hb=>by
      have:=eleI_any t2 a0 a1 a2 a3 w' (hs.keep hb)
      rwa [if_pos h] at this)
  · rw [if_neg h]
    exact talI_of (asT tp) w _ _ _ _ _ _ _ (fun w' hb=>by
      have:=eleI_any t2 a0 a1 a2 a3 w' (hs.keep hb)
      rwa [if_neg h] at this)
theorem chkB_eq {md:Nat}{a b:Tri}{cs ds:List Tri}{c s:Nat}(hB:batB md a b cs ds=true)(hlc:c<2305843010818082053)(hls:s<2305843010818082053):chkB md a b cs ds c s=(((chkC md c s a b cs ds:Nat):Int)==(c:Int)):=by
  unfold chkB;rw [hB,decide_eq_true hlc,decide_eq_true hls,Int.toNat_natCast];rw [Bool.eq_iff_iff];simp;omega
theorem bat_one {md:Nat}{b t u:Tri}(h:md<3)(hb:onT b=true)(ht:onT t=true)(hu:onT u=true):batB md gT b [t] [u]=true:=by
  rw [batB_iff];refine⟨by omega,onT_g,hb,by simp,rfl,?_,?_⟩<;>intro x hx<;>rw [List.mem_singleton.1 hx]<;>assumption
theorem acc_one (md:Nat)(b t u:Tri)(g1 g2 c s:Nat)(w:World)(hT:TabK w)(hmd:md<3)(hb:onT b=true)(ht:onT t=true)(hu:onT u=true)(h1:Cps w g1 [asT t])(h2:Cps w g2 [asT u])(hc:c<2305843010818082053)(hs:s<2305843010818082053):
    Cr 40 #[.agg #[.string (ctxB md),int u64 (px (asT b)),int u64 (py (asT b)),.bool (pb (asT b)),.slice (some ⟨g1,0,none⟩) 1 1,.slice (some ⟨g2,0,none⟩) 1 1],.agg #[int u64 (px gG),int u64 (py gG),.bool (pb gG)],.agg #[int u64 c],.agg #[int u64 s]] w (.bool (chkB md gT b [t] [u] c s)):=by
  have hB:=bat_one hmd hb ht hu;rw [chkB_eq hB hc hs,←asT_g];exact accI_any md 1 g1 1 g2 1 c s (asT gT) (asT b) [asT t] [asT u] w hT hmd (by omega) (by omega) rfl rfl (asT_on _) (asT_on _) (fun p hp=>by rw [List.mem_singleton.1 hp];exact asT_on _) (fun p hp=>by rw [List.mem_singleton.1 hp];exact asT_on _) h1 h2 hc hs (comM md b [t] [u] [t]) (comM md b [t] [u] [u]) rfl rfl (chkC md c s gT b [t] [u]) rfl
theorem rf_0:Rf 0 134 135 136 137 138 139 140:=
  ⟨rul_0,enPA,fun t2 tp a0 a1 a2 a3 w hs=>prv_no (by omega) t2 tp a0 a1 a2 a3 w hs,
    fun info tb t1 te pc ps a0 a1 a2 a3 w hT hs h1 h2 h3 h4 h5=>verI_no _ info _ _ _ pc ps _ _ _ _ _ _ _ w enNC (fun w' g1 g2 hb=>nclI _ info _ w' 1 1 1 1 _ _)⟩
theorem rf_1:Rf 1 134 135 136 137 138 141 140:=
  ⟨rul_1,enPA,fun t2 tp a0 a1 a2 a3 w hs=>prv_no (by omega) t2 tp a0 a1 a2 a3 w hs,
    fun info tb t1 te pc ps a0 a1 a2 a3 w hT hs h1 h2 h3 h4 h5=>verI_yes _ info _ _ _ pc ps _ _ _ _ _ _ _ a0 a1 a2 a3 w enCF _ _ _ hs (fun w' hb=>cfwI _ info _ w' 1 1 1 1 _ _) (fun w' hb p1 p2=>acc_one 1 tb t1 te _ _ pc ps w' (keepT hT (World.block_lt_of_cell? w _ (hT 0 (by omega))) hb) (by omega) h1 h2 h3 p1 p2 h4 h5)⟩
theorem rf_2:Rf 2 142 143 144 145 146 147 148:=
  ⟨rul_2,enTA,fun t2 tp a0 a1 a2 a3 w hs=>prv_two t2 tp a0 a1 a2 a3 w hs,
    fun info tb t1 te pc ps a0 a1 a2 a3 w hT hs h1 h2 h3 h4 h5=>verI_yes _ info _ _ _ pc ps _ _ _ _ _ _ _ a0 a1 a2 a3 w enCB _ _ _ hs (fun w' hb=>cbwI _ info _ w' 1 1 1 1 _ _) (fun w' hb p1 p2=>acc_one 2 tb te t1 _ _ pc ps w' (keepT hT (World.block_lt_of_cell? w _ (hT 0 (by omega))) hb) (by omega) h1 h3 h2 p2 p1 h4 h5)⟩
theorem rf_any (k:Nat)(hk:k<3):∃F0 F1 F2 F3 F4 F5 F6,Rf k F0 F1 F2 F3 F4 F5 F6:=by
  rcases(show k=0∨k=1∨k=2 by omega) with rfl|rfl|rfl
  · exact⟨_,_,_,_,_,_,_,rf_0⟩
  · exact⟨_,_,_,_,_,_,_,rf_1⟩
  · exact⟨_,_,_,_,_,_,_,rf_2⟩
theorem verB_eq {mode:Int}(hm:0≤mode∧mode≤2)(te t1 t2 tp:Tri)(pc ps:Nat):verB mode [te] pc ps t1 t2 tp=verK mode.toNat (prvT mode t2 tp) t1 te pc ps:=by
  unfold verB verK prvT;by_cases h1:mode=1
  · rw [if_pos h1,if_pos (show mode.toNat=1 by omega),if_neg (show ¬ mode=2 by omega)]
  · rw [if_neg h1,if_neg (show ¬ mode.toNat=1 by omega)];by_cases h2:mode=2
    · rw [if_pos h2,if_pos (show mode.toNat=2 by omega),if_pos h2]
    · rw [if_neg h2,if_neg (show ¬ mode.toNat=2 by omega)]
theorem finI_q (mode:Int)(input info:ByteArray)(blind:Nat)(es:List Tri)(pc ps:Nat)(t1 t2 tp:Tri)(q:Option Addr)(cap:Nat)(a0 a1 a2 a3:Addr)(w:World)(hT:TabK w)(hs:Sn w a0 a1 a2 a3)(hp:PtQ w q es):
    Calls prog 21 (finQ mode input info blind es pc ps t1 t2 tp q cap) w fun e w'=>e= .returned (.tuple #[.string (finO mode input info blind es pc ps t1 t2 tp),.int .i64 (finC mode input info blind es pc ps t1 t2 tp)])∧Bl w w':=by
  have hgw:7<w.heap.size:=World.block_lt_of_cell? w _ (hT 0 (by omega));obtain⟨iv,hiv⟩:∃iv,M.ivn 2305843010818082053 blind=iv:=⟨_,rfl⟩;have hivl:iv<2305843010818082053:=by rw [←hiv];exact ivn_lt' _ _ (by decide)
  have IV:blind<2305843010818082053→∀w,Cr 99 #[.agg #[int u64 blind]] w (.agg #[int u64 (iv:Int)]):=fun h w=>by
    rw [←hiv];exact ivN_any blind w h
  have err:∀(cd:Int) (v:Value),finC mode input info blind es pc ps t1 t2 tp=cd→ ¬ cd=0→Er a0 a1 a2 a3 v cd→(∀w',Bl w w'→Calls prog 55 (finQ mode input info blind es pc ps t1 t2 tp q cap) w' fun e w''=>e= .returned (.tuple #[.string ⟨#[]⟩,v])∧Bl w' w'')→
      Calls prog 21 (finQ mode input info blind es pc ps t1 t2 tp q cap) w fun e w'=>e= .returned (.tuple #[.string (finO mode input info blind es pc ps t1 t2 tp),.int .i64 (finC mode input info blind es pc ps t1 t2 tp)])∧Bl w w':=fun cd v h h0 hv hB=>by
    have hO:finO mode input info blind es pc ps t1 t2 tp=⟨#[]⟩:=by unfold finO;rw [h,if_neg h0]
    rw [hO,h];exact fnlI_of mode blind pc ps _ _ _ _ _ _ cd _ _ _ input info ⟨#[]⟩ ⟨#[]⟩ _ es.length cap v w hB (fun w' hb=>ansS_err ⟨#[]⟩ v cd a0 a1 a2 a3 w' (hs.keep hb) hv)
  by_cases hm:0≤mode∧mode≤2
  · obtain ⟨hk, hk'⟩:=md_of hm.1 hm.2;obtain⟨F0,F1,F2,F3,F4,F5,F6,hR⟩:=rf_any mode.toNat hk;have hfind:=hR.rl.find;have hbad:=hR.rl.bad;have hout:=hR.rl.output;have hprv:=hR.proved;have hver:=hR.verify;have e4:=hR.e4;rw [hk'] at hfind hbad hout hprv;have okE:=okI_iff hm (info:=info);have FI:=fun (w1:World) (hb1:Bl w w1) (V:Value) (T:TypeId) (z:Value) (sE:ByteArray)=>fnI_of mode blind pc ps t1.1 t1.2.1 t2.1 t2.2.1 tp.1 tp.2.1 pc ps (iv:Int) t1.2.2 t2.2.2 tp.2.2 input info (ctxB mode.toNat) sE (outB mode input info (nt iv (asT (es.headD gT)))) q es.length cap (asT (es.headD gT)) (asT t1) (asT tp) (asT (prvT mode t2 tp)) (nt iv (asT (es.headD gT))) F0 F1 F2 F3 F4 F5 F6 T z V a0 a1 a2 a3 w1 (hs.keep hb1) e4
    by_cases ho:okI mode.toNat info
    · have hFP:∀{w1:World},Bl w w1→∀w',Bl w1 w'→_:=fun {w1} hb1 w' hb=>hfind info a0 a1 a2 a3 w' ((hs.keep hb1).keep hb) ho
      by_cases hin:input.size≤65535
      · have htx:txtB mode input.size info.size=true:=txtB_iff.2 ⟨hm,hin,(okE.1 ho).1,(okE.1 ho).2⟩;have nr: ¬ rdyB mode blind es pc ps t1 t2 tp=true→finC mode input info blind es pc ps t1 t2 tp=1:=fun h=>if_neg (fun h'=>h h'.2)
        by_cases hkey:keyB blind=true
        · have hFF:∀{w1:World},Bl w w1→∀w',Bl w1 w'→Cr 72 #[int u64 blind] w' (.tuple #[.agg #[int u64 (blind:Int)],.nilIface]):=fun {w1} hb1 w' hb=>by
            have:=facI_any blind a0 a1 a2 a3 w' ((hs.keep hb1).keep hb);rwa [if_pos hkey,if_pos hkey] at this
          have hkl:=(keyB_iff.1 hkey).2;by_cases hev:evB es pc ps=true
          · obtain⟨te,hte,hel,hpc,hps⟩:=evB_one hev;obtain⟨g,hq,hpt⟩:=(show PtQ w q [te] from hte▸hp).one;rw [←hte] at hpt;subst hq;have hEV:∀{w1:World},Bl w w1→∀w',Bl w1 w'→_:=fun {w1} hb1 w' hb=>evlI_yes es pc ps g cap a0 a1 a2 a3 w1 (hs.keep hb1) (hpt.below hb1 hpt.lt) te hte hel hpc hps w' hb
            have hhd:es.headD gT=te:=by rw [hte];rfl
            rw [←hhd] at hEV;by_cases h1:elT t1=true
            · have hE1:∀{w1:World},Bl w w1→∀w',Bl w1 w'→Cr 87 #[.agg #[int u64 (t1.1:Int),int u64 (t1.2.1:Int),.bool t1.2.2]] w' (.tuple #[.agg #[int u64 (px (asT t1)),int u64 (py (asT t1)),.bool (pb (asT t1))],.nilIface]):=fun {w1} hb1 w' hb=>by
                have:=eleI_any t1 a0 a1 a2 a3 w' ((hs.keep hb1).keep hb);rwa [if_pos h1] at this
              by_cases h3:elT tp=true
              · have hE3:∀{w1:World},Bl w w1→∀w',Bl w1 w'→Cr 87 #[.agg #[int u64 (tp.1:Int),int u64 (tp.2.1:Int),.bool tp.2.2]] w' (.tuple #[.agg #[int u64 (px (asT tp)),int u64 (py (asT tp)),.bool (pb (asT tp))],.nilIface]):=fun {w1} hb1 w' hb=>by
                  have:=eleI_any tp a0 a1 a2 a3 w' ((hs.keep hb1).keep hb);rwa [if_pos h3] at this
                by_cases h2:twB mode t2=true
                · have hPV:=fun {w1:World} (hb1:Bl w w1) w' (hb:Bl w1 w')=>hprv t2 tp a0 a1 a2 a3 w' ((hs.keep hb1).keep hb)
                  simp only [h2,if_true] at hPV;have hC:finC mode input info blind es pc ps t1 t2 tp=if verB mode es pc ps t1 t2 tp=true then 0 else 4:=if_pos ⟨htx,rdyB_iff.2 ⟨hkey,h3,hev,h1,h2⟩⟩
                  have hob:onT (prvT mode t2 tp)=true:=by
                    unfold prvT;unfold twB at h2;by_cases h:mode=2
                    · rw [if_pos h] at h2⊢;exact elT_on h2
                    · rw [if_neg h];exact elT_on h3
                  have hVE:=fun {w1:World} (hb1:Bl w w1) w' (hb:Bl w1 w')=>hver info (prvT mode t2 tp) t1 te pc ps a0 a1 a2 a3 w' (keepT hT hgw (hb1.tr hb)) ((hs.keep hb1).keep hb) hob (elT_on h1) (elT_on hel) hpc hps
                  rw [hte,verB_eq hm] at hC;rw [←hhd] at hVE hC;by_cases hv:verK mode.toNat (prvT mode t2 tp) t1 (es.headD gT) pc ps=true
                  · rw [if_pos hv] at hC;simp only [hv,if_true] at hVE;rw [hhd,←hte] at hC;have hO:finO mode input info blind es pc ps t1 t2 tp=outB mode input info (nt iv (asT (es.headD gT))):=by unfold finO;rw [hC,if_pos rfl,hiv]
                    rw [hO,hC];exact fnlI_of mode blind pc ps _ _ _ _ _ _ 0 _ _ _ input info _ _ _ es.length cap .nilIface w (fun w1 hb1=>FI w1 hb1 _ 0 .nilIface ⟨#[]⟩ (.inr ⟨hFP hb1,.inr ⟨hin,.inr ⟨hFF hb1,.inr ⟨hEV hb1,.inr ⟨hE1 hb1,.inr ⟨hE3 hb1,.inr ⟨hPV hb1,.inr ⟨hVE hb1,rfl,IV hkl,fun w'=>cplT (asT_on _) iv hivl w',fun w' hb=>hout input info _ w' (keepT hT hgw (hb1.tr hb)) hin (okE.1 ho).1⟩⟩⟩⟩⟩⟩⟩⟩)) (fun w' hb=>ansS_ok _ w')
                  · rw [if_neg hv] at hC;simp only [hv] at hVE;rw [hhd,←hte] at hC;exact err 4 (flt ⟨#[112,114,111,111,102]⟩ (sen a3)) hC (by decide) (er_ver _) (fun w1 hb1=>FI w1 hb1 _ 0 .nilIface ⟨#[]⟩ (.inr ⟨hFP hb1,.inr ⟨hin,.inr ⟨hFF hb1,.inr ⟨hEV hb1,.inr ⟨hE1 hb1,.inr ⟨hE3 hb1,.inr ⟨hPV hb1,.inl ⟨rfl,hVE hb1⟩⟩⟩⟩⟩⟩⟩⟩))
                · have hPV:=fun {w1:World} (hb1:Bl w w1) w' (hb:Bl w1 w')=>hprv t2 tp a0 a1 a2 a3 w' ((hs.keep hb1).keep hb)
                  simp only [h2] at hPV;exact err 1 (flt ⟨#[116,119,101,97,107,101,100]⟩ (sen a0)) (nr (fun h=>h2 (rdyB_iff.1 h).2.2.2.2)) (by decide) (er_args _) (fun w1 hb1=>FI w1 hb1 _ 0 .nilIface ⟨#[]⟩ (.inr ⟨hFP hb1,.inr ⟨hin,.inr ⟨hFF hb1,.inr ⟨hEV hb1,.inr ⟨hE1 hb1,.inr ⟨hE3 hb1,.inl ⟨rfl,hPV hb1⟩⟩⟩⟩⟩⟩⟩))
              · exact err 1 (flt ⟨#[112,117,98,108,105,99]⟩ (sen a0)) (nr (fun h=>h3 (rdyB_iff.1 h).2.1)) (by decide) (er_args _) (fun w1 hb1=>FI w1 hb1 _ 0 .nilIface ⟨#[]⟩ (.inr ⟨hFP hb1,.inr ⟨hin,.inr ⟨hFF hb1,.inr ⟨hEV hb1,.inr ⟨hE1 hb1,.inl ⟨rfl,fun w' hb=>by
                  have:=eleI_any tp a0 a1 a2 a3 w' ((hs.keep hb1).keep hb)
                  rwa [if_neg h3] at this⟩⟩⟩⟩⟩⟩))
            · exact err 1 (flt ⟨#[98,108,105,110,100,101,100,32,101,108,101,109,101,110,116]⟩ (sen a0)) (nr (fun h=>h1 (rdyB_iff.1 h).2.2.2.1)) (by decide) (er_args _) (fun w1 hb1=>FI w1 hb1 _ 0 .nilIface ⟨#[]⟩ (.inr ⟨hFP hb1,.inr ⟨hin,.inr ⟨hFF hb1,.inr ⟨hEV hb1,.inl ⟨rfl,fun w' hb=>by
                have:=eleI_any t1 a0 a1 a2 a3 w' ((hs.keep hb1).keep hb)
                rwa [if_neg h1] at this⟩⟩⟩⟩⟩))
          · obtain⟨sE,hsE⟩:∃s,∀w',Bl w w'→Cr 97 #[.agg #[.slice q es.length cap,int u64 pc,int u64 ps]] w' (.tuple #[.agg zEvn,flt s (sen a0)]):=by
              rcases hp with rfl|⟨g,rfl,hp⟩
              · exact⟨_,fun w' hb=>evlI_n (pc:Int) (ps:Int) a0 a1 a2 a3 w' (hs.keep hb) q 0 cap rfl⟩
              · exact evlI_no es pc ps g cap a0 a1 a2 a3 w hs hp hev
            exact err 1 (flt ⟨#[101,118,97,108,117,97,116,101,100]⟩ (flt sE (sen a0))) (nr (fun h=>hev (rdyB_iff.1 h).2.2.1)) (by decide) (er_args2 _ _) (fun w1 hb1=>FI w1 hb1 _ 0 .nilIface sE (.inr ⟨hFP hb1,.inr ⟨hin,.inr ⟨hFF hb1,.inl ⟨rfl,fun w' hb=>hsE w' (hb1.tr hb)⟩⟩⟩⟩))
        · exact err 1 (flt ⟨#[98,108,105,110,100]⟩ (sen a0)) (nr (fun h=>hkey (rdyB_iff.1 h).1)) (by decide) (er_args _) (fun w1 hb1=>FI w1 hb1 _ 0 .nilIface ⟨#[]⟩ (.inr ⟨hFP hb1,.inr ⟨hin,.inl ⟨rfl,fun w' hb=>by
            have:=facI_any blind a0 a1 a2 a3 w' ((hs.keep hb1).keep hb)
            rwa [if_neg hkey,if_neg hkey] at this⟩⟩⟩))
      · exact err 1 (flt ⟨#[105,110,112,117,116]⟩ (sen a0)) (if_neg (fun h=>hin (txtB_iff.1 h.1).2.1)) (by decide) (er_args _) (fun w1 hb1=>FI w1 hb1 _ 0 .nilIface ⟨#[]⟩ (.inr ⟨hFP hb1,.inl ⟨rfl,by omega⟩⟩))
    · exact err 1 (flt ⟨#[105,110,102,111]⟩ (sen a0)) (if_neg (fun h=>ho (okE.2 ⟨(txtB_iff.1 h.1).2.2.1,(txtB_iff.1 h.1).2.2.2⟩))) (by decide) (er_args _) (fun w1 hb1=>FI w1 hb1 _ 136 (.agg #[.string ⟨#[105,110,102,111]⟩,sen a0]) ⟨#[]⟩ (.inl ⟨rfl,fun w' hb=>hbad info a0 a1 a2 a3 w' ((hs.keep hb1).keep hb) ho⟩))
  · exact err 1 (flt ⟨#[109,111,100,101]⟩ (sen a0)) (if_neg (fun h=>hm (txtB_iff.1 h.1).1)) (by decide) (er_args _) (fun w1 hb1=>fnI_of mode blind pc ps t1.1 t1.2.1 t2.1 t2.2.1 tp.1 tp.2.1 pc ps 0 t1.2.2 t2.2.2 tp.2.2 input info ⟨#[]⟩ ⟨#[]⟩ ⟨#[]⟩ q es.length cap none none none none none 0 0 0 0 138 0 0 136 (.agg #[.string ⟨#[109,111,100,101]⟩,sen a0]) _ a0 a1 a2 a3 w1 (hs.keep hb1) enPA (.inl ⟨rfl,fun w' hb=>proI_no mode _ info a0 a1 a2 a3 w' ((hs.keep hb1).keep hb) (fun w=>ctxI_no mode w hm)⟩))
end
end Go.Proofs.YtmjniccfjffclaaGreatDoor
