import Derived.Test.YtmjniccfjffclaaGreatDoorMrg23
set_option linter.unusedVariables false
set_option maxRecDepth 100000
set_option maxHeartbeats 16000000
namespace Go.Proofs.YtmjniccfjffclaaGreatDoor
open Go.Proofs.Tryz Go.RowKit
open Go.Value (int)
open Go.IntKind (u64)
namespace M
def mS (u:Fp):Fp:=2305843009213693949*(u*u)
def mT (u:Fp):Fp:=mS u*mS u+mS u
def mX (u:Fp):Fp:=if mT u=0 then 111*fi (2305843009213693949*2305843009213693948) else (2305843009213693840*fi 2305843009213693948)*(1+fi (mT u))
theorem c2:(2305843009213693949:Fp)= -2:=by decide
theorem c3:(2305843009213693948:Fp)= -3:=by decide
theorem c111:(2305843009213693840:Fp)= -111:=by decide
theorem c6:(2305843009213693949*2305843009213693948:Fp)=6:=by decide
theorem six_ne:(6:Fp)≠0:=by decide
theorem mthree_ne:(2305843009213693948:Fp)≠0:=by decide
theorem q31:(2147483648:Fp)*2147483648=2:=by decide
theorem sqn_sq:∀k (x:Fp),sqn k (x*x)=sqn k x*sqn k x
  |0,_=>rfl
  |k+1,x=>by simp only [sqn];exact sqn_sq k (x*x)
theorem sq_or (a:Fp):∃r:Fp,r*r=a∨r*r= -a:=by
  refine⟨sqn 59 a,?_⟩;have h:=sqn61 a;rw [show sqn 61 a=sqn 59 ((a*a)*(a*a)) from rfl,sqn_sq 59,sqn_sq 59] at h;generalize sqn 59 a=r at*;have:(r*r-a)*(r*r+a)=0:=by grobner
  rcases noz this with e|e
  · exact Or.inl (by grobner)
  · exact Or.inr (by grobner)
theorem mX_zero (u:Fp)(h:mT u=0):mX u=1152921504606846994:=by
  rw [mX,if_pos h,c6];have:=fi_mul six_ne;generalize fi 6=f at*
  grobner
theorem mX_eq (u:Fp)(h:mT u≠0):crv (mS u*mX u)=mS u*mS u*mS u*crv (mX u):=by
  rw [mX,if_neg h];have h1:=fi_mul mthree_ne;have h2:=fi_mul h;unfold crv;generalize fi 2305843009213693948=g at*;rw [c3] at h1;rw [c111];unfold mT at h2⊢;generalize mS u=s at*;generalize fi (s*s+s)=f at*;clear h
  grobner
theorem has_one (u:Fp):(∃y:Fp,y*y=crv (mX u))∨∃y:Fp,y*y=crv (mS u*mX u):=by
  by_cases h:mT u=0
  · refine Or.inl ⟨301486360056512641,?_⟩;rw [mX_zero u h];decide+kernel
  · obtain⟨r,hr|hr⟩:=sq_or (crv (mX u))
    · exact Or.inl ⟨r,hr⟩
    · refine Or.inr ⟨2147483648*(2*(u*u*u))*r,?_⟩;rw [mX_eq u h];unfold mS;rw [c2];have:=q31;generalize crv (mX u)=c at*;generalize (2147483648:Fp)=q at*
      grobner
end M
section
open M
theorem cf_negative (args:Array Value)(w:World):(callFunc 152 args).run prog w= .ok (.enter 152 args) w:=by kernel_rfl
theorem K3.oth {W:World}{t:TypeId}{b b':Nat}{x y:Int}{c:Bool}(h:K3 W t b x y c)(hne:b≠b')(i:Nat)(v:Value):K3 (W.setCell ⟨b',i,none⟩ v) t b x y c:=by
  unfold K3 at*;rw [setCell_heap3 _ _ _ _ _ hne];exact h
theorem cf_inverse (args:Array Value)(w:World):(callFunc 121 args).run prog w= .ok (.enter 121 args) w:=by kernel_rfl
theorem mapA_of (U a0 a b z s0 s s2 t i1 o1 p1 nb m1 ia x g1 y1 x2 g2 y2 n1 n2:Int)(fd fd2 od:Bool)(w:World)
    (K_a0:CalN 113 #[int u64 3,.agg #[]] a0)
    (K_a:CalN 152 #[.agg #[int u64 a0]] a)
    (K_b:CalN 113 #[int u64 111,.agg #[]] b)
    (K_z:CalN 113 #[int u64 2305843009213693949,.agg #[]] z)
    (K_s0:CalN 79 #[.agg #[int u64 z],.agg #[int u64 U]] s0)
    (K_s:CalN 79 #[.agg #[int u64 s0],.agg #[int u64 U]] s)
    (K_s2:CalN 79 #[.agg #[int u64 s],.agg #[int u64 s]] s2)
    (K_t:CalN 114 #[.agg #[int u64 s2],.agg #[int u64 s]] t)
    (K_i1:CalN 121 #[.agg #[int u64 t]] i1)
    (K_o1:CalN 113 #[int u64 1,.agg #[]] o1)
    (K_p1:CalN 114 #[.agg #[int u64 i1],.agg #[int u64 o1]] p1)
    (K_nb:CalN 152 #[.agg #[int u64 b]] nb)
    (K_m1:CalN 79 #[.agg #[int u64 p1],.agg #[int u64 nb]] m1)
    (K_ia:CalN 121 #[.agg #[int u64 a]] ia)
    (K_x:CalN 79 #[.agg #[int u64 m1],.agg #[int u64 ia]] x)
    (ht:(t==0)=false)(hU:0≤U)(ho:(U%2==1)=od)
    (C1:CalN 80 #[.agg #[int u64 x]] g1)
    (E1:∀w:World,Cr 180 #[.agg #[int u64 g1]] w (.tuple #[.agg #[int u64 y1],.bool fd]))
    (K_x2:CalN 79 #[.agg #[int u64 s],.agg #[int u64 x]] x2)
    (C2:CalN 80 #[.agg #[int u64 x2]] g2)
    (E2:∀w:World,Cr 180 #[.agg #[int u64 g2]] w (.tuple #[.agg #[int u64 y2],.bool fd2]))
    (N1:CalN 152 #[.agg #[int u64 y1]] n1)(N2:CalN 152 #[.agg #[int u64 y2]] n2):
    Cr 161 #[.agg #[int u64 U]] w (.agg #[int u64 (if fd then x else x2),int u64 (if od then (if fd then n1 else n2) else (if fd then y1 else y2)),.bool false]):=by
  obtain⟨X,hX⟩:∃X,X=((w.alloc (Obj.cells #[int u64 U] 146)).alloc (Obj.cells #[int u64 0,int u64 0,.bool false] 75)).alloc (Obj.cells #[] 144):=⟨_,rfl⟩;have hu:R1 X w.heap.size U:=by rw [hX];exact((R1.new w U).alloc _).alloc _
  have hk:K3 X 75 (w.heap.size+1) 0 0 false:=by rw [hX];exact((K3.new _ _ 0 0 false).at (by simp)).alloc _
  have hb:Bl w X:=by rw [hX];exact(((Below.refl _ w).alloc (Nat.le_refl _) _).alloc (by simp) _).alloc (by simp;omega) _
  rw [hX] at hu hk hb;clear hX;go_enter func161,ntmps161;go_wp2;refine wp_scope_hops 3 ?_;go_wp2
  refine pool_list [.val (.agg #[]),
    .val (.agg #[int u64 a0]),
    .val (.agg #[int u64 a]),
    .val (.agg #[]),
    .val (.agg #[int u64 b]),
    .val (.agg #[]),
    .val (.agg #[int u64 z]),
    .new (.cells #[int u64 0] 146) (.cells #[int u64 a] 146) 10,
    .new (.cells #[int u64 0] 146) (.cells #[int u64 b] 146) 11,
    .new (.cells #[int u64 0] 146) (.cells #[int u64 z] 146) 12,
    .put 7,
    .put 8,
    .put 9] [[3],[13],[14],[3],[16],[3],[18],[],[],[],[4,15],[5,17],[6,19]] (fun f=> [(some 13,.agg #[]),(some 14,.agg #[int u64 a0]),(some 15,.agg #[int u64 a]),(some 16,.agg #[]),(some 17,.agg #[int u64 b]),(some 18,.agg #[]),(some 19,.agg #[int u64 z]),(some 4,.pointer (some ⟨f 7,0,none⟩)),(some 5,.pointer (some ⟨f 8,0,none⟩)),(some 6,.pointer (some ⟨f 9,0,none⟩)),(none,undef),(none,undef),(none,undef)]) (by kernel_rfl) (by kernel_rfl) (by kernel_rfl) (by kernel_rfl) (fun _=>by kernel_rfl) ?_ ?_
  · intro ix hix
    match ix,hix with
    |0,_=>exact obv [(3,.pointer (some ⟨w.heap.size+1+1,0,none⟩))] rfl rfl (fun A w ⟨e0,_⟩ hB=>do_load0 e0)
    |1,_=>exact obv [(13,.agg #[])] rfl rfl (fun A w ⟨e0,_⟩ hB=>do_call2 cf_reduced rfl e0 (K_a0 w))
    |2,_=>exact obv [(14,.agg #[int u64 a0])] rfl rfl (fun A w ⟨e0,_⟩ hB=>do_call1 cf_negative e0 (K_a w))
    |3,_=>exact obv [(3,.pointer (some ⟨w.heap.size+1+1,0,none⟩))] rfl rfl (fun A w ⟨e0,_⟩ hB=>do_load0 e0)
    |4,_=>exact obv [(16,.agg #[])] rfl rfl (fun A w ⟨e0,_⟩ hB=>do_call2 cf_reduced rfl e0 (K_b w))
    |5,_=>exact obv [(3,.pointer (some ⟨w.heap.size+1+1,0,none⟩))] rfl rfl (fun A w ⟨e0,_⟩ hB=>do_load0 e0)
    |6,_=>exact obv [(18,.agg #[])] rfl rfl (fun A w ⟨e0,_⟩ hB=>do_call2 cf_reduced rfl e0 (K_z w))
    |7,_=>exact ob_new rfl rfl (fun A w=>do_new)
    |8,_=>exact ob_new rfl rfl (fun A w=>do_new)
    |9,_=>exact ob_new rfl rfl (fun A w=>do_new)
    |10,_=>exact ob_put 4 (fun f=> [(4,.pointer (some ⟨f 7,0,none⟩)),(15,.agg #[int u64 a])]) rfl rfl rfl (by decide) (by kernel_rfl) rfl (fun _=>by kernel_rfl) (fun f A w ⟨e0,e1,_⟩ hr=>do_put e0 e1 hr)
    |11,_=>exact ob_put 5 (fun f=> [(5,.pointer (some ⟨f 8,0,none⟩)),(17,.agg #[int u64 b])]) rfl rfl rfl (by decide) (by kernel_rfl) rfl (fun _=>by kernel_rfl) (fun f A w ⟨e0,e1,_⟩ hr=>do_put e0 e1 hr)
    |12,_=>exact ob_put 6 (fun f=> [(6,.pointer (some ⟨f 9,0,none⟩)),(19,.agg #[int u64 z])]) rfl rfl rfl (by decide) (by kernel_rfl) rfl (fun _=>by kernel_rfl) (fun f A w ⟨e0,e1,_⟩ hr=>do_put e0 e1 hr)
    |ix+13,h=>exact absurd h (by simp)
  intro f w2 hB hN hne;have n4:=(hN 7 _ _ _ rfl (by simp)).2;rw [if_pos (by simp)] at n4;have n5:=(hN 8 _ _ _ rfl (by simp)).2;rw [if_pos (by simp)] at n5;have n6:=(hN 9 _ _ _ rfl (by simp)).2;rw [if_pos (by simp)] at n6;replace hu:=(hu.drew).keep hB;replace hk:=(hk.drew).keep hB;replace hb:=keepB hb.drew hb.size hB;clear hN hB hne;generalize f 7=q4 at*;replace n4:R1 w2 q4 a:=n4;generalize f 8=q5 at*;replace n5:R1 w2 q5 b:=n5;generalize f 9=q6 at*;replace n6:R1 w2 q6 z:=n6;simp only [puts,List.foldl,Act.put,List.setIfInBounds_toArray,List.set_cons_zero,List.set_cons_succ];go_wp2
  refine pool_list [.val (.agg #[int u64 z]),
    .val (.agg #[int u64 U]),
    .val (.agg #[int u64 s0]),
    .val (.agg #[int u64 U]),
    .val (.agg #[int u64 s]),
    .new (.cells #[int u64 0] 146) (.cells #[int u64 s] 146) 6,
    .put 5] [[6],[1],[20,21],[1],[22,23],[],[7,24]] (fun f=> [(some 20,.agg #[int u64 z]),(some 21,.agg #[int u64 U]),(some 22,.agg #[int u64 s0]),(some 23,.agg #[int u64 U]),(some 24,.agg #[int u64 s]),(some 7,.pointer (some ⟨f 5,0,none⟩)),(none,undef)]) (by kernel_rfl) (by kernel_rfl) (by kernel_rfl) (by kernel_rfl) (fun _=>by kernel_rfl) ?_ ?_
  · intro ix hix
    match ix,hix with
    |0,_=>exact obv [(6,.pointer (some ⟨q6,0,none⟩))] rfl rfl (fun A w ⟨e0,_⟩ hB=>do_loadN e0 n6.drew hB)
    |1,_=>exact obv [(1,.pointer (some ⟨w.heap.size,0,none⟩))] rfl rfl (fun A w ⟨e0,_⟩ hB=>do_loadN e0 hu.drew hB)
    |2,_=>exact obv [(20,.agg #[int u64 z]),(21,.agg #[int u64 U])] rfl rfl (fun A w ⟨e0,e1,_⟩ hB=>do_call2 cf_times e0 e1 (K_s0 w))
    |3,_=>exact obv [(1,.pointer (some ⟨w.heap.size,0,none⟩))] rfl rfl (fun A w ⟨e0,_⟩ hB=>do_loadN e0 hu.drew hB)
    |4,_=>exact obv [(22,.agg #[int u64 s0]),(23,.agg #[int u64 U])] rfl rfl (fun A w ⟨e0,e1,_⟩ hB=>do_call2 cf_times e0 e1 (K_s w))
    |5,_=>exact ob_new rfl rfl (fun A w=>do_new)
    |6,_=>exact ob_put 7 (fun f=> [(7,.pointer (some ⟨f 5,0,none⟩)),(24,.agg #[int u64 s])]) rfl rfl rfl (by decide) (by kernel_rfl) rfl (fun _=>by kernel_rfl) (fun f A w ⟨e0,e1,_⟩ hr=>do_put e0 e1 hr)
    |ix+7,h=>exact absurd h (by simp)
  intro f w3 hB hN hne;have n7:=(hN 5 _ _ _ rfl (by simp)).2;rw [if_pos (by simp)] at n7;replace hu:=(hu.drew).keep hB;replace hk:=(hk.drew).keep hB;replace n4:=(n4.drew).keep hB;replace n5:=(n5.drew).keep hB;replace n6:=(n6.drew).keep hB;replace hb:=keepB hb.drew hb.size hB;clear hN hB hne;generalize f 5=q7 at*;replace n7:R1 w3 q7 s:=n7;simp only [puts,List.foldl,Act.put,List.setIfInBounds_toArray,List.set_cons_zero,List.set_cons_succ];go_wp2
  refine pool_list [.val (.agg #[int u64 s]),
    .val (.agg #[int u64 s]),
    .val (.agg #[int u64 s2]),
    .val (.agg #[int u64 s]),
    .val (.agg #[int u64 t]),
    .new (.cells #[int u64 0] 146) (.cells #[int u64 t] 146) 6,
    .put 5] [[7],[7],[25,26],[7],[27,28],[],[8,29]] (fun f=> [(some 25,.agg #[int u64 s]),(some 26,.agg #[int u64 s]),(some 27,.agg #[int u64 s2]),(some 28,.agg #[int u64 s]),(some 29,.agg #[int u64 t]),(some 8,.pointer (some ⟨f 5,0,none⟩)),(none,undef)]) (by kernel_rfl) (by kernel_rfl) (by kernel_rfl) (by kernel_rfl) (fun _=>by kernel_rfl) ?_ ?_
  · intro ix hix
    match ix,hix with
    |0,_=>exact obv [(7,.pointer (some ⟨q7,0,none⟩))] rfl rfl (fun A w ⟨e0,_⟩ hB=>do_loadN e0 n7.drew hB)
    |1,_=>exact obv [(7,.pointer (some ⟨q7,0,none⟩))] rfl rfl (fun A w ⟨e0,_⟩ hB=>do_loadN e0 n7.drew hB)
    |2,_=>exact obv [(25,.agg #[int u64 s]),(26,.agg #[int u64 s])] rfl rfl (fun A w ⟨e0,e1,_⟩ hB=>do_call2 cf_times e0 e1 (K_s2 w))
    |3,_=>exact obv [(7,.pointer (some ⟨q7,0,none⟩))] rfl rfl (fun A w ⟨e0,_⟩ hB=>do_loadN e0 n7.drew hB)
    |4,_=>exact obv [(27,.agg #[int u64 s2]),(28,.agg #[int u64 s])] rfl rfl (fun A w ⟨e0,e1,_⟩ hB=>do_call2 cf_plus e0 e1 (K_t w))
    |5,_=>exact ob_new rfl rfl (fun A w=>do_new)
    |6,_=>exact ob_put 8 (fun f=> [(8,.pointer (some ⟨f 5,0,none⟩)),(29,.agg #[int u64 t])]) rfl rfl rfl (by decide) (by kernel_rfl) rfl (fun _=>by kernel_rfl) (fun f A w ⟨e0,e1,_⟩ hr=>do_put e0 e1 hr)
    |ix+7,h=>exact absurd h (by simp)
  intro f w4 hB hN hne;have n8:=(hN 5 _ _ _ rfl (by simp)).2;rw [if_pos (by simp)] at n8;replace hu:=(hu.drew).keep hB;replace hk:=(hk.drew).keep hB;replace n4:=(n4.drew).keep hB;replace n5:=(n5.drew).keep hB;replace n6:=(n6.drew).keep hB;replace n7:=(n7.drew).keep hB;replace hb:=keepB hb.drew hb.size hB;clear hN hB hne;generalize f 5=q8 at*;replace n8:R1 w4 q8 t:=n8;simp only [puts,List.foldl,Act.put,List.setIfInBounds_toArray,List.set_cons_zero,List.set_cons_succ];have c8:=n8.cell;have l2:=hk.lt;have l7:=n7.lt;obtain⟨Y,hY⟩:∃Y,Y=(w4.alloc (Obj.cells #[int u64 0] 146)).alloc (Obj.cells #[int u64 0] 146):=⟨_,rfl⟩;replace hu:=(hu.alloc (Obj.cells #[int u64 0] 146)).alloc (Obj.cells #[int u64 0] 146);replace hk:=(hk.alloc (Obj.cells #[int u64 0] 146)).alloc (Obj.cells #[int u64 0] 146);replace n4:=(n4.alloc (Obj.cells #[int u64 0] 146)).alloc (Obj.cells #[int u64 0] 146);replace n5:=(n5.alloc (Obj.cells #[int u64 0] 146)).alloc (Obj.cells #[int u64 0] 146);replace n6:=(n6.alloc (Obj.cells #[int u64 0] 146)).alloc (Obj.cells #[int u64 0] 146);replace n7:=(n7.alloc (Obj.cells #[int u64 0] 146)).alloc (Obj.cells #[int u64 0] 146);replace n8:=(n8.alloc (Obj.cells #[int u64 0] 146)).alloc (Obj.cells #[int u64 0] 146);have n9:R1 Y w4.heap.size 0:=by rw [hY];exact(R1.new w4 0).alloc _
  have n10:R1 Y (w4.heap.size+1) 0:=by rw [hY];exact(R1.new _ 0).at (by simp)
  rw [hY] at n9 n10;clear hY;replace hb:=(hb.alloc hb.size (Obj.cells #[int u64 0] 146)).alloc (by have:=hb.size;simp;omega) (Obj.cells #[int u64 0] 146);have c8':=n8.cell;go_wp2
  refine pool_tail [.val (.agg #[int u64 t]),
    .val (.agg #[int u64 i1]),
    .val (.agg #[]),
    .val (.agg #[int u64 o1]),
    .val (.agg #[int u64 p1]),
    .val (.agg #[int u64 b]),
    .val (.agg #[int u64 nb]),
    .val (.agg #[int u64 m1]),
    .val (.agg #[int u64 a]),
    .val (.agg #[int u64 ia]),
    .val (.agg #[int u64 x]),
    .val undef] [[8],[33],[3],[35],[34,36],[5],[38],[37,39],[4],[41],[40,42],[9,43]] (fun f=> [(some 33,.agg #[int u64 t]),(some 34,.agg #[int u64 i1]),(some 35,.agg #[]),(some 36,.agg #[int u64 o1]),(some 37,.agg #[int u64 p1]),(some 38,.agg #[int u64 b]),(some 39,.agg #[int u64 nb]),(some 40,.agg #[int u64 m1]),(some 41,.agg #[int u64 a]),(some 42,.agg #[int u64 ia]),(some 43,.agg #[int u64 x])]) (fun f=> [(9,.pointer (some ⟨w4.heap.size,0,none⟩)),(43,.agg #[int u64 x])]) (by kernel_rfl) (by kernel_rfl) (by kernel_rfl) (by kernel_rfl) (by kernel_rfl) (fun _=>by kernel_rfl) ?_ rfl (fun _=>by kernel_rfl) ?_
  · intro ix hix
    match ix,hix with
    |0,_=>exact obv [(8,.pointer (some ⟨q8,0,none⟩))] rfl rfl (fun A w ⟨e0,_⟩ hB=>do_loadN e0 n8.drew hB)
    |1,_=>exact obv [(33,.agg #[int u64 t])] rfl rfl (fun A w ⟨e0,_⟩ hB=>do_call1 cf_inverse e0 (K_i1 w))
    |2,_=>exact obv [(3,.pointer (some ⟨w.heap.size+1+1,0,none⟩))] rfl rfl (fun A w ⟨e0,_⟩ hB=>do_load0 e0)
    |3,_=>exact obv [(35,.agg #[])] rfl rfl (fun A w ⟨e0,_⟩ hB=>do_call2 cf_reduced rfl e0 (K_o1 w))
    |4,_=>exact obv [(34,.agg #[int u64 i1]),(36,.agg #[int u64 o1])] rfl rfl (fun A w ⟨e0,e1,_⟩ hB=>do_call2 cf_plus e0 e1 (K_p1 w))
    |5,_=>exact obv [(5,.pointer (some ⟨q5,0,none⟩))] rfl rfl (fun A w ⟨e0,_⟩ hB=>do_loadN e0 n5.drew hB)
    |6,_=>exact obv [(38,.agg #[int u64 b])] rfl rfl (fun A w ⟨e0,_⟩ hB=>do_call1 cf_negative e0 (K_nb w))
    |7,_=>exact obv [(37,.agg #[int u64 p1]),(39,.agg #[int u64 nb])] rfl rfl (fun A w ⟨e0,e1,_⟩ hB=>do_call2 cf_times e0 e1 (K_m1 w))
    |8,_=>exact obv [(4,.pointer (some ⟨q4,0,none⟩))] rfl rfl (fun A w ⟨e0,_⟩ hB=>do_loadN e0 n4.drew hB)
    |9,_=>exact obv [(41,.agg #[int u64 a])] rfl rfl (fun A w ⟨e0,_⟩ hB=>do_call1 cf_inverse e0 (K_ia w))
    |10,_=>exact obv [(40,.agg #[int u64 m1]),(42,.agg #[int u64 ia])] rfl rfl (fun A w ⟨e0,e1,_⟩ hB=>do_call2 cf_times e0 e1 (K_x w))
    |ix+11,h=>exact absurd h (by simp)
  rintro f A w8 ⟨e0,e1,_⟩ hB _;replace hu:=(hu.drew).keep hB;replace hk:=(hk.drew).keep hB;replace n4:=(n4.drew).keep hB;replace n5:=(n5.drew).keep hB;replace n6:=(n6.drew).keep hB;replace n7:=(n7.drew).keep hB;replace n8:=(n8.drew).keep hB;replace n9:=(n9.drew).keep hB;replace n10:=(n10.drew).keep hB;replace hb:=keepB hb.drew hb.size hB;refine does_skip (exec_store e0 e1 n9) ?_;clear e0 e1 hB;have hu9:=hu.other (b':=w4.heap.size) (by omega) 0 (int u64 x);have hk9:=hk.oth (b':=w4.heap.size) (by omega) 0 (int u64 x);have n79:=n7.other (b':=w4.heap.size) (by omega) 0 (int u64 x);have n99:=n9.set x;have n109:=n10.other (b':=w4.heap.size) (by omega) 0 (int u64 x);have hb9:=hb.setCell (p:=⟨w4.heap.size,0,none⟩) (by simp;omega) (int u64 x);generalize hW9:w8.setCell (⟨w4.heap.size,0,none⟩:Addr) (int u64 x)=W9 at*;clear hW9 n9 n10 n7 hu hk hb n4 n5 n6 n8 c8 c8';generalize w4.heap.size=q9 at*;simp only [puts,List.foldl,Act.put,List.setIfInBounds_toArray,List.set_cons_zero,List.set_cons_succ];have c9:=n99.cell;go_wp2
  go_step3
  refine hops_goto rfl ?_;go_wp2_with fail;refine(C1 _).mono ?_;rintro e w10 ⟨rfl,b10⟩;clear c9;replace hu9:=hu9.keep b10;replace hk9:=hk9.keep b10;replace n79:=n79.keep b10;replace n99:=n99.keep b10;replace n109:=n109.keep b10;replace hb9:=keepB hb9 hb9.size b10;clear b10;go_wp2_with fail;refine(E1 _).mono ?_;rintro e w11 ⟨rfl,b11⟩;replace hu9:=hu9.keep b11;replace hk9:=hk9.keep b11;replace n79:=n79.keep b11;replace n99:=n99.keep b11;replace n109:=n109.keep b11;replace hb9:=keepB hb9 hb9.size b11;clear b11;have g10:=n109.cell;have h10:=n109.frz;have ho':(U.tmod 2==1)=od:=by rw [←ho,Int.tmod_eq_emod_of_nonneg hU]
  have hu10:=hu9.other (b':=q9+1) (by omega) 0 (int u64 y1);have hk10:=hk9.oth (b':=q9+1) (by omega) 0 (int u64 y1);have n710:=n79.other (b':=q9+1) (by omega) 0 (int u64 y1);have n910:=n99.other (b':=q9+1) (by omega) 0 (int u64 y1);have n1010:=n109.set y1;have hb10:=hb9.setCell (p:=⟨q9+1,0,none⟩) (by simp;omega) (int u64 y1);clear hu9 hk9 n79 n99 n109 hb9;have cu:=hu10.cell;have c7:=n710.cell;have c9:=n910.cell;have f9:=n910.frz;have c10':=n1010.cell;have f10':=n1010.frz;have k0:=hk10.c0;have k1:=hk10.c1;have k2:=hk10.c2;have kf:=hk10.frz;have c10:=c10';have f10:=f10';clear c10' f10'
  cases fd with
  | true=>
    go_wp2
    go_step3
    refine hops_goto rfl ?_
    cases od with
    | true=>
      go_wp2_with fail;refine(N1 _).mono ?_;rintro e w20 ⟨rfl,b20⟩;clear cu c7 c9 f9 c10 f10 k0 k1 k2 kf;replace hu10:=hu10.keep b20;replace hk10:=hk10.keep b20;replace n710:=n710.keep b20;replace n910:=n910.keep b20;replace n1010:=n1010.keep b20;replace hb10:=keepB hb10 hb10.size b20;clear b20;have g10:=n1010.cell;have h10:=n1010.frz;replace hu10:=hu10.other (b':=q9+1) (by omega) 0 (int u64 n1);replace hk10:=hk10.oth (b':=q9+1) (by omega) 0 (int u64 n1);replace n710:=n710.other (b':=q9+1) (by omega) 0 (int u64 n1);replace n910:=n910.other (b':=q9+1) (by omega) 0 (int u64 n1);replace n1010:=n1010.set n1;replace hb10:=hb10.setCell (p:=⟨q9+1,0,none⟩) (by simp;omega) (int u64 n1);have cu:=hu10.cell;have c7:=n710.cell;have c9:=n910.cell;have f9:=n910.frz;have c10:=n1010.cell;have f10:=n1010.frz;have k0:=hk10.c0;have k1:=hk10.c1;have k2:=hk10.c2;have kf:=hk10.frz;go_wp2
      first|rw [hops_ret]|skip
      exact bodyPost_ret (v:= .agg #[int u64 x,int u64 n1,.bool false]) (cp_res (fn:=Tryz.f161) (p:=2) results161 _ rfl (hk10.set x n1 false)) rfl ⟨rfl,set3_below hb10 (by omega)⟩
    | false=>
      go_wp2
      first|rw [hops_ret]|skip
      exact bodyPost_ret (v:= .agg #[int u64 x,int u64 y1,.bool false]) (cp_res (fn:=Tryz.f161) (p:=2) results161 _ rfl (hk10.set x y1 false)) rfl ⟨rfl,set3_below hb10 (by omega)⟩
  | false=>
    go_wp2_with fail;refine(K_x2 _).mono ?_;rintro e w12 ⟨rfl,b12⟩;clear cu c7 c9 f9 c10 f10 k0 k1 k2 kf;replace hu10:=hu10.keep b12;replace hk10:=hk10.keep b12;replace n710:=n710.keep b12;replace n910:=n910.keep b12;replace n1010:=n1010.keep b12;replace hb10:=keepB hb10 hb10.size b12;clear b12;have g9:=n910.cell;have h9:=n910.frz;replace hu10:=hu10.other (b':=q9) (by omega) 0 (int u64 x2);replace hk10:=hk10.oth (b':=q9) (by omega) 0 (int u64 x2);replace n710:=n710.other (b':=q9) (by omega) 0 (int u64 x2);replace n910:=n910.set x2;replace n1010:=n1010.other (b':=q9) (by omega) 0 (int u64 x2);replace hb10:=hb10.setCell (p:=⟨q9,0,none⟩) (by simp;omega) (int u64 x2);have c9:=n910.cell;go_wp2_with fail;refine(C2 _).mono ?_;rintro e w13 ⟨rfl,b13⟩;clear c9 g9 h9;replace hu10:=hu10.keep b13;replace hk10:=hk10.keep b13;replace n710:=n710.keep b13;replace n910:=n910.keep b13;replace n1010:=n1010.keep b13;replace hb10:=keepB hb10 hb10.size b13;clear b13;go_wp2_with fail;refine(E2 _).mono ?_;rintro e w14 ⟨rfl,b14⟩;replace hu10:=hu10.keep b14;replace hk10:=hk10.keep b14;replace n710:=n710.keep b14;replace n910:=n910.keep b14;replace n1010:=n1010.keep b14;replace hb10:=keepB hb10 hb10.size b14;clear b14;have g10:=n1010.cell;have h10:=n1010.frz;replace hu10:=hu10.other (b':=q9+1) (by omega) 0 (int u64 y2);replace hk10:=hk10.oth (b':=q9+1) (by omega) 0 (int u64 y2);replace n710:=n710.other (b':=q9+1) (by omega) 0 (int u64 y2);replace n910:=n910.other (b':=q9+1) (by omega) 0 (int u64 y2);replace n1010:=n1010.set y2;replace hb10:=hb10.setCell (p:=⟨q9+1,0,none⟩) (by simp;omega) (int u64 y2);have cu:=hu10.cell;have c7:=n710.cell;have c9:=n910.cell;have f9:=n910.frz;have c10:=n1010.cell;have f10:=n1010.frz;have k0:=hk10.c0;have k1:=hk10.c1;have k2:=hk10.c2;have kf:=hk10.frz;go_wp2
    go_step3
    cases od with
    | true=>
      go_wp2_with fail;refine(N2 _).mono ?_;rintro e w20 ⟨rfl,b20⟩;clear cu c7 c9 f9 c10 f10 k0 k1 k2 kf;replace hu10:=hu10.keep b20;replace hk10:=hk10.keep b20;replace n710:=n710.keep b20;replace n910:=n910.keep b20;replace n1010:=n1010.keep b20;replace hb10:=keepB hb10 hb10.size b20;clear b20;have g10:=n1010.cell;have h10:=n1010.frz;replace hu10:=hu10.other (b':=q9+1) (by omega) 0 (int u64 n2);replace hk10:=hk10.oth (b':=q9+1) (by omega) 0 (int u64 n2);replace n710:=n710.other (b':=q9+1) (by omega) 0 (int u64 n2);replace n910:=n910.other (b':=q9+1) (by omega) 0 (int u64 n2);replace n1010:=n1010.set n2;replace hb10:=hb10.setCell (p:=⟨q9+1,0,none⟩) (by simp;omega) (int u64 n2);have cu:=hu10.cell;have c7:=n710.cell;have c9:=n910.cell;have f9:=n910.frz;have c10:=n1010.cell;have f10:=n1010.frz;have k0:=hk10.c0;have k1:=hk10.c1;have k2:=hk10.c2;have kf:=hk10.frz;go_wp2
      first|rw [hops_ret]|skip
      exact bodyPost_ret (v:= .agg #[int u64 x2,int u64 n2,.bool false]) (cp_res (fn:=Tryz.f161) (p:=2) results161 _ rfl (hk10.set x2 n2 false)) rfl ⟨rfl,set3_below hb10 (by omega)⟩
    | false=>
      go_wp2
      first|rw [hops_ret]|skip
      exact bodyPost_ret (v:= .agg #[int u64 x2,int u64 y2,.bool false]) (cp_res (fn:=Tryz.f161) (p:=2) results161 _ rfl (hk10.set x2 y2 false)) rfl ⟨rfl,set3_below hb10 (by omega)⟩
theorem mapB_of (U a0 a b z s0 s s2 t za iz x g1 y1 x2 g2 y2 n1 n2:Int)(fd fd2 od:Bool)(w:World)
    (K_a0:CalN 113 #[int u64 3,.agg #[]] a0)
    (K_a:CalN 152 #[.agg #[int u64 a0]] a)
    (K_b:CalN 113 #[int u64 111,.agg #[]] b)
    (K_z:CalN 113 #[int u64 2305843009213693949,.agg #[]] z)
    (K_s0:CalN 79 #[.agg #[int u64 z],.agg #[int u64 U]] s0)
    (K_s:CalN 79 #[.agg #[int u64 s0],.agg #[int u64 U]] s)
    (K_s2:CalN 79 #[.agg #[int u64 s],.agg #[int u64 s]] s2)
    (K_t:CalN 114 #[.agg #[int u64 s2],.agg #[int u64 s]] t)
    (K_za:CalN 79 #[.agg #[int u64 z],.agg #[int u64 a]] za)
    (K_iz:CalN 121 #[.agg #[int u64 za]] iz)
    (K_x:CalN 79 #[.agg #[int u64 b],.agg #[int u64 iz]] x)
    (ht:(t==0)=true)(hU:0≤U)(ho:(U%2==1)=od)
    (C1:CalN 80 #[.agg #[int u64 x]] g1)
    (E1:∀w:World,Cr 180 #[.agg #[int u64 g1]] w (.tuple #[.agg #[int u64 y1],.bool fd]))
    (K_x2:CalN 79 #[.agg #[int u64 s],.agg #[int u64 x]] x2)
    (C2:CalN 80 #[.agg #[int u64 x2]] g2)
    (E2:∀w:World,Cr 180 #[.agg #[int u64 g2]] w (.tuple #[.agg #[int u64 y2],.bool fd2]))
    (N1:CalN 152 #[.agg #[int u64 y1]] n1)(N2:CalN 152 #[.agg #[int u64 y2]] n2):
    Cr 161 #[.agg #[int u64 U]] w (.agg #[int u64 (if fd then x else x2),int u64 (if od then (if fd then n1 else n2) else (if fd then y1 else y2)),.bool false]):=by
  obtain⟨X,hX⟩:∃X,X=((w.alloc (Obj.cells #[int u64 U] 146)).alloc (Obj.cells #[int u64 0,int u64 0,.bool false] 75)).alloc (Obj.cells #[] 144):=⟨_,rfl⟩;have hu:R1 X w.heap.size U:=by rw [hX];exact((R1.new w U).alloc _).alloc _
  have hk:K3 X 75 (w.heap.size+1) 0 0 false:=by rw [hX];exact((K3.new _ _ 0 0 false).at (by simp)).alloc _
  have hb:Bl w X:=by rw [hX];exact(((Below.refl _ w).alloc (Nat.le_refl _) _).alloc (by simp) _).alloc (by simp;omega) _
  rw [hX] at hu hk hb;clear hX;go_enter func161,ntmps161;go_wp2;refine wp_scope_hops 3 ?_;go_wp2
  refine pool_list [.val (.agg #[]),
    .val (.agg #[int u64 a0]),
    .val (.agg #[int u64 a]),
    .val (.agg #[]),
    .val (.agg #[int u64 b]),
    .val (.agg #[]),
    .val (.agg #[int u64 z]),
    .new (.cells #[int u64 0] 146) (.cells #[int u64 a] 146) 10,
    .new (.cells #[int u64 0] 146) (.cells #[int u64 b] 146) 11,
    .new (.cells #[int u64 0] 146) (.cells #[int u64 z] 146) 12,
    .put 7,
    .put 8,
    .put 9] [[3],[13],[14],[3],[16],[3],[18],[],[],[],[4,15],[5,17],[6,19]] (fun f=> [(some 13,.agg #[]),(some 14,.agg #[int u64 a0]),(some 15,.agg #[int u64 a]),(some 16,.agg #[]),(some 17,.agg #[int u64 b]),(some 18,.agg #[]),(some 19,.agg #[int u64 z]),(some 4,.pointer (some ⟨f 7,0,none⟩)),(some 5,.pointer (some ⟨f 8,0,none⟩)),(some 6,.pointer (some ⟨f 9,0,none⟩)),(none,undef),(none,undef),(none,undef)]) (by kernel_rfl) (by kernel_rfl) (by kernel_rfl) (by kernel_rfl) (fun _=>by kernel_rfl) ?_ ?_
  · intro ix hix
    match ix,hix with
    |0,_=>exact obv [(3,.pointer (some ⟨w.heap.size+1+1,0,none⟩))] rfl rfl (fun A w ⟨e0,_⟩ hB=>do_load0 e0)
    |1,_=>exact obv [(13,.agg #[])] rfl rfl (fun A w ⟨e0,_⟩ hB=>do_call2 cf_reduced rfl e0 (K_a0 w))
    |2,_=>exact obv [(14,.agg #[int u64 a0])] rfl rfl (fun A w ⟨e0,_⟩ hB=>do_call1 cf_negative e0 (K_a w))
    |3,_=>exact obv [(3,.pointer (some ⟨w.heap.size+1+1,0,none⟩))] rfl rfl (fun A w ⟨e0,_⟩ hB=>do_load0 e0)
    |4,_=>exact obv [(16,.agg #[])] rfl rfl (fun A w ⟨e0,_⟩ hB=>do_call2 cf_reduced rfl e0 (K_b w))
    |5,_=>exact obv [(3,.pointer (some ⟨w.heap.size+1+1,0,none⟩))] rfl rfl (fun A w ⟨e0,_⟩ hB=>do_load0 e0)
    |6,_=>exact obv [(18,.agg #[])] rfl rfl (fun A w ⟨e0,_⟩ hB=>do_call2 cf_reduced rfl e0 (K_z w))
    |7,_=>exact ob_new rfl rfl (fun A w=>do_new)
    |8,_=>exact ob_new rfl rfl (fun A w=>do_new)
    |9,_=>exact ob_new rfl rfl (fun A w=>do_new)
    |10,_=>exact ob_put 4 (fun f=> [(4,.pointer (some ⟨f 7,0,none⟩)),(15,.agg #[int u64 a])]) rfl rfl rfl (by decide) (by kernel_rfl) rfl (fun _=>by kernel_rfl) (fun f A w ⟨e0,e1,_⟩ hr=>do_put e0 e1 hr)
    |11,_=>exact ob_put 5 (fun f=> [(5,.pointer (some ⟨f 8,0,none⟩)),(17,.agg #[int u64 b])]) rfl rfl rfl (by decide) (by kernel_rfl) rfl (fun _=>by kernel_rfl) (fun f A w ⟨e0,e1,_⟩ hr=>do_put e0 e1 hr)
    |12,_=>exact ob_put 6 (fun f=> [(6,.pointer (some ⟨f 9,0,none⟩)),(19,.agg #[int u64 z])]) rfl rfl rfl (by decide) (by kernel_rfl) rfl (fun _=>by kernel_rfl) (fun f A w ⟨e0,e1,_⟩ hr=>do_put e0 e1 hr)
    |ix+13,h=>exact absurd h (by simp)
  intro f w2 hB hN hne;have n4:=(hN 7 _ _ _ rfl (by simp)).2;rw [if_pos (by simp)] at n4;have n5:=(hN 8 _ _ _ rfl (by simp)).2;rw [if_pos (by simp)] at n5;have n6:=(hN 9 _ _ _ rfl (by simp)).2;rw [if_pos (by simp)] at n6;replace hu:=(hu.drew).keep hB;replace hk:=(hk.drew).keep hB;replace hb:=keepB hb.drew hb.size hB;clear hN hB hne;generalize f 7=q4 at*;replace n4:R1 w2 q4 a:=n4;generalize f 8=q5 at*;replace n5:R1 w2 q5 b:=n5;generalize f 9=q6 at*;replace n6:R1 w2 q6 z:=n6;simp only [puts,List.foldl,Act.put,List.setIfInBounds_toArray,List.set_cons_zero,List.set_cons_succ];go_wp2
  refine pool_list [.val (.agg #[int u64 z]),
    .val (.agg #[int u64 U]),
    .val (.agg #[int u64 s0]),
    .val (.agg #[int u64 U]),
    .val (.agg #[int u64 s]),
    .new (.cells #[int u64 0] 146) (.cells #[int u64 s] 146) 6,
    .put 5] [[6],[1],[20,21],[1],[22,23],[],[7,24]] (fun f=> [(some 20,.agg #[int u64 z]),(some 21,.agg #[int u64 U]),(some 22,.agg #[int u64 s0]),(some 23,.agg #[int u64 U]),(some 24,.agg #[int u64 s]),(some 7,.pointer (some ⟨f 5,0,none⟩)),(none,undef)]) (by kernel_rfl) (by kernel_rfl) (by kernel_rfl) (by kernel_rfl) (fun _=>by kernel_rfl) ?_ ?_
  · intro ix hix
    match ix,hix with
    |0,_=>exact obv [(6,.pointer (some ⟨q6,0,none⟩))] rfl rfl (fun A w ⟨e0,_⟩ hB=>do_loadN e0 n6.drew hB)
    |1,_=>exact obv [(1,.pointer (some ⟨w.heap.size,0,none⟩))] rfl rfl (fun A w ⟨e0,_⟩ hB=>do_loadN e0 hu.drew hB)
    |2,_=>exact obv [(20,.agg #[int u64 z]),(21,.agg #[int u64 U])] rfl rfl (fun A w ⟨e0,e1,_⟩ hB=>do_call2 cf_times e0 e1 (K_s0 w))
    |3,_=>exact obv [(1,.pointer (some ⟨w.heap.size,0,none⟩))] rfl rfl (fun A w ⟨e0,_⟩ hB=>do_loadN e0 hu.drew hB)
    |4,_=>exact obv [(22,.agg #[int u64 s0]),(23,.agg #[int u64 U])] rfl rfl (fun A w ⟨e0,e1,_⟩ hB=>do_call2 cf_times e0 e1 (K_s w))
    |5,_=>exact ob_new rfl rfl (fun A w=>do_new)
    |6,_=>exact ob_put 7 (fun f=> [(7,.pointer (some ⟨f 5,0,none⟩)),(24,.agg #[int u64 s])]) rfl rfl rfl (by decide) (by kernel_rfl) rfl (fun _=>by kernel_rfl) (fun f A w ⟨e0,e1,_⟩ hr=>do_put e0 e1 hr)
    |ix+7,h=>exact absurd h (by simp)
  intro f w3 hB hN hne;have n7:=(hN 5 _ _ _ rfl (by simp)).2;rw [if_pos (by simp)] at n7;replace hu:=(hu.drew).keep hB;replace hk:=(hk.drew).keep hB;replace n4:=(n4.drew).keep hB;replace n5:=(n5.drew).keep hB;replace n6:=(n6.drew).keep hB;replace hb:=keepB hb.drew hb.size hB;clear hN hB hne;generalize f 5=q7 at*;replace n7:R1 w3 q7 s:=n7;simp only [puts,List.foldl,Act.put,List.setIfInBounds_toArray,List.set_cons_zero,List.set_cons_succ];go_wp2
  refine pool_list [.val (.agg #[int u64 s]),
    .val (.agg #[int u64 s]),
    .val (.agg #[int u64 s2]),
    .val (.agg #[int u64 s]),
    .val (.agg #[int u64 t]),
    .new (.cells #[int u64 0] 146) (.cells #[int u64 t] 146) 6,
    .put 5] [[7],[7],[25,26],[7],[27,28],[],[8,29]] (fun f=> [(some 25,.agg #[int u64 s]),(some 26,.agg #[int u64 s]),(some 27,.agg #[int u64 s2]),(some 28,.agg #[int u64 s]),(some 29,.agg #[int u64 t]),(some 8,.pointer (some ⟨f 5,0,none⟩)),(none,undef)]) (by kernel_rfl) (by kernel_rfl) (by kernel_rfl) (by kernel_rfl) (fun _=>by kernel_rfl) ?_ ?_
  · intro ix hix
    match ix,hix with
    |0,_=>exact obv [(7,.pointer (some ⟨q7,0,none⟩))] rfl rfl (fun A w ⟨e0,_⟩ hB=>do_loadN e0 n7.drew hB)
    |1,_=>exact obv [(7,.pointer (some ⟨q7,0,none⟩))] rfl rfl (fun A w ⟨e0,_⟩ hB=>do_loadN e0 n7.drew hB)
    |2,_=>exact obv [(25,.agg #[int u64 s]),(26,.agg #[int u64 s])] rfl rfl (fun A w ⟨e0,e1,_⟩ hB=>do_call2 cf_times e0 e1 (K_s2 w))
    |3,_=>exact obv [(7,.pointer (some ⟨q7,0,none⟩))] rfl rfl (fun A w ⟨e0,_⟩ hB=>do_loadN e0 n7.drew hB)
    |4,_=>exact obv [(27,.agg #[int u64 s2]),(28,.agg #[int u64 s])] rfl rfl (fun A w ⟨e0,e1,_⟩ hB=>do_call2 cf_plus e0 e1 (K_t w))
    |5,_=>exact ob_new rfl rfl (fun A w=>do_new)
    |6,_=>exact ob_put 8 (fun f=> [(8,.pointer (some ⟨f 5,0,none⟩)),(29,.agg #[int u64 t])]) rfl rfl rfl (by decide) (by kernel_rfl) rfl (fun _=>by kernel_rfl) (fun f A w ⟨e0,e1,_⟩ hr=>do_put e0 e1 hr)
    |ix+7,h=>exact absurd h (by simp)
  intro f w4 hB hN hne;have n8:=(hN 5 _ _ _ rfl (by simp)).2;rw [if_pos (by simp)] at n8;replace hu:=(hu.drew).keep hB;replace hk:=(hk.drew).keep hB;replace n4:=(n4.drew).keep hB;replace n5:=(n5.drew).keep hB;replace n6:=(n6.drew).keep hB;replace n7:=(n7.drew).keep hB;replace hb:=keepB hb.drew hb.size hB;clear hN hB hne;generalize f 5=q8 at*;replace n8:R1 w4 q8 t:=n8;simp only [puts,List.foldl,Act.put,List.setIfInBounds_toArray,List.set_cons_zero,List.set_cons_succ];have c8:=n8.cell;have l2:=hk.lt;have l7:=n7.lt;obtain⟨Y,hY⟩:∃Y,Y=(w4.alloc (Obj.cells #[int u64 0] 146)).alloc (Obj.cells #[int u64 0] 146):=⟨_,rfl⟩;replace hu:=(hu.alloc (Obj.cells #[int u64 0] 146)).alloc (Obj.cells #[int u64 0] 146);replace hk:=(hk.alloc (Obj.cells #[int u64 0] 146)).alloc (Obj.cells #[int u64 0] 146);replace n4:=(n4.alloc (Obj.cells #[int u64 0] 146)).alloc (Obj.cells #[int u64 0] 146);replace n5:=(n5.alloc (Obj.cells #[int u64 0] 146)).alloc (Obj.cells #[int u64 0] 146);replace n6:=(n6.alloc (Obj.cells #[int u64 0] 146)).alloc (Obj.cells #[int u64 0] 146);replace n7:=(n7.alloc (Obj.cells #[int u64 0] 146)).alloc (Obj.cells #[int u64 0] 146);replace n8:=(n8.alloc (Obj.cells #[int u64 0] 146)).alloc (Obj.cells #[int u64 0] 146);have n9:R1 Y w4.heap.size 0:=by rw [hY];exact(R1.new w4 0).alloc _
  have n10:R1 Y (w4.heap.size+1) 0:=by rw [hY];exact(R1.new _ 0).at (by simp)
  rw [hY] at n9 n10;clear hY;replace hb:=(hb.alloc hb.size (Obj.cells #[int u64 0] 146)).alloc (by have:=hb.size;simp;omega) (Obj.cells #[int u64 0] 146);have c8':=n8.cell;go_wp2
  go_step3
  refine hops_goto rfl ?_;go_wp2
  refine pool_tail [.val (.agg #[int u64 b]),
    .val (.agg #[int u64 z]),
    .val (.agg #[int u64 a]),
    .val (.agg #[int u64 za]),
    .val (.agg #[int u64 iz]),
    .val (.agg #[int u64 x]),
    .val undef] [[5],[6],[4],[45,46],[47],[44,48],[9,49]] (fun f=> [(some 44,.agg #[int u64 b]),(some 45,.agg #[int u64 z]),(some 46,.agg #[int u64 a]),(some 47,.agg #[int u64 za]),(some 48,.agg #[int u64 iz]),(some 49,.agg #[int u64 x])]) (fun f=> [(9,.pointer (some ⟨w4.heap.size,0,none⟩)),(49,.agg #[int u64 x])]) (by kernel_rfl) (by kernel_rfl) (by kernel_rfl) (by kernel_rfl) (by kernel_rfl) (fun _=>by kernel_rfl) ?_ rfl (fun _=>by kernel_rfl) ?_
  · intro ix hix
    match ix,hix with
    |0,_=>exact obv [(5,.pointer (some ⟨q5,0,none⟩))] rfl rfl (fun A w ⟨e0,_⟩ hB=>do_loadN e0 n5.drew hB)
    |1,_=>exact obv [(6,.pointer (some ⟨q6,0,none⟩))] rfl rfl (fun A w ⟨e0,_⟩ hB=>do_loadN e0 n6.drew hB)
    |2,_=>exact obv [(4,.pointer (some ⟨q4,0,none⟩))] rfl rfl (fun A w ⟨e0,_⟩ hB=>do_loadN e0 n4.drew hB)
    |3,_=>exact obv [(45,.agg #[int u64 z]),(46,.agg #[int u64 a])] rfl rfl (fun A w ⟨e0,e1,_⟩ hB=>do_call2 cf_times e0 e1 (K_za w))
    |4,_=>exact obv [(47,.agg #[int u64 za])] rfl rfl (fun A w ⟨e0,_⟩ hB=>do_call1 cf_inverse e0 (K_iz w))
    |5,_=>exact obv [(44,.agg #[int u64 b]),(48,.agg #[int u64 iz])] rfl rfl (fun A w ⟨e0,e1,_⟩ hB=>do_call2 cf_times e0 e1 (K_x w))
    |ix+6,h=>exact absurd h (by simp)
  rintro f A w8 ⟨e0,e1,_⟩ hB _;replace hu:=(hu.drew).keep hB;replace hk:=(hk.drew).keep hB;replace n4:=(n4.drew).keep hB;replace n5:=(n5.drew).keep hB;replace n6:=(n6.drew).keep hB;replace n7:=(n7.drew).keep hB;replace n8:=(n8.drew).keep hB;replace n9:=(n9.drew).keep hB;replace n10:=(n10.drew).keep hB;replace hb:=keepB hb.drew hb.size hB;refine does_skip (exec_store e0 e1 n9) ?_;clear e0 e1 hB;have hu9:=hu.other (b':=w4.heap.size) (by omega) 0 (int u64 x);have hk9:=hk.oth (b':=w4.heap.size) (by omega) 0 (int u64 x);have n79:=n7.other (b':=w4.heap.size) (by omega) 0 (int u64 x);have n99:=n9.set x;have n109:=n10.other (b':=w4.heap.size) (by omega) 0 (int u64 x);have hb9:=hb.setCell (p:=⟨w4.heap.size,0,none⟩) (by simp;omega) (int u64 x);generalize hW9:w8.setCell (⟨w4.heap.size,0,none⟩:Addr) (int u64 x)=W9 at*;clear hW9 n9 n10 n7 hu hk hb n4 n5 n6 n8 c8 c8';generalize w4.heap.size=q9 at*;simp only [puts,List.foldl,Act.put,List.setIfInBounds_toArray,List.set_cons_zero,List.set_cons_succ];have c9:=n99.cell;go_wp2
  go_step3
  go_wp2_with fail;refine(C1 _).mono ?_;rintro e w10 ⟨rfl,b10⟩;clear c9;replace hu9:=hu9.keep b10;replace hk9:=hk9.keep b10;replace n79:=n79.keep b10;replace n99:=n99.keep b10;replace n109:=n109.keep b10;replace hb9:=keepB hb9 hb9.size b10;clear b10;go_wp2_with fail;refine(E1 _).mono ?_;rintro e w11 ⟨rfl,b11⟩;replace hu9:=hu9.keep b11;replace hk9:=hk9.keep b11;replace n79:=n79.keep b11;replace n99:=n99.keep b11;replace n109:=n109.keep b11;replace hb9:=keepB hb9 hb9.size b11;clear b11;have g10:=n109.cell;have h10:=n109.frz;have ho':(U.tmod 2==1)=od:=by rw [←ho,Int.tmod_eq_emod_of_nonneg hU]
  have hu10:=hu9.other (b':=q9+1) (by omega) 0 (int u64 y1);have hk10:=hk9.oth (b':=q9+1) (by omega) 0 (int u64 y1);have n710:=n79.other (b':=q9+1) (by omega) 0 (int u64 y1);have n910:=n99.other (b':=q9+1) (by omega) 0 (int u64 y1);have n1010:=n109.set y1;have hb10:=hb9.setCell (p:=⟨q9+1,0,none⟩) (by simp;omega) (int u64 y1);clear hu9 hk9 n79 n99 n109 hb9;have cu:=hu10.cell;have c7:=n710.cell;have c9:=n910.cell;have f9:=n910.frz;have c10':=n1010.cell;have f10':=n1010.frz;have k0:=hk10.c0;have k1:=hk10.c1;have k2:=hk10.c2;have kf:=hk10.frz;have c10:=c10';have f10:=f10';clear c10' f10'
  cases fd with
  | true=>
    go_wp2
    go_step3
    refine hops_goto rfl ?_
    cases od with
    | true=>
      go_wp2_with fail;refine(N1 _).mono ?_;rintro e w20 ⟨rfl,b20⟩;clear cu c7 c9 f9 c10 f10 k0 k1 k2 kf;replace hu10:=hu10.keep b20;replace hk10:=hk10.keep b20;replace n710:=n710.keep b20;replace n910:=n910.keep b20;replace n1010:=n1010.keep b20;replace hb10:=keepB hb10 hb10.size b20;clear b20;have g10:=n1010.cell;have h10:=n1010.frz;replace hu10:=hu10.other (b':=q9+1) (by omega) 0 (int u64 n1);replace hk10:=hk10.oth (b':=q9+1) (by omega) 0 (int u64 n1);replace n710:=n710.other (b':=q9+1) (by omega) 0 (int u64 n1);replace n910:=n910.other (b':=q9+1) (by omega) 0 (int u64 n1);replace n1010:=n1010.set n1;replace hb10:=hb10.setCell (p:=⟨q9+1,0,none⟩) (by simp;omega) (int u64 n1);have cu:=hu10.cell;have c7:=n710.cell;have c9:=n910.cell;have f9:=n910.frz;have c10:=n1010.cell;have f10:=n1010.frz;have k0:=hk10.c0;have k1:=hk10.c1;have k2:=hk10.c2;have kf:=hk10.frz;go_wp2
      first|rw [hops_ret]|skip
      exact bodyPost_ret (v:= .agg #[int u64 x,int u64 n1,.bool false]) (cp_res (fn:=Tryz.f161) (p:=2) results161 _ rfl (hk10.set x n1 false)) rfl ⟨rfl,set3_below hb10 (by omega)⟩
    | false=>
      go_wp2
      first|rw [hops_ret]|skip
      exact bodyPost_ret (v:= .agg #[int u64 x,int u64 y1,.bool false]) (cp_res (fn:=Tryz.f161) (p:=2) results161 _ rfl (hk10.set x y1 false)) rfl ⟨rfl,set3_below hb10 (by omega)⟩
  | false=>
    go_wp2_with fail;refine(K_x2 _).mono ?_;rintro e w12 ⟨rfl,b12⟩;clear cu c7 c9 f9 c10 f10 k0 k1 k2 kf;replace hu10:=hu10.keep b12;replace hk10:=hk10.keep b12;replace n710:=n710.keep b12;replace n910:=n910.keep b12;replace n1010:=n1010.keep b12;replace hb10:=keepB hb10 hb10.size b12;clear b12;have g9:=n910.cell;have h9:=n910.frz;replace hu10:=hu10.other (b':=q9) (by omega) 0 (int u64 x2);replace hk10:=hk10.oth (b':=q9) (by omega) 0 (int u64 x2);replace n710:=n710.other (b':=q9) (by omega) 0 (int u64 x2);replace n910:=n910.set x2;replace n1010:=n1010.other (b':=q9) (by omega) 0 (int u64 x2);replace hb10:=hb10.setCell (p:=⟨q9,0,none⟩) (by simp;omega) (int u64 x2);have c9:=n910.cell;go_wp2_with fail;refine(C2 _).mono ?_;rintro e w13 ⟨rfl,b13⟩;clear c9 g9 h9;replace hu10:=hu10.keep b13;replace hk10:=hk10.keep b13;replace n710:=n710.keep b13;replace n910:=n910.keep b13;replace n1010:=n1010.keep b13;replace hb10:=keepB hb10 hb10.size b13;clear b13;go_wp2_with fail;refine(E2 _).mono ?_;rintro e w14 ⟨rfl,b14⟩;replace hu10:=hu10.keep b14;replace hk10:=hk10.keep b14;replace n710:=n710.keep b14;replace n910:=n910.keep b14;replace n1010:=n1010.keep b14;replace hb10:=keepB hb10 hb10.size b14;clear b14;have g10:=n1010.cell;have h10:=n1010.frz;replace hu10:=hu10.other (b':=q9+1) (by omega) 0 (int u64 y2);replace hk10:=hk10.oth (b':=q9+1) (by omega) 0 (int u64 y2);replace n710:=n710.other (b':=q9+1) (by omega) 0 (int u64 y2);replace n910:=n910.other (b':=q9+1) (by omega) 0 (int u64 y2);replace n1010:=n1010.set y2;replace hb10:=hb10.setCell (p:=⟨q9+1,0,none⟩) (by simp;omega) (int u64 y2);have cu:=hu10.cell;have c7:=n710.cell;have c9:=n910.cell;have f9:=n910.frz;have c10:=n1010.cell;have f10:=n1010.frz;have k0:=hk10.c0;have k1:=hk10.c1;have k2:=hk10.c2;have kf:=hk10.frz;go_wp2
    go_step3
    cases od with
    | true=>
      go_wp2_with fail;refine(N2 _).mono ?_;rintro e w20 ⟨rfl,b20⟩;clear cu c7 c9 f9 c10 f10 k0 k1 k2 kf;replace hu10:=hu10.keep b20;replace hk10:=hk10.keep b20;replace n710:=n710.keep b20;replace n910:=n910.keep b20;replace n1010:=n1010.keep b20;replace hb10:=keepB hb10 hb10.size b20;clear b20;have g10:=n1010.cell;have h10:=n1010.frz;replace hu10:=hu10.other (b':=q9+1) (by omega) 0 (int u64 n2);replace hk10:=hk10.oth (b':=q9+1) (by omega) 0 (int u64 n2);replace n710:=n710.other (b':=q9+1) (by omega) 0 (int u64 n2);replace n910:=n910.other (b':=q9+1) (by omega) 0 (int u64 n2);replace n1010:=n1010.set n2;replace hb10:=hb10.setCell (p:=⟨q9+1,0,none⟩) (by simp;omega) (int u64 n2);have cu:=hu10.cell;have c7:=n710.cell;have c9:=n910.cell;have f9:=n910.frz;have c10:=n1010.cell;have f10:=n1010.frz;have k0:=hk10.c0;have k1:=hk10.c1;have k2:=hk10.c2;have kf:=hk10.frz;go_wp2
      first|rw [hops_ret]|skip
      exact bodyPost_ret (v:= .agg #[int u64 x2,int u64 n2,.bool false]) (cp_res (fn:=Tryz.f161) (p:=2) results161 _ rfl (hk10.set x2 n2 false)) rfl ⟨rfl,set3_below hb10 (by omega)⟩
    | false=>
      go_wp2
      first|rw [hops_ret]|skip
      exact bodyPost_ret (v:= .agg #[int u64 x2,int u64 y2,.bool false]) (cp_res (fn:=Tryz.f161) (p:=2) results161 _ rfl (hk10.set x2 y2 false)) rfl ⟨rfl,set3_below hb10 (by omega)⟩
end
end Go.Proofs.YtmjniccfjffclaaGreatDoor
