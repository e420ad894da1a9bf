import Derived.Test.YtmjniccfjffclaaGreatDoorMrg34
set_option linter.unusedVariables false
set_option maxRecDepth 100000
set_option maxHeartbeats 16000000
namespace Go.Proofs.YtmjniccfjffclaaGreatDoor
open Go.Proofs.Tryz Go.RowKit
open Go.Value (int)
open Go.IntKind (u64)
section
open M
theorem fndW (x y:Nat)(c:Bool)(w:World):
    Cr 38 #[.agg #[int u64 x,int u64 y,.bool c]] w (.tuple #[.agg #[int u64 (px (asPt x y c)),int u64 (py (asPt x y c)),.bool (pb (asPt x y c))],.bool (toPt x y c).isSome]):=by
  have:=fndV x y c w;rwa [ptW_eq] at this
theorem eleI_of (x y:Int)(c ok:Bool)(p:Pt)(a0 a1 a2 a3:Addr)(w:World)(hs:Sn w a0 a1 a2 a3)
    (F:Cc 38 #[.agg #[int u64 x,int u64 y,.bool c]] (.tuple #[.agg #[int u64 (px p),int u64 (py p),.bool (pb p)],.bool ok])):
    Cr 87 #[.agg #[int u64 x,int u64 y,.bool c]] w (if ok=true∧pb p=false then .tuple #[.agg #[int u64 (px p),int u64 (py p),.bool (pb p)],.nilIface] else .tuple #[.agg #[int u64 0,int u64 0,.bool true],sen a0]):=by
  obtain⟨V,hV⟩:∃V,Hid (V=(if ok=true∧pb p=false then .tuple #[.agg #[int u64 (px p),int u64 (py p),.bool (pb p)],.nilIface] else .tuple #[.agg #[int u64 0,int u64 0,.bool true],sen a0]:Value)):=⟨_,rfl⟩;rw [←hV.out];have hg0:0<w.heap.size:=World.block_lt_of_cell? w _ hs.c0;obtain⟨X,hX⟩:∃X,X=(w.alloc (Obj.cells #[int u64 x,int u64 y,.bool c] 34)).alloc (Obj.cells #[int u64 0,int u64 0,.bool false] 75):=⟨_,rfl⟩;have hr:K3 X 75 (w.heap.size+1) 0 0 false:=by rw [hX];exact(K3.new _ _ _ _ _).at (by simp)
  have r1:K3 X 34 w.heap.size x y c:=by rw [hX];exact(K3.new _ _ _ _ _).alloc _
  have hb:Bl w X:=by rw [hX];exact((Below.refl _ w).alloc (Nat.le_refl _) _).alloc (by simp) _
  rw [hX] at hr r1 hb;clear hX;have p0:=r1.c0;have p1:=r1.c1;have p2:=r1.c2;go_enter func87,ntmps87;go_wp2_with fail;refine(F _).mono ?_;rintro e w2 ⟨rfl,b2⟩;obtain⟨W2,hW2⟩:∃W2,W2=w2.alloc (Obj.cells #[int u64 (px p),int u64 (py p),.bool (pb p)] 75):=⟨_,rfl⟩;have hal:Bl w2 W2:=by rw [hW2];exact(Below.refl _ w2).alloc (Nat.le_refl _) _
  have hr2:K3 W2 75 w2.heap.size (px p) (py p) (pb p):=by rw [hW2];exact K3.new _ _ _ _ _
  have hlt:w.heap.size+1<w2.heap.size:=(hr.keep b2).lt;replace hr:=(hr.keep b2).keep hal;replace hb:=hb.tr b2;replace hb:=hb.tr hal;replace hs:=hs.keep hb;clear F b2 hal p0 p1 p2 r1;go_wp2;rw [←hW2];clear hW2;generalize w2.heap.size=H2 at*
  cases ok with
  | false=>
    have hV':V= .tuple #[.agg #[int u64 0,int u64 0,.bool true],sen a0]:=by rw [hV.out,if_neg (by simp)]
    go_quiet (fail);have hr3:K3 (W2.drewN nq) 75 (w.heap.size+1) 0 0 false:=hr;have hs3:Sn (W2.drewN nq) a0 a1 a2 a3:=⟨hs.c0,hs.c1,hs.c2,hs.c3,hs.b0,hs.b1,hs.b2,hs.b3,hs.n01,hs.n02,hs.n03,hs.n12,hs.n13,hs.n23⟩;have hb3:Bl w (W2.drewN nq):=⟨hb.os,hb.tape,hb.output,hb.size,hb.block⟩;clear hr hs hb;generalize W2.drewN nq=W3 at*;go_wp2;have g0:W3.drew.cell? ⟨0,0,none⟩=_:=hs3.c0;have n0:0∉ [w.heap.size+1]:=fun h=>absurd (List.mem_singleton.1 h) (by omega)
    have l1:w.heap.size+1<W3.drew.heap.size:=hr3.lt
    refine G.pool_list (W:=W3) [w.heap.size+1] [.val (.agg #[int u64 0,int u64 0,.bool true]),
        .val (sen a0),
        .set (w.heap.size+1) (.cells #[int u64 0,int u64 0,.bool false] 75) (.cells #[int u64 0,int u64 0,.bool true] 75),
        .val (sen a0)] [[],[],[2,18],[19]] (fun f=> [(some 18,.agg #[int u64 0,int u64 0,.bool true]),(some 19,sen a0),(none,undef),(some 3,sen a0)]) (by kernel_rfl) (by kernel_rfl) (by kernel_rfl) (by kernel_rfl) (fun _=>by kernel_rfl) (G.last_of [.cells #[int u64 0,int u64 0,.bool false] 75] (fun F R hm=>by simp at hm) (fun ob ob' k hm=>by simp at hm) (fun b ob ob' hm=>by simp at hm;simp [hm])) (fun b ob ob' hm=>by simp at hm;obtain⟨rfl,rfl,-⟩:=hm;exact hr3) ?_ ?_
    · intro ix hix
      match ix,hix with
      |0,_=>exact G.obv [] rfl rfl (fun A w _ hB=>cl0 cf_impl_zeroPoint (zpP w))
      |1,_=>exact G.obv [] rfl rfl (fun A w _ hB=>ld_err rfl (hB.cell g0 n0))
      |2,_=>exact G.ob_set (fun f=> [(2,.pointer (some ⟨w.heap.size+1,0,none⟩)),(18,.agg #[int u64 0,int u64 0,.bool true])]) rfl rfl rfl (by simp) l1 (fun j ob1 ob2 h=>by (rcases j with _|_|_|_|j)<;>simp [G.kindOf] at h⊢ <;>omega) (fun _=>by kernel_rfl) (fun f A w ⟨e0,e1,_⟩ hh hr=>pu_cp e0 e1 hr)
      |3,_=>exact G.obv [(19,sen a0)] rfl rfl (fun A w ⟨e0,_⟩ hB=>doV_assign e0)
      |ix+4,h=>exact absurd h (by simp)
    intro f W4 hS _ _ _ hset;have q1:K3 W4 75 (w.heap.size+1) 0 0 true:=hset 2 _ _ _ rfl (by decide);have hb4:Bl w W4:=hS.under hb3.drew (by intro b h;rw [List.mem_singleton.1 h];omega) hb3.size;clear hset hS g0;simp only [puts,List.foldl,Act.put,List.setIfInBounds_toArray,List.set_cons_zero,List.set_cons_succ];go_wp2;exact bodyPost_ret (v:= .tuple #[.agg #[int u64 0,int u64 0,.bool true],sen a0]) (cpt_res (fn:=Tryz.f87) (p:=2) (u:=3) results87 _ rfl q1) rfl ⟨by rw [hV'],hb4⟩
  | true=>
    have k0:W2.drew.cell? ⟨H2,0,none⟩=_:=hr2.c0;have k1:W2.drew.cell? ⟨H2,1,none⟩=_:=hr2.c1;have k2:W2.drew.cell? ⟨H2,2,none⟩=_:=hr2.c2
    refine G.pool_list (W:=W2) [] [.val (.bool true),
        .val (.bool false),
        .val (.bool false),
        .val (.agg #[int u64 (px p),int u64 (py p),.bool (pb p)]),
        .val (.agg #[int u64 0,int u64 0,.bool true]),
        .val (.bool (pb p)),
        .val (.bool (pb p))] [[5],[11],[12],[4],[],[14,15],[13,16]] (fun f=> [(some 11,.bool true),(some 12,.bool false),(some 13,.bool false),(some 14,.agg #[int u64 (px p),int u64 (py p),.bool (pb p)]),(some 15,.agg #[int u64 0,int u64 0,.bool true]),(some 16,.bool (pb p)),(some 17,.bool (pb p))]) (by kernel_rfl) (by kernel_rfl) (by kernel_rfl) (by kernel_rfl) (fun _=>by kernel_rfl) (G.last_of [] (fun F R hm=>by simp at hm) (fun ob ob' k hm=>by simp at hm) (fun b ob ob' hm=>by simp at hm)) (fun b ob ob' hm=>by simp at hm) ?_ ?_
    · intro ix hix
      match ix,hix with
      |0,_=>exact G.obv [(5,.bool true)] rfl rfl (fun A w ⟨e0,_⟩ hB=>doV_move e0)
      |1,_=>exact G.obv [(11,.bool true)] rfl rfl (fun A w ⟨e0,_⟩ hB=>Z.notT e0)
      |2,_=>exact G.obv [(12,.bool false)] rfl rfl (fun A w ⟨e0,_⟩ hB=>doV_move e0)
      |3,_=>exact G.obv [(4,.pointer (some ⟨H2,0,none⟩))] rfl rfl (fun A w ⟨e0,_⟩ hB=>ld_cp e0 (hB.cell k0 (by simp)) (hB.cell k1 (by simp)) (hB.cell k2 (by simp)))
      |4,_=>exact G.obv [] rfl rfl (fun A w _ hB=>cl0 cf_impl_zeroPoint (zpP w))
      |5,_=>exact G.obv [(14,.agg #[int u64 (px p),int u64 (py p),.bool (pb p)]),(15,.agg #[int u64 0,int u64 0,.bool true])] rfl rfl (fun A w ⟨e0,e1,_⟩ hB=>eq_cpz e0 e1)
      |6,_=>exact G.obv [(13,.bool false),(16,.bool (pb p))] rfl rfl (fun A w ⟨e0,e1,_⟩ hB=>Z.pkF e0 e1)
      |ix+7,h=>exact absurd h (by simp)
    intro f W3 hS _ _ _ _;have b3:Bl W2 W3:=(Below.refl _ W2).drew.trans hS.below;replace hr:=hr.keep b3;replace hr2:=hr2.keep b3;replace hs:=hs.keep b3;replace hb:=hb.tr b3;clear hS b3 k0 k1 k2;simp only [puts,List.foldl,Act.put,List.setIfInBounds_toArray,List.set_cons_zero,List.set_cons_succ]
    cases hz:pb p with
    | true=>
      have hV':V= .tuple #[.agg #[int u64 0,int u64 0,.bool true],sen a0]:=by rw [hV.out,if_neg (by simp [hz])]
      go_wp2;have g0:W3.drew.cell? ⟨0,0,none⟩=_:=hs.c0;have n0:0∉ [w.heap.size+1]:=fun h=>absurd (List.mem_singleton.1 h) (by omega)
      have l1:w.heap.size+1<W3.drew.heap.size:=hr.lt
      refine G.pool_list (W:=W3) [w.heap.size+1] [.val (.agg #[int u64 0,int u64 0,.bool true]),
          .val (sen a0),
          .set (w.heap.size+1) (.cells #[int u64 0,int u64 0,.bool false] 75) (.cells #[int u64 0,int u64 0,.bool true] 75),
          .val (sen a0)] [[],[],[2,18],[19]] (fun f=> [(some 18,.agg #[int u64 0,int u64 0,.bool true]),(some 19,sen a0),(none,undef),(some 3,sen a0)]) (by kernel_rfl) (by kernel_rfl) (by kernel_rfl) (by kernel_rfl) (fun _=>by kernel_rfl) (G.last_of [.cells #[int u64 0,int u64 0,.bool false] 75] (fun F R hm=>by simp at hm) (fun ob ob' k hm=>by simp at hm) (fun b ob ob' hm=>by simp at hm;simp [hm])) (fun b ob ob' hm=>by simp at hm;obtain⟨rfl,rfl,-⟩:=hm;exact hr) ?_ ?_
      · intro ix hix
        match ix,hix with
        |0,_=>exact G.obv [] rfl rfl (fun A w _ hB=>cl0 cf_impl_zeroPoint (zpP w))
        |1,_=>exact G.obv [] rfl rfl (fun A w _ hB=>ld_err rfl (hB.cell g0 n0))
        |2,_=>exact G.ob_set (fun f=> [(2,.pointer (some ⟨w.heap.size+1,0,none⟩)),(18,.agg #[int u64 0,int u64 0,.bool true])]) rfl rfl rfl (by simp) l1 (fun j ob1 ob2 h=>by (rcases j with _|_|_|_|j)<;>simp [G.kindOf] at h⊢ <;>omega) (fun _=>by kernel_rfl) (fun f A w ⟨e0,e1,_⟩ hh hr=>pu_cp e0 e1 hr)
        |3,_=>exact G.obv [(19,sen a0)] rfl rfl (fun A w ⟨e0,_⟩ hB=>doV_assign e0)
        |ix+4,h=>exact absurd h (by simp)
      intro f W4 hS _ _ _ hset;have q1:K3 W4 75 (w.heap.size+1) 0 0 true:=hset 2 _ _ _ rfl (by decide);have hb3:Bl w W4:=hS.under hb.drew (by intro b h;rw [List.mem_singleton.1 h];omega) hb.size;clear hset hS g0;simp only [puts,List.foldl,Act.put,List.setIfInBounds_toArray,List.set_cons_zero,List.set_cons_succ];go_wp2;exact bodyPost_ret (v:= .tuple #[.agg #[int u64 0,int u64 0,.bool true],sen a0]) (cpt_res (fn:=Tryz.f87) (p:=2) (u:=3) results87 _ rfl q1) rfl ⟨by rw [hV'],hb3⟩
    | false=>
      have hV':V= .tuple #[.agg #[int u64 (px p),int u64 (py p),.bool (pb p)],.nilIface]:=by rw [hV.out,if_pos (by simp [hz])]
      rw [hz] at hr2;have c0:=hr.c0;have c1:=hr.c1;have c2:=hr.c2;have cf:=hr.frz;have k0:=hr2.c0;have k1:=hr2.c1;have k2:=hr2.c2;go_wp2;exact bodyPost_ret (v:= .tuple #[.agg #[int u64 (px p),int u64 (py p),.bool false],.nilIface]) (cpt_res (fn:=Tryz.f87) (p:=2) (u:=3) results87 _ rfl (hr.set (px p) (py p) false)) rfl ⟨rfl,set3_below hb (by omega)⟩
theorem eleI_any (t:Tri)(a0 a1 a2 a3:Addr)(w:World)(hs:Sn w a0 a1 a2 a3):
    Cr 87 #[.agg #[int u64 (t.1:Int),int u64 (t.2.1:Int),.bool t.2.2]] w (if elT t=true then .tuple #[.agg #[int u64 (px (asT t)),int u64 (py (asT t)),.bool (pb (asT t))],.nilIface] else .tuple #[.agg #[int u64 0,int u64 0,.bool true],sen a0]):=by
  have h:=eleI_of _ _ _ _ (asT t) a0 a1 a2 a3 w hs (fun w=>fndW t.1 t.2.1 t.2.2 w)
  have e:((toPt t.1 t.2.1 t.2.2).isSome=true∧pb (asT t)=false)↔elT t=true:=by
    constructor
    · rintro⟨h1,h2⟩;have h3:=(triW_px (t:=t) h1).2.2;unfold elT;rw [show onT t=true from h1,h3,h2];rfl
    · intro h;refine⟨elT_on h,?_⟩
      cases hp:pb (asT t) with
      |false=>rfl
      |true=>exact absurd ((pb_none _).1 hp) (elT_nz h)
  simp only [e] at h;exact h
theorem bspI (w:World):Cr 41 #[] w (.agg #[int u64 (px gG),int u64 (py gG),.bool (pb gG)]):=by
  have h:Cr 41 #[] w (.agg #[int u64 1,int u64 509478702933351334,.bool false]):=by
    go_enter func41,ntmps41;go_wp2;refine bodyPost_ret (v:= .agg #[int u64 1,int u64 509478702933351334,.bool false]) (by simp [results,results41,go_sem]) rfl ⟨rfl,(Below.refl _ w).alloc (Nat.le_refl _) _⟩
  exact h
theorem ntwI (cx info:ByteArray)(x y:Int)(c:Bool)(w:World):
    Cr 137 #[.agg #[.string cx,.string info],.agg #[int u64 x,int u64 y,.bool c]] w (.tuple #[.agg #[int u64 0,int u64 0,.bool true],.nilIface]):=by
  obtain⟨X,hX⟩:∃X,X=((w.alloc (Obj.cells #[.string cx,.string info] 119)).alloc (Obj.cells #[int u64 x,int u64 y,.bool c] 75)).alloc (Obj.cells #[int u64 0,int u64 0,.bool false] 75):=⟨_,rfl⟩;have hr:K3 X 75 (w.heap.size+1+1) 0 0 false:=by rw [hX];exact(K3.new _ _ _ _ _).at (by simp)
  have hb:Bl w X:=by rw [hX];exact(((Below.refl _ w).alloc (Nat.le_refl _) _).alloc (by simp) _).alloc (by simp;omega) _
  rw [hX] at hr hb;clear hX;go_enter func137,ntmps137;go_wp2_with fail;refine(zpP _).mono ?_;rintro e w1 ⟨rfl,b1⟩;replace hr:=hr.keep b1;replace hb:=hb.tr b1;clear b1;have c0:=hr.c0;have c1:=hr.c1;have c2:=hr.c2;have cf:=hr.frz;go_wp2;exact bodyPost_ret (v:= .tuple #[.agg #[int u64 0,int u64 0,.bool true],.nilIface]) (cpt_res (fn:=Tryz.f137) (p:=4) (u:=5) results137 _ rfl (hr.set 0 0 true)) rfl ⟨rfl,set3_below hb (by omega)⟩
theorem patI_of (cx info:ByteArray)(k:Int)(q u s:Pt)(a0 a1 a2 a3:Addr)(w:World)(hs:Sn w a0 a1 a2 a3)
    (TW:Cb w 173 #[.agg #[.string cx,.string info]] (.agg #[int u64 k]))
    (TM:Cc 42 #[.agg #[int u64 (px gG),int u64 (py gG),.bool (pb gG)],int u64 k] (.agg #[int u64 (px u),int u64 (py u),.bool (pb u)]))
    (PL:Cc 82 #[.agg #[int u64 (px u),int u64 (py u),.bool (pb u)],.agg #[int u64 (px q),int u64 (py q),.bool (pb q)]] (.agg #[int u64 (px s),int u64 (py s),.bool (pb s)])):
    Cr 145 #[.agg #[.string cx,.string info],.agg #[int u64 (px q),int u64 (py q),.bool (pb q)]] w (.tuple #[.agg #[int u64 (px s),int u64 (py s),.bool (pb s)],if pb s=true then sen a2 else .nilIface]):=by
  obtain⟨V,hV⟩:∃V,Hid (V=(if pb s=true then sen a2 else Value.nilIface)):=⟨_,rfl⟩;rw [←hV.out];have hg0:2<w.heap.size:=World.block_lt_of_cell? w _ hs.c2;obtain⟨X,hX⟩:∃X,X=((w.alloc (Obj.cells #[.string cx,.string info] 119)).alloc (Obj.cells #[int u64 (px q),int u64 (py q),.bool (pb q)] 75)).alloc (Obj.cells #[int u64 0,int u64 0,.bool false] 75):=⟨_,rfl⟩;have r0:Bk X 119 w.heap.size #[.string cx,.string info]:=by rw [hX];exact((Bk.new _ _ _).alloc _).alloc _
  have r1:K3 X 75 (w.heap.size+1) (px q) (py q) (pb q):=by rw [hX];exact((K3.new _ _ _ _ _).at (by simp)).alloc _
  have hr:K3 X 75 (w.heap.size+1+1) 0 0 false:=by rw [hX];exact(K3.new _ _ _ _ _).at (by simp)
  have hb:Bl w X:=by rw [hX];exact(((Below.refl _ w).alloc (Nat.le_refl _) _).alloc (by simp) _).alloc (by simp;omega) _
  go_enter func145,ntmps145;go_wp2;rw [←hX];clear hX;have s0:X.drew.cell? ⟨w.heap.size,0,none⟩=_:=r0.cell (k:=0) rfl;have s1:X.drew.cell? ⟨w.heap.size,1,none⟩=_:=r0.cell (k:=1) rfl;have k0:X.drew.cell? ⟨w.heap.size+1,0,none⟩=_:=r1.c0;have k1:X.drew.cell? ⟨w.heap.size+1,1,none⟩=_:=r1.c1;have k2:X.drew.cell? ⟨w.heap.size+1,2,none⟩=_:=r1.c2;have TW':∀w',Below X.drew.heap.size X.drew w'→_:=fun w' h=>TW w' (hb.drew.trans (h.mono hb.size))
  refine G.pool_list (W:=X) [] [.val (.agg #[int u64 (px gG),int u64 (py gG),.bool (pb gG)]),
      .val (.agg #[.string cx,.string info]),
      .val (.agg #[int u64 k]),
      .val (int u64 k),
      .val (.agg #[int u64 (px u),int u64 (py u),.bool (pb u)]),
      .val (.agg #[int u64 (px q),int u64 (py q),.bool (pb q)]),
      .val (.agg #[int u64 (px s),int u64 (py s),.bool (pb s)]),
      .new (.cells #[int u64 0,int u64 0,.bool false] 75) (.cells #[int u64 (px s),int u64 (py s),.bool (pb s)] 75) 8,
      .put 7] [[],[2],[8],[9],[7,10],[3],[11,12],[],[6,13]] (fun f=> [(some 7,.agg #[int u64 (px gG),int u64 (py gG),.bool (pb gG)]),(some 8,.agg #[.string cx,.string info]),(some 9,.agg #[int u64 k]),(some 10,int u64 k),(some 11,.agg #[int u64 (px u),int u64 (py u),.bool (pb u)]),(some 12,.agg #[int u64 (px q),int u64 (py q),.bool (pb q)]),(some 13,.agg #[int u64 (px s),int u64 (py s),.bool (pb s)]),(some 6,.pointer (some ⟨f 7,0,none⟩)),(none,undef)]) (by kernel_rfl) (by kernel_rfl) (by kernel_rfl) (by kernel_rfl) (fun _=>by kernel_rfl) (G.last_of [.cells #[int u64 0,int u64 0,.bool false] 75] (fun F R hm=>by simp at hm) (fun ob ob' k hm=>by simp at hm;simp [hm]) (fun b ob ob' hm=>by simp at hm)) (fun b ob ob' hm=>by simp at hm) ?_ ?_
  · intro ix hix
    match ix,hix with
    |0,_=>exact G.obv [] rfl rfl (fun A w _ hB=>cl0 cf_impl_basePoint (bspI w))
    |1,_=>exact G.obv [(2,.pointer (some ⟨w.heap.size,0,none⟩))] rfl rfl (fun A w ⟨e0,_⟩ hB=>ld_set e0 (hB.cell s0 (by simp)) (hB.cell s1 (by simp)))
    |2,_=>exact G.obv [(8,.agg #[.string cx,.string info])] rfl rfl (fun A w ⟨e0,_⟩ hB=>cl1 cf_impl_setting_tweak e0 (TW' w hB.below))
    |3,_=>exact G.obv [(9,.agg #[int u64 k])] rfl rfl (fun A w ⟨e0,_⟩ hB=>fl_nN1 e0)
    |4,_=>exact G.obv [(7,.agg #[int u64 (px gG),int u64 (py gG),.bool (pb gG)]),(10,int u64 k)] rfl rfl (fun A w ⟨e0,e1,_⟩ hB=>cl2 cf_impl_curvePoint_times e0 e1 (TM w))
    |5,_=>exact G.obv [(3,.pointer (some ⟨w.heap.size+1,0,none⟩))] rfl rfl (fun A w ⟨e0,_⟩ hB=>ld_cp e0 (hB.cell k0 (by simp)) (hB.cell k1 (by simp)) (hB.cell k2 (by simp)))
    |6,_=>exact G.obv [(11,.agg #[int u64 (px u),int u64 (py u),.bool (pb u)]),(12,.agg #[int u64 (px q),int u64 (py q),.bool (pb q)])] rfl rfl (fun A w ⟨e0,e1,_⟩ hB=>cl2 cf_impl_curvePoint_plus e0 e1 (PL w))
    |7,_=>exact G.ob_new rfl rfl (fun A w=>al_cp)
    |8,_=>exact G.ob_put 6 (fun f=> [(6,.pointer (some ⟨f 7,0,none⟩)),(13,.agg #[int u64 (px s),int u64 (py s),.bool (pb s)])]) rfl rfl rfl (by decide) (by kernel_rfl) rfl (fun _=>by kernel_rfl) (fun f A w ⟨e0,e1,_⟩ hr=>pu_cp e0 e1 hr)
    |ix+9,h=>exact absurd h (by simp)
  intro f W3 hS hnew _ _ _;have b3:Bl X W3:=(Below.refl _ X).drew.trans hS.below;have r6:K3 W3 75 (f 7) (px s) (py s) (pb s):=(hnew 7 _ _ _ rfl (by decide)).2;generalize f 7=B6 at*;replace hr:=hr.keep b3;replace hb:=hb.tr b3;replace hs:=hs.keep hb;clear hS hnew b3 s0 s1 k0 k1 k2 r0 r1 TW TW' TM PL;simp only [puts,List.foldl,Act.put,List.setIfInBounds_toArray,List.set_cons_zero,List.set_cons_succ];go_wp2;have m0:W3.drew.cell? ⟨B6,0,none⟩=_:=r6.c0;have m1:W3.drew.cell? ⟨B6,1,none⟩=_:=r6.c1;have m2:W3.drew.cell? ⟨B6,2,none⟩=_:=r6.c2
  refine G.pool_list (W:=W3) [] [.val (.agg #[int u64 (px s),int u64 (py s),.bool (pb s)]),
      .val (.agg #[int u64 0,int u64 0,.bool true]),
      .val (.bool (pb s))] [[6],[],[14,15]] (fun f=> [(some 14,.agg #[int u64 (px s),int u64 (py s),.bool (pb s)]),(some 15,.agg #[int u64 0,int u64 0,.bool true]),(some 16,.bool (pb s))]) (by kernel_rfl) (by kernel_rfl) (by kernel_rfl) (by kernel_rfl) (fun _=>by kernel_rfl) (G.last_of [] (fun F R hm=>by simp at hm) (fun ob ob' k hm=>by simp at hm) (fun b ob ob' hm=>by simp at hm)) (fun b ob ob' hm=>by simp at hm) ?_ ?_
  · intro ix hix
    match ix,hix with
    |0,_=>exact G.obv [(6,.pointer (some ⟨B6,0,none⟩))] rfl rfl (fun A w ⟨e0,_⟩ hB=>ld_cp e0 (hB.cell m0 (by simp)) (hB.cell m1 (by simp)) (hB.cell m2 (by simp)))
    |1,_=>exact G.obv [] rfl rfl (fun A w _ hB=>cl0 cf_impl_zeroPoint (zpP w))
    |2,_=>exact G.obv [(14,.agg #[int u64 (px s),int u64 (py s),.bool (pb s)]),(15,.agg #[int u64 0,int u64 0,.bool true])] rfl rfl (fun A w ⟨e0,e1,_⟩ hB=>eq_cpz e0 e1)
    |ix+3,h=>exact absurd h (by simp)
  intro f W4 hS _ _ _ _;have b3:Bl W3 W4:=(Below.refl _ W3).drew.trans hS.below;replace hr:=hr.keep b3;replace r6:=r6.keep b3;replace hs:=hs.keep b3;replace hb:=hb.tr b3;clear hS b3 m0 m1 m2;simp only [puts,List.foldl,Act.put,List.setIfInBounds_toArray,List.set_cons_zero,List.set_cons_succ]
  cases hz:pb s with
  | true=>
    have hp0:px s=0∧py s=0:=by
      have:=(pb_none s).1 hz;subst this;exact⟨rfl,rfl⟩
    go_wp2;have g2:W4.drew.cell? ⟨2,0,none⟩=_:=hs.c2;have n0:2∉ [w.heap.size+1+1]:=fun h=>absurd (List.mem_singleton.1 h) (by omega)
    have l1:w.heap.size+1+1<W4.drew.heap.size:=hr.lt
    refine G.pool_list (W:=W4) [w.heap.size+1+1] [.val (.agg #[int u64 0,int u64 0,.bool true]),
        .val (sen a2),
        .set (w.heap.size+1+1) (.cells #[int u64 0,int u64 0,.bool false] 75) (.cells #[int u64 0,int u64 0,.bool true] 75),
        .val (sen a2)] [[],[],[4,17],[18]] (fun f=> [(some 17,.agg #[int u64 0,int u64 0,.bool true]),(some 18,sen a2),(none,undef),(some 5,sen a2)]) (by kernel_rfl) (by kernel_rfl) (by kernel_rfl) (by kernel_rfl) (fun _=>by kernel_rfl) (G.last_of [.cells #[int u64 0,int u64 0,.bool false] 75] (fun F R hm=>by simp at hm) (fun ob ob' k hm=>by simp at hm) (fun b ob ob' hm=>by simp at hm;simp [hm])) (fun b ob ob' hm=>by simp at hm;obtain⟨rfl,rfl,-⟩:=hm;exact hr) ?_ ?_
    · intro ix hix
      match ix,hix with
      |0,_=>exact G.obv [] rfl rfl (fun A w _ hB=>cl0 cf_impl_zeroPoint (zpP w))
      |1,_=>exact G.obv [] rfl rfl (fun A w _ hB=>ld_err rfl (hB.cell g2 n0))
      |2,_=>exact G.ob_set (fun f=> [(4,.pointer (some ⟨w.heap.size+1+1,0,none⟩)),(17,.agg #[int u64 0,int u64 0,.bool true])]) rfl rfl rfl (by simp) l1 (fun j ob1 ob2 h=>by (rcases j with _|_|_|_|j)<;>simp [G.kindOf] at h⊢ <;>omega) (fun _=>by kernel_rfl) (fun f A w ⟨e0,e1,_⟩ hh hr=>pu_cp e0 e1 hr)
      |3,_=>exact G.obv [(18,sen a2)] rfl rfl (fun A w ⟨e0,_⟩ hB=>doV_assign e0)
      |ix+4,h=>exact absurd h (by simp)
    intro f W5 hS _ _ _ hset;have q1:K3 W5 75 (w.heap.size+1+1) 0 0 true:=hset 2 _ _ _ rfl (by decide);have hb3:Bl w W5:=hS.under hb.drew (by intro b h;rw [List.mem_singleton.1 h];omega) hb.size;clear hset hS g2;simp only [puts,List.foldl,Act.put,List.setIfInBounds_toArray,List.set_cons_zero,List.set_cons_succ];go_wp2;exact bodyPost_ret (v:= .tuple #[.agg #[int u64 0,int u64 0,.bool true],sen a2]) (cpt_res (fn:=Tryz.f145) (p:=4) (u:=5) results145 _ rfl q1) rfl ⟨by rw [hV.out,hz,hp0.1,hp0.2,if_pos rfl],hb3⟩
  | false=>
    rw [hz] at r6;have c0:=hr.c0;have c1:=hr.c1;have c2:=hr.c2;have cf:=hr.frz;have k0:=r6.c0;have k1:=r6.c1;have k2:=r6.c2;go_wp2;exact bodyPost_ret (v:= .tuple #[.agg #[int u64 (px s),int u64 (py s),.bool false],.nilIface]) (cpt_res (fn:=Tryz.f145) (p:=4) (u:=5) results145 _ rfl (hr.set (px s) (py s) false)) rfl ⟨by rw [hV.out,hz,if_neg (by decide)],set3_below hb (by omega)⟩
theorem fldCp (X Y:Int)(c:Bool)(w:World):(Instr.field 75 (.agg #[int u64 X,int u64 Y,.bool c]) 0).run prog w= .ok (.agg #[int u64 X,int u64 Y,.bool c]) w:=by kernel_rfl
theorem bsI_of (X Y:Int)(c:Bool)(BP:Cc 41 #[] (.agg #[int u64 X,int u64 Y,.bool c]))(w:World):
    Cr 10 #[] w (.agg #[int u64 X,int u64 Y,.bool c]):=by
  have hf:=fldCp;have hr:=Bk.new w 34 #[int u64 0,int u64 0,.bool false];have hb:=balc w (Obj.cells #[int u64 0,int u64 0,.bool false] 34);go_enter func10,ntmps10;go_wp2_with fail;refine(BP _).mono ?_;rintro e w1 ⟨rfl,b1⟩;replace hr:=hr.keep b1;replace hb:=hb.tr b1;have c0:=hr.cell (k:=0) rfl;have c1:=hr.cell (k:=1) rfl;have c2:=hr.cell (k:=2) rfl;have f0:=hr.frz 0;have f1:=hr.frz 1;have f2:=hr.frz 2;go_wp2;refine bodyPost_ret (v:= .agg #[int u64 X,int u64 Y,.bool c]) (bk_res1 (fn:=Tryz.f10) (p:=0) (cs:=#[int u64 X,int u64 Y,.bool c]) results10 _ rfl (((hr.set 0 (int u64 X)).set 1 (int u64 Y)).set 2 (.bool c)) underlying34 rfl (by kernel_rfl)) rfl ⟨rfl,?_⟩;exact((hb.setCell (p:=⟨w.heap.size,0,none⟩) (Nat.le_refl _) _).setCell (p:=⟨w.heap.size,1,none⟩) (Nat.le_refl _) _).setCell (p:=⟨w.heap.size,2,none⟩) (Nat.le_refl _) _
theorem bsI (w:World):Cr 10 #[] w (.agg #[int u64 (px gG),int u64 (py gG),.bool (pb gG)]):=bsI_of _ _ _ bspI w
end
end Go.Proofs.YtmjniccfjffclaaGreatDoor
