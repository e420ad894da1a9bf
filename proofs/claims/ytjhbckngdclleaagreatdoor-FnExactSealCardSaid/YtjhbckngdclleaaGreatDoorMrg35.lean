import Derived.Test.YtjhbckngdclleaaGreatDoorMrg34
set_option linter.unusedVariables false
set_option maxRecDepth 100000
set_option maxHeartbeats 16000000
namespace Go.Proofs.YtjhbckngdclleaaGreatDoor
open Go.Proofs.Tryz Go.RowKit
open Go.Value (int)
open Go.IntKind (u64)
section
open M
theorem rep_point {X Y Z:Fp}:∀{p:Pt},rep X Y Z p→(p=none∧Z=0)∨(Z≠0∧p=some (X*fi Z,Y*fi Z))
  |none,⟨l,_,_,_,hZ⟩=> .inl ⟨rfl,by rw [hZ];show l*0=0;grobner⟩
  | some (x,y),⟨l,hl,hX,hY,hZ⟩=>by
    have e:Z=l:=by rw [hZ];show l*1=l;grobner
    subst e;have hf:=fi_mul hl;refine .inr ⟨hl,?_⟩
    have h1:X*fi Z=x:=by
      have:X=Z*x:=hX
      grobner
    have h2:Y*fi Z=y:=by
      have:Y=Z*y:=hY
      grobner
    rw [h1,h2]
theorem pntV {X Y Z:Fp}{p:Pt}(h:rep X Y Z p)(w:World):
    Cr 120 #[.agg #[int u64 (fv X),int u64 (fv Y),int u64 (fv Z)]] w (ptW p):=by
  rcases rep_point h with ⟨rfl,hz⟩|⟨hz,rfl⟩
  · exact pntP_no X Y Z w (by rw [fv_zero];simp [hz])
  · exact pntP_yes X Y Z w (by rw [fv_zero];simp [hz])
theorem cpt_res {W:World}{b:Nat}{x y:Int}{c:Bool}{fn:Func}{p u:Tmp}(h:fn.results=#[.cell p 101,.tmp u])(tmps:Array Value)(hp:tmps.getD p undef= .pointer (some ⟨b,0,none⟩))(hc:K3 W 101 b x y c):
    (results fn tmps).run prog W= .ok (.tuple #[.agg #[int u64 x,int u64 y,.bool c],tmps.getD u undef]) W:=by
  have hp':tmps[p]?.getD undef= .pointer (some ⟨b,0,none⟩):=by simpa using hp
  simp [results,h,hp',asAddr,run_loadVar_mid W b 0 101 [int u64 x,int u64 y,.bool c] _ hc.range underlying101 rfl (by kernel_rfl)]
theorem eleO_of (x y:Int)(c ok:Bool)(p:Pt)(a0 a2:Addr)(w:World)(hs:So w a0 a2)
    (F:Cc 60 #[.agg #[int u64 x,int u64 y,.bool c]] (.tuple #[.agg #[int u64 (px p),int u64 (py p),.bool (pb p)],.bool ok])):
    Cr 104 #[.agg #[int u64 x,int u64 y,.bool c]] w (if ok=true∧pb p=false then .tuple #[.agg #[int u64 (px p),int u64 (py p),.bool (pb p)],.nilIface] else .tuple #[.agg #[int u64 0,int u64 0,.bool true],sen a0]):=by
  obtain⟨V,hV⟩:∃V,Hid (V=(if ok=true∧pb p=false then .tuple #[.agg #[int u64 (px p),int u64 (py p),.bool (pb p)],.nilIface] else .tuple #[.agg #[int u64 0,int u64 0,.bool true],sen a0]:Value)):=⟨_,rfl⟩;rw [←hV.out];have hg0:0<w.heap.size:=World.block_lt_of_cell? w _ hs.c0;obtain⟨X,hX⟩:∃X,X=(w.alloc (Obj.cells #[int u64 x,int u64 y,.bool c] 27)).alloc (Obj.cells #[int u64 0,int u64 0,.bool false] 101):=⟨_,rfl⟩;have hr:K3 X 101 (w.heap.size+1) 0 0 false:=by rw [hX];exact(K3.new _ _ _ _ _).at (by simp)
  have r1:K3 X 27 w.heap.size x y c:=by rw [hX];exact(K3.new _ _ _ _ _).alloc _
  have hb:Bl w X:=by rw [hX];exact((Below.refl _ w).alloc (Nat.le_refl _) _).alloc (by simp) _
  rw [hX] at hr r1 hb;clear hX;have p0:=r1.c0;have p1:=r1.c1;have p2:=r1.c2;go_enter func104,ntmps104;go_wp2_with fail;refine(F _).mono ?_;rintro e w2 ⟨rfl,b2⟩;obtain⟨W2,hW2⟩:∃W2,W2=w2.alloc (Obj.cells #[int u64 (px p),int u64 (py p),.bool (pb p)] 101):=⟨_,rfl⟩;have hal:Bl w2 W2:=by rw [hW2];exact(Below.refl _ w2).alloc (Nat.le_refl _) _
  have hr2:K3 W2 101 w2.heap.size (px p) (py p) (pb p):=by rw [hW2];exact K3.new _ _ _ _ _
  have hlt:w.heap.size+1<w2.heap.size:=(hr.keep b2).lt;replace hr:=(hr.keep b2).keep hal;replace hb:=hb.tr b2;replace hb:=hb.tr hal;replace hs:=hs.keep hb;clear F b2 hal p0 p1 p2 r1;go_wp2;rw [←hW2];clear hW2;generalize w2.heap.size=H2 at*
  cases ok with
  | false=>
    have hV':V= .tuple #[.agg #[int u64 0,int u64 0,.bool true],sen a0]:=by rw [hV.out,if_neg (by simp)]
    go_quiet (fail);have hr3:K3 (W2.drewN nq) 101 (w.heap.size+1) 0 0 false:=hr;have hs3:So (W2.drewN nq) a0 a2:=⟨hs.c0,hs.c2⟩;have hb3:Bl w (W2.drewN nq):=⟨hb.os,hb.tape,hb.output,hb.size,hb.block⟩;clear hr hs hb;generalize W2.drewN nq=W3 at*;go_wp2;have g0:W3.drew.cell? ⟨0,0,none⟩=_:=hs3.c0;have n0:0∉ [w.heap.size+1]:=fun h=>absurd (List.mem_singleton.1 h) (by omega)
    have l1:w.heap.size+1<W3.drew.heap.size:=hr3.lt
    refine G.pool_list (W:=W3) [w.heap.size+1] [.val (.agg #[int u64 0,int u64 0,.bool true]),
        .val (sen a0),
        .set (w.heap.size+1) (.cells #[int u64 0,int u64 0,.bool false] 101) (.cells #[int u64 0,int u64 0,.bool true] 101),
        .val (sen a0)] [[],[],[2,18],[19]] (fun f=> [(some 18,.agg #[int u64 0,int u64 0,.bool true]),(some 19,sen a0),(none,undef),(some 3,sen a0)]) (by kernel_rfl) (by kernel_rfl) (by kernel_rfl) (by kernel_rfl) (fun _=>by kernel_rfl) (G.last_of [.cells #[int u64 0,int u64 0,.bool false] 101] (fun F R hm=>by simp at hm) (fun ob ob' k hm=>by simp at hm) (fun b ob ob' hm=>by simp at hm;simp [hm])) (fun b ob ob' hm=>by simp at hm;obtain⟨rfl,rfl,-⟩:=hm;exact hr3) ?_ ?_
    · intro ix hix
      match ix,hix with
      |0,_=>exact G.obv [] rfl rfl (fun A w _ hB=>cl0 cf_impl_zeroPoint (zpP w))
      |1,_=>exact G.obv [] rfl rfl (fun A w _ hB=>ld_err rfl (hB.cell g0 n0))
      |2,_=>exact G.ob_set (fun f=> [(2,.pointer (some ⟨w.heap.size+1,0,none⟩)),(18,.agg #[int u64 0,int u64 0,.bool true])]) rfl rfl rfl (by simp) l1 (fun j ob1 ob2 h=>by (rcases j with _|_|_|_|j)<;>simp [G.kindOf] at h⊢ <;>omega) (fun _=>by kernel_rfl) (fun f A w ⟨e0,e1,_⟩ hh hr=>pu_cp e0 e1 hr)
      |3,_=>exact G.obv [(19,sen a0)] rfl rfl (fun A w ⟨e0,_⟩ hB=>doV_assign e0)
      |ix+4,h=>exact absurd h (by simp)
    intro f W4 hS _ _ _ hset;have q1:K3 W4 101 (w.heap.size+1) 0 0 true:=hset 2 _ _ _ rfl (by decide);have hb4:Bl w W4:=hS.under hb3.drew (by intro b h;rw [List.mem_singleton.1 h];omega) hb3.size;clear hset hS g0;simp only [puts,List.foldl,Act.put,List.setIfInBounds_toArray,List.set_cons_zero,List.set_cons_succ];go_wp2;exact bodyPost_ret (v:= .tuple #[.agg #[int u64 0,int u64 0,.bool true],sen a0]) (cpt_res (fn:=Tryz.f104) (p:=2) (u:=3) results104 _ rfl q1) rfl ⟨by rw [hV'],hb4⟩
  | true=>
    have k0:W2.drew.cell? ⟨H2,0,none⟩=_:=hr2.c0;have k1:W2.drew.cell? ⟨H2,1,none⟩=_:=hr2.c1;have k2:W2.drew.cell? ⟨H2,2,none⟩=_:=hr2.c2
    refine G.pool_list (W:=W2) [] [.val (.bool true),
        .val (.bool false),
        .val (.bool false),
        .val (.agg #[int u64 (px p),int u64 (py p),.bool (pb p)]),
        .val (.agg #[int u64 0,int u64 0,.bool true]),
        .val (.bool (pb p)),
        .val (.bool (pb p))] [[5],[11],[12],[4],[],[14,15],[13,16]] (fun f=> [(some 11,.bool true),(some 12,.bool false),(some 13,.bool false),(some 14,.agg #[int u64 (px p),int u64 (py p),.bool (pb p)]),(some 15,.agg #[int u64 0,int u64 0,.bool true]),(some 16,.bool (pb p)),(some 17,.bool (pb p))]) (by kernel_rfl) (by kernel_rfl) (by kernel_rfl) (by kernel_rfl) (fun _=>by kernel_rfl) (G.last_of [] (fun F R hm=>by simp at hm) (fun ob ob' k hm=>by simp at hm) (fun b ob ob' hm=>by simp at hm)) (fun b ob ob' hm=>by simp at hm) ?_ ?_
    · intro ix hix
      match ix,hix with
      |0,_=>exact G.obv [(5,.bool true)] rfl rfl (fun A w ⟨e0,_⟩ hB=>doV_move e0)
      |1,_=>exact G.obv [(11,.bool true)] rfl rfl (fun A w ⟨e0,_⟩ hB=>Z.notT e0)
      |2,_=>exact G.obv [(12,.bool false)] rfl rfl (fun A w ⟨e0,_⟩ hB=>doV_move e0)
      |3,_=>exact G.obv [(4,.pointer (some ⟨H2,0,none⟩))] rfl rfl (fun A w ⟨e0,_⟩ hB=>ld_cp e0 (hB.cell k0 (by simp)) (hB.cell k1 (by simp)) (hB.cell k2 (by simp)))
      |4,_=>exact G.obv [] rfl rfl (fun A w _ hB=>cl0 cf_impl_zeroPoint (zpP w))
      |5,_=>exact G.obv [(14,.agg #[int u64 (px p),int u64 (py p),.bool (pb p)]),(15,.agg #[int u64 0,int u64 0,.bool true])] rfl rfl (fun A w ⟨e0,e1,_⟩ hB=>eq_cpz e0 e1)
      |6,_=>exact G.obv [(13,.bool false),(16,.bool (pb p))] rfl rfl (fun A w ⟨e0,e1,_⟩ hB=>Z.pkF e0 e1)
      |ix+7,h=>exact absurd h (by simp)
    intro f W3 hS _ _ _ _;have b3:Bl W2 W3:=(Below.refl _ W2).drew.trans hS.below;replace hr:=hr.keep b3;replace hr2:=hr2.keep b3;replace hs:=hs.keep b3;replace hb:=hb.tr b3;clear hS b3 k0 k1 k2;simp only [puts,List.foldl,Act.put,List.setIfInBounds_toArray,List.set_cons_zero,List.set_cons_succ]
    cases hz:pb p with
    | true=>
      have hV':V= .tuple #[.agg #[int u64 0,int u64 0,.bool true],sen a0]:=by rw [hV.out,if_neg (by simp [hz])]
      go_wp2;have g0:W3.drew.cell? ⟨0,0,none⟩=_:=hs.c0;have n0:0∉ [w.heap.size+1]:=fun h=>absurd (List.mem_singleton.1 h) (by omega)
      have l1:w.heap.size+1<W3.drew.heap.size:=hr.lt
      refine G.pool_list (W:=W3) [w.heap.size+1] [.val (.agg #[int u64 0,int u64 0,.bool true]),
          .val (sen a0),
          .set (w.heap.size+1) (.cells #[int u64 0,int u64 0,.bool false] 101) (.cells #[int u64 0,int u64 0,.bool true] 101),
          .val (sen a0)] [[],[],[2,18],[19]] (fun f=> [(some 18,.agg #[int u64 0,int u64 0,.bool true]),(some 19,sen a0),(none,undef),(some 3,sen a0)]) (by kernel_rfl) (by kernel_rfl) (by kernel_rfl) (by kernel_rfl) (fun _=>by kernel_rfl) (G.last_of [.cells #[int u64 0,int u64 0,.bool false] 101] (fun F R hm=>by simp at hm) (fun ob ob' k hm=>by simp at hm) (fun b ob ob' hm=>by simp at hm;simp [hm])) (fun b ob ob' hm=>by simp at hm;obtain⟨rfl,rfl,-⟩:=hm;exact hr) ?_ ?_
      · intro ix hix
        match ix,hix with
        |0,_=>exact G.obv [] rfl rfl (fun A w _ hB=>cl0 cf_impl_zeroPoint (zpP w))
        |1,_=>exact G.obv [] rfl rfl (fun A w _ hB=>ld_err rfl (hB.cell g0 n0))
        |2,_=>exact G.ob_set (fun f=> [(2,.pointer (some ⟨w.heap.size+1,0,none⟩)),(18,.agg #[int u64 0,int u64 0,.bool true])]) rfl rfl rfl (by simp) l1 (fun j ob1 ob2 h=>by (rcases j with _|_|_|_|j)<;>simp [G.kindOf] at h⊢ <;>omega) (fun _=>by kernel_rfl) (fun f A w ⟨e0,e1,_⟩ hh hr=>pu_cp e0 e1 hr)
        |3,_=>exact G.obv [(19,sen a0)] rfl rfl (fun A w ⟨e0,_⟩ hB=>doV_assign e0)
        |ix+4,h=>exact absurd h (by simp)
      intro f W4 hS _ _ _ hset;have q1:K3 W4 101 (w.heap.size+1) 0 0 true:=hset 2 _ _ _ rfl (by decide);have hb3:Bl w W4:=hS.under hb.drew (by intro b h;rw [List.mem_singleton.1 h];omega) hb.size;clear hset hS g0;simp only [puts,List.foldl,Act.put,List.setIfInBounds_toArray,List.set_cons_zero,List.set_cons_succ];go_wp2;exact bodyPost_ret (v:= .tuple #[.agg #[int u64 0,int u64 0,.bool true],sen a0]) (cpt_res (fn:=Tryz.f104) (p:=2) (u:=3) results104 _ rfl q1) rfl ⟨by rw [hV'],hb3⟩
    | false=>
      have hV':V= .tuple #[.agg #[int u64 (px p),int u64 (py p),.bool (pb p)],.nilIface]:=by rw [hV.out,if_pos (by simp [hz])]
      rw [hz] at hr2;have c0:=hr.c0;have c1:=hr.c1;have c2:=hr.c2;have cf:=hr.frz;have k0:=hr2.c0;have k1:=hr2.c1;have k2:=hr2.c2;go_wp2;exact bodyPost_ret (v:= .tuple #[.agg #[int u64 (px p),int u64 (py p),.bool false],.nilIface]) (cpt_res (fn:=Tryz.f104) (p:=2) (u:=3) results104 _ rfl (hr.set (px p) (py p) false)) rfl ⟨rfl,set3_below hb (by omega)⟩
theorem eleO_any (t:Tri)(a0 a2:Addr)(w:World)(hs:So w a0 a2):
    Cr 104 #[.agg #[int u64 (t.1:Int),int u64 (t.2.1:Int),.bool t.2.2]] w (if elT t=true then .tuple #[.agg #[int u64 (px (asT t)),int u64 (py (asT t)),.bool (pb (asT t))],.nilIface] else .tuple #[.agg #[int u64 0,int u64 0,.bool true],sen a0]):=by
  have h:=eleO_of _ _ _ _ (asT t) a0 a2 w hs (fun w=>fndW t.1 t.2.1 t.2.2 w)
  have e:((toPt t.1 t.2.1 t.2.2).isSome=true∧pb (asT t)=false)↔elT t=true:=by
    constructor
    · rintro⟨h1,h2⟩;have h3:=(triW_px (t:=t) h1).2.2;unfold elT;rw [show onT t=true from h1,h3,h2];rfl
    · intro h;refine⟨elT_on h,?_⟩
      cases hp:pb (asT t) with
      |false=>rfl
      |true=>exact absurd ((pb_none _).1 hp) (elT_nz h)
  simp only [e] at h;exact h
end
end Go.Proofs.YtjhbckngdclleaaGreatDoor
