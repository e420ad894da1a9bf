import Derived.Test.YtmjniccfjffclaaGreatDoorMrg35
set_option linter.unusedVariables false
set_option maxRecDepth 100000
set_option maxHeartbeats 16000000
namespace Go.Proofs.YtmjniccfjffclaaGreatDoor
open Go.Proofs.Tryz Go.RowKit
open Go.Value (int)
open Go.IntKind (u64)
open Go.RowKit M
namespace fnVerified
theorem cf_impl_Base (args:Array Value)(w:World):(callFunc 10 args).run prog w= .ok (.enter 10 args) w:=by kernel_rfl
theorem walk_of (a0:Option Addr)(l0 cap0 n:Nat)(m cd bl pc ps x1 y1 x2 y2 x3 y3:Int)(c1 c2 c3:Bool)(s t o:ByteArray)(P:World→Option Addr→Prop)(w:World)(hl0: ¬ (1048576:Int)<(l0:Int))
    (hP:∀{w w':World} {q:Option Addr},P w q→Bl w w'→P w' q)
    (DF:∀w',Bl w w'→Calls prog 22 #[.slice a0 l0 cap0] w' fun e w''=>(∃q cap,e= .returned (.tuple #[.int .i64 m,.string s,.string t,int u64 bl,.agg #[.slice q n cap,int u64 pc,int u64 ps],.agg #[int u64 x1,int u64 y1,.bool c1,int u64 x2,int u64 y2,.bool c2],.agg #[int u64 x3,int u64 y3,.bool c3]])∧P w'' q)∧Bl w' w'')
    (FS:∀w' q cap,Bl w w'→P w' q→Cr 23 #[.int .i64 m,.string s,.string t,int u64 bl,.agg #[.slice q n cap,int u64 pc,int u64 ps],.agg #[int u64 x1,int u64 y1,.bool c1,int u64 x2,int u64 y2,.bool c2],.agg #[int u64 x3,int u64 y3,.bool c3]] w' (.tuple #[.string o,.int .i64 cd]))
    (FI:∀w' q cap,Bl w w'→P w' q→Cr 21 #[.int .i64 m,.string s,.string t,int u64 bl,.agg #[.slice q n cap,int u64 pc,int u64 ps],.agg #[int u64 x1,int u64 y1,.bool c1,int u64 x2,int u64 y2,.bool c2],.agg #[int u64 x3,int u64 y3,.bool c3]] w' (.tuple #[.string o,.int .i64 cd]))
    (H:cd=1∨m=0∨∃ok,(ok=true∧cd=0∨ok=false∧cd=4)∧(m=1∧(∀w' g q cap,Bl w w'→P w' q→Bk w' 34 g #[int u64 x1,int u64 y1,.bool c1]→Cr 9 #[.int .i64 1,.agg #[int u64 (px gG),int u64 (py gG),.bool (pb gG)],.agg #[int u64 x3,int u64 y3,.bool c3],.slice (some ⟨g,0,none⟩) 1 1,.slice q n cap,.agg #[int u64 pc,int u64 ps]] w' (.bool ok))∨m=2∧(∀w' g q cap,Bl w w'→P w' q→Bk w' 34 g #[int u64 x1,int u64 y1,.bool c1]→Cr 9 #[.int .i64 2,.agg #[int u64 (px gG),int u64 (py gG),.bool (pb gG)],.agg #[int u64 x2,int u64 y2,.bool c2],.slice q n cap,.slice (some ⟨g,0,none⟩) 1 1,.agg #[int u64 pc,int u64 ps]] w' (.bool ok)))):
    Cr 5 #[.slice a0 l0 cap0] w (.bool true):=by
  go_enter func5,ntmps5;go_wp2_with fail;refine(DF _ (Below.refl _ _)).mono ?_;rintro e w1 ⟨⟨q,cap,rfl,hp⟩,hb⟩;have rE:Bk (((w1.alloc (Obj.cells #[.slice q n cap,int u64 pc,int u64 ps] 30)).alloc (Obj.cells #[int u64 x1,int u64 y1,.bool c1,int u64 x2,int u64 y2,.bool c2] 39)).alloc (Obj.cells #[int u64 x3,int u64 y3,.bool c3] 34)) 30 w1.heap.size #[.slice q n cap,int u64 pc,int u64 ps]:=((Bk.new _ _ _).alloc _).alloc _;have rB:Bk (((w1.alloc (Obj.cells #[.slice q n cap,int u64 pc,int u64 ps] 30)).alloc (Obj.cells #[int u64 x1,int u64 y1,.bool c1,int u64 x2,int u64 y2,.bool c2] 39)).alloc (Obj.cells #[int u64 x3,int u64 y3,.bool c3] 34)) 39 (w1.heap.size+1) #[int u64 x1,int u64 y1,.bool c1,int u64 x2,int u64 y2,.bool c2]:=((Bk.new _ _ _).at (by simp)).alloc _;have rP:Bk (((w1.alloc (Obj.cells #[.slice q n cap,int u64 pc,int u64 ps] 30)).alloc (Obj.cells #[int u64 x1,int u64 y1,.bool c1,int u64 x2,int u64 y2,.bool c2] 39)).alloc (Obj.cells #[int u64 x3,int u64 y3,.bool c3] 34)) 34 (w1.heap.size+1+1) #[int u64 x3,int u64 y3,.bool c3]:=(Bk.new _ _ _).at (by simp);have hal:Bl w1 (((w1.alloc (Obj.cells #[.slice q n cap,int u64 pc,int u64 ps] 30)).alloc (Obj.cells #[int u64 x1,int u64 y1,.bool c1,int u64 x2,int u64 y2,.bool c2] 39)).alloc (Obj.cells #[int u64 x3,int u64 y3,.bool c3] 34)):=(((Below.refl _ w1).alloc (Nat.le_refl _) _).alloc (by simp) _).alloc (by simp;omega) _;replace hb:=hb.tr hal;replace hp:=hP hp hal;clear hal;go_wp2_with fail;refine(DF _ hb).mono ?_;rintro e w2 ⟨⟨q2,cap2,rfl,hp2⟩,b⟩;have rE2:Bk (((w2.alloc (Obj.cells #[.slice q2 n cap2,int u64 pc,int u64 ps] 30)).alloc (Obj.cells #[int u64 x1,int u64 y1,.bool c1,int u64 x2,int u64 y2,.bool c2] 39)).alloc (Obj.cells #[int u64 x3,int u64 y3,.bool c3] 34)) 30 w2.heap.size #[.slice q2 n cap2,int u64 pc,int u64 ps]:=((Bk.new _ _ _).alloc _).alloc _;have rB2:Bk (((w2.alloc (Obj.cells #[.slice q2 n cap2,int u64 pc,int u64 ps] 30)).alloc (Obj.cells #[int u64 x1,int u64 y1,.bool c1,int u64 x2,int u64 y2,.bool c2] 39)).alloc (Obj.cells #[int u64 x3,int u64 y3,.bool c3] 34)) 39 (w2.heap.size+1) #[int u64 x1,int u64 y1,.bool c1,int u64 x2,int u64 y2,.bool c2]:=((Bk.new _ _ _).at (by simp)).alloc _;have rP2:Bk (((w2.alloc (Obj.cells #[.slice q2 n cap2,int u64 pc,int u64 ps] 30)).alloc (Obj.cells #[int u64 x1,int u64 y1,.bool c1,int u64 x2,int u64 y2,.bool c2] 39)).alloc (Obj.cells #[int u64 x3,int u64 y3,.bool c3] 34)) 34 (w2.heap.size+1+1) #[int u64 x3,int u64 y3,.bool c3]:=(Bk.new _ _ _).at (by simp);have hal:Bl w2 (((w2.alloc (Obj.cells #[.slice q2 n cap2,int u64 pc,int u64 ps] 30)).alloc (Obj.cells #[int u64 x1,int u64 y1,.bool c1,int u64 x2,int u64 y2,.bool c2] 39)).alloc (Obj.cells #[int u64 x3,int u64 y3,.bool c3] 34)):=(((Below.refl _ w2).alloc (Nat.le_refl _) _).alloc (by simp) _).alloc (by simp;omega) _;replace hp:=hP (hP hp b) hal;replace hp2:=hP hp2 hal;replace rE:=(rE.keep b).keep hal;replace rB:=(rB.keep b).keep hal;replace rP:=(rP.keep b).keep hal;replace hb:=hb.tr b;replace hb:=hb.tr hal;clear b hal DF;have rE2c0:=rE2.cell (k:=0) rfl;have rE2c1:=rE2.cell (k:=1) rfl;have rE2c2:=rE2.cell (k:=2) rfl;have rB2c0:=rB2.cell (k:=0) rfl;have rB2c1:=rB2.cell (k:=1) rfl;have rB2c2:=rB2.cell (k:=2) rfl;have rB2c3:=rB2.cell (k:=3) rfl;have rB2c4:=rB2.cell (k:=4) rfl;have rB2c5:=rB2.cell (k:=5) rfl;have rP2c0:=rP2.cell (k:=0) rfl;have rP2c1:=rP2.cell (k:=1) rfl;have rP2c2:=rP2.cell (k:=2) rfl;go_wp2_with fail;refine(FS _ q2 cap2 hb hp2).mono ?_;rintro e w3 ⟨rfl,b⟩;replace hp:=hP hp b;replace hp2:=hP hp2 b;replace rE:=rE.keep b;replace rB:=rB.keep b;replace rP:=rP.keep b;replace rE2:=rE2.keep b;replace rB2:=rB2.keep b;replace rP2:=rP2.keep b;replace hb:=hb.tr b;clear b FS rE2c0 rE2c1 rE2c2 rB2c0 rB2c1 rB2c2 rB2c3 rB2c4 rB2c5 rP2c0 rP2c1 rP2c2;have rEc0:=rE.cell (k:=0) rfl;have rEc1:=rE.cell (k:=1) rfl;have rEc2:=rE.cell (k:=2) rfl;have rBc0:=rB.cell (k:=0) rfl;have rBc1:=rB.cell (k:=1) rfl;have rBc2:=rB.cell (k:=2) rfl;have rBc3:=rB.cell (k:=3) rfl;have rBc4:=rB.cell (k:=4) rfl;have rBc5:=rB.cell (k:=5) rfl;have rPc0:=rP.cell (k:=0) rfl;have rPc1:=rP.cell (k:=1) rfl;have rPc2:=rP.cell (k:=2) rfl;go_wp2_with fail;refine(FI _ q cap hb hp).mono ?_;rintro e w4 ⟨rfl,b⟩;replace hp2:=hP hp2 b;replace rE:=rE.keep b;replace rB:=rB.keep b;replace rP:=rP.keep b;replace rE2:=rE2.keep b;replace rB2:=rB2.keep b;replace rP2:=rP2.keep b;replace hb:=hb.tr b;clear b FI rEc0 rEc1 rEc2 rBc0 rBc1 rBc2 rBc3 rBc4 rBc5 rPc0 rPc1 rPc2 hp rE rB rP2;rcases H with rfl|H
  · go_wp2;go_ret;exact⟨rfl,hb⟩
  rcases H with rfl|⟨ok,hok,H⟩
  · by_cases h1:cd=1
    · subst h1;go_wp2;go_ret;exact⟨rfl,hb⟩
    · go_wp2;go_ret;exact⟨rfl,hb⟩
  have hal:=balc w4 (Obj.cells #[int u64 x1,int u64 y1,.bool c1] 34);have rO:=Bk.new w4 34 #[int u64 x1,int u64 y1,.bool c1];have g0:=rB2.cell (k:=0) rfl;have g1:=rB2.cell (k:=1) rfl;have g2:=rB2.cell (k:=2) rfl;have hcd: ¬ cd=1:=by omega
  rcases H with ⟨rfl,CK⟩|⟨rfl,CK⟩
  · go_wp2;clear g0 g1 g2;replace hp2:=hP hp2 hal;replace rE2:=rE2.keep hal;replace rP:=rP.keep hal;replace hb:=hb.tr hal;clear hal rB2;generalize w4.heap.size=H1 at*;generalize w4.alloc _=W1 at*;have q0:W1.drew.cell? ⟨w1.heap.size+1+1,0,none⟩=_:=rP.cell (k:=0) rfl;have q1:W1.drew.cell? ⟨w1.heap.size+1+1,1,none⟩=_:=rP.cell (k:=1) rfl;have q2':W1.drew.cell? ⟨w1.heap.size+1+1,2,none⟩=_:=rP.cell (k:=2) rfl;have m0:W1.drew.cell? ⟨w2.heap.size,0,none⟩=_:=rE2.cell (k:=0) rfl;have m1:W1.drew.cell? ⟨w2.heap.size,1,none⟩=_:=rE2.cell (k:=1) rfl;have m2:W1.drew.cell? ⟨w2.heap.size,2,none⟩=_:=rE2.cell (k:=2) rfl;have CK':∀w',G.Sides [] W1.drew w'→_:=fun w' h=>CK w' H1 q2 cap2 (hb.drew.trans (h.below.mono hb.size)) (hP hp2 ((Below.refl _ W1).drew.trans h.below)) (rO.drew.keep h.below)
    refine G.pool_list (W:=W1) [] [.val (.int .i64 1),
        .val (.agg #[int u64 (px gG),int u64 (py gG),.bool (pb gG)]),
        .val (.agg #[int u64 x3,int u64 y3,.bool c3]),
        .val (.slice (some ⟨H1,0,none⟩) 1 1),
        .val (.pointer (some ⟨w2.heap.size,0,none⟩)),
        .val (.slice q2 n cap2),
        .val (.pointer (some ⟨w2.heap.size,1,none⟩)),
        .val (.agg #[int u64 pc,int u64 ps]),
        .val (.bool ok),
        .val (.bool ok)] [[3],[],[9],[21],[14],[91],[14],[93],[87,88,89,90,92,94],[95]] (fun f=> [(some 87,.int .i64 1),(some 88,.agg #[int u64 (px gG),int u64 (py gG),.bool (pb gG)]),(some 89,.agg #[int u64 x3,int u64 y3,.bool c3]),(some 90,.slice (some ⟨H1,0,none⟩) 1 1),(some 91,.pointer (some ⟨w2.heap.size,0,none⟩)),(some 92,.slice q2 n cap2),(some 93,.pointer (some ⟨w2.heap.size,1,none⟩)),(some 94,.agg #[int u64 pc,int u64 ps]),(some 95,.bool ok),(some 22,.bool ok)]) (by kernel_rfl) (by kernel_rfl) (by kernel_rfl) (by kernel_rfl) (fun _=>by kernel_rfl) (G.last_of [] (fun F R hm=>by simp at hm) (fun ob ob' k hm=>by simp at hm) (fun b ob ob' hm=>by simp at hm)) (fun b ob ob' hm=>by simp at hm) ?_ ?_
    · intro ix hix
      match ix,hix with
      |0,_=>exact G.obv [(3,.int .i64 1)] rfl rfl (fun A w ⟨e0,_⟩ hB=>doV_move e0)
      |1,_=>exact G.obv [] rfl rfl (fun A w _ hB=>cl0 cf_impl_Base (bsI w))
      |2,_=>exact G.obv [(9,.pointer (some ⟨w1.heap.size+1+1,0,none⟩))] rfl rfl (fun A w ⟨e0,_⟩ hB=>ld_pt e0 (hB.cell q0 (by simp)) (hB.cell q1 (by simp)) (hB.cell q2' (by simp)))
      |3,_=>exact G.obv [(21,.slice (some ⟨H1,0,none⟩) 1 1)] rfl rfl (fun A w ⟨e0,_⟩ hB=>doV_move e0)
      |4,_=>exact G.obv [(14,.pointer (some ⟨w2.heap.size,0,none⟩))] rfl rfl (fun A w ⟨e0,_⟩ hB=>fa_evd0 e0)
      |5,_=>exact G.obv [(91,.pointer (some ⟨w2.heap.size,0,none⟩))] rfl rfl (fun A w ⟨e0,_⟩ hB=>ld_ptsl e0 (hB.cell m0 (by simp)))
      |6,_=>exact G.obv [(14,.pointer (some ⟨w2.heap.size,0,none⟩))] rfl rfl (fun A w ⟨e0,_⟩ hB=>fa_evd1 e0)
      |7,_=>exact G.obv [(93,.pointer (some ⟨w2.heap.size,1,none⟩))] rfl rfl (fun A w ⟨e0,_⟩ hB=>ld_prf e0 (hB.cell m1 (by simp)) (hB.cell m2 (by simp)))
      |8,_=>exact G.obv [(87,.int .i64 1),(88,.agg #[int u64 (px gG),int u64 (py gG),.bool (pb gG)]),(89,.agg #[int u64 x3,int u64 y3,.bool c3]),(90,.slice (some ⟨H1,0,none⟩) 1 1),(92,.slice q2 n cap2),(94,.agg #[int u64 pc,int u64 ps])] rfl rfl (fun A w ⟨e0,e1,e2,e3,e4,e5,_⟩ hB=>cl6 cf_impl_Check e0 e1 e2 e3 e4 e5 (CK' w hB))
      |9,_=>exact G.obv [(95,.bool ok)] rfl rfl (fun A w ⟨e0,_⟩ hB=>doV_assign e0)
      |ix+10,h=>exact absurd h (by simp)
    intro f W2 hS _ _ _ _;replace hb:=hb.drew.trans (hS.below.mono hb.size);clear hS CK CK' q0 q1 q2' m0 m1 m2;simp only [puts,List.foldl,Act.put,List.setIfInBounds_toArray,List.set_cons_zero,List.set_cons_succ];rcases hok with ⟨rfl,rfl⟩|⟨rfl,rfl⟩
    · go_wp2;go_ret;exact⟨rfl,hb⟩
    · go_wp2;go_ret;exact⟨rfl,hb⟩
  · go_wp2;clear g0 g1 g2;replace hp2:=hP hp2 hal;replace rE2:=rE2.keep hal;replace rB2:=rB2.keep hal;replace hb:=hb.tr hal;clear hal rP;generalize w4.heap.size=H1 at*;generalize w4.alloc _=W1 at*;have q0:W1.drew.cell? ⟨w2.heap.size+1,3,none⟩=_:=rB2.cell (k:=3) rfl;have q1:W1.drew.cell? ⟨w2.heap.size+1,4,none⟩=_:=rB2.cell (k:=4) rfl;have q2':W1.drew.cell? ⟨w2.heap.size+1,5,none⟩=_:=rB2.cell (k:=5) rfl;have m0:W1.drew.cell? ⟨w2.heap.size,0,none⟩=_:=rE2.cell (k:=0) rfl;have m1:W1.drew.cell? ⟨w2.heap.size,1,none⟩=_:=rE2.cell (k:=1) rfl;have m2:W1.drew.cell? ⟨w2.heap.size,2,none⟩=_:=rE2.cell (k:=2) rfl;have CK':∀w',G.Sides [] W1.drew w'→_:=fun w' h=>CK w' H1 q2 cap2 (hb.drew.trans (h.below.mono hb.size)) (hP hp2 ((Below.refl _ W1).drew.trans h.below)) (rO.drew.keep h.below)
    refine G.pool_list (W:=W1) [] [.val (.int .i64 2),
        .val (.agg #[int u64 (px gG),int u64 (py gG),.bool (pb gG)]),
        .val (.pointer (some ⟨w2.heap.size+1,3,none⟩)),
        .val (.agg #[int u64 x2,int u64 y2,.bool c2]),
        .val (.pointer (some ⟨w2.heap.size,0,none⟩)),
        .val (.slice q2 n cap2),
        .val (.slice (some ⟨H1,0,none⟩) 1 1),
        .val (.pointer (some ⟨w2.heap.size,1,none⟩)),
        .val (.agg #[int u64 pc,int u64 ps]),
        .val (.bool ok),
        .val (.bool ok)] [[3],[],[15],[98],[14],[100],[21],[14],[103],[96,97,99,101,102,104],[105]] (fun f=> [(some 96,.int .i64 2),(some 97,.agg #[int u64 (px gG),int u64 (py gG),.bool (pb gG)]),(some 98,.pointer (some ⟨w2.heap.size+1,3,none⟩)),(some 99,.agg #[int u64 x2,int u64 y2,.bool c2]),(some 100,.pointer (some ⟨w2.heap.size,0,none⟩)),(some 101,.slice q2 n cap2),(some 102,.slice (some ⟨H1,0,none⟩) 1 1),(some 103,.pointer (some ⟨w2.heap.size,1,none⟩)),(some 104,.agg #[int u64 pc,int u64 ps]),(some 105,.bool ok),(some 22,.bool ok)]) (by kernel_rfl) (by kernel_rfl) (by kernel_rfl) (by kernel_rfl) (fun _=>by kernel_rfl) (G.last_of [] (fun F R hm=>by simp at hm) (fun ob ob' k hm=>by simp at hm) (fun b ob ob' hm=>by simp at hm)) (fun b ob ob' hm=>by simp at hm) ?_ ?_
    · intro ix hix
      match ix,hix with
      |0,_=>exact G.obv [(3,.int .i64 2)] rfl rfl (fun A w ⟨e0,_⟩ hB=>doV_move e0)
      |1,_=>exact G.obv [] rfl rfl (fun A w _ hB=>cl0 cf_impl_Base (bsI w))
      |2,_=>exact G.obv [(15,.pointer (some ⟨w2.heap.size+1,0,none⟩))] rfl rfl (fun A w ⟨e0,_⟩ hB=>fa_bld1 e0)
      |3,_=>exact G.obv [(98,.pointer (some ⟨w2.heap.size+1,3,none⟩))] rfl rfl (fun A w ⟨e0,_⟩ hB=>ld_pt e0 (hB.cell q0 (by simp)) (hB.cell q1 (by simp)) (hB.cell q2' (by simp)))
      |4,_=>exact G.obv [(14,.pointer (some ⟨w2.heap.size,0,none⟩))] rfl rfl (fun A w ⟨e0,_⟩ hB=>fa_evd0 e0)
      |5,_=>exact G.obv [(100,.pointer (some ⟨w2.heap.size,0,none⟩))] rfl rfl (fun A w ⟨e0,_⟩ hB=>ld_ptsl e0 (hB.cell m0 (by simp)))
      |6,_=>exact G.obv [(21,.slice (some ⟨H1,0,none⟩) 1 1)] rfl rfl (fun A w ⟨e0,_⟩ hB=>doV_move e0)
      |7,_=>exact G.obv [(14,.pointer (some ⟨w2.heap.size,0,none⟩))] rfl rfl (fun A w ⟨e0,_⟩ hB=>fa_evd1 e0)
      |8,_=>exact G.obv [(103,.pointer (some ⟨w2.heap.size,1,none⟩))] rfl rfl (fun A w ⟨e0,_⟩ hB=>ld_prf e0 (hB.cell m1 (by simp)) (hB.cell m2 (by simp)))
      |9,_=>exact G.obv [(96,.int .i64 2),(97,.agg #[int u64 (px gG),int u64 (py gG),.bool (pb gG)]),(99,.agg #[int u64 x2,int u64 y2,.bool c2]),(101,.slice q2 n cap2),(102,.slice (some ⟨H1,0,none⟩) 1 1),(104,.agg #[int u64 pc,int u64 ps])] rfl rfl (fun A w ⟨e0,e1,e2,e3,e4,e5,_⟩ hB=>cl6 cf_impl_Check e0 e1 e2 e3 e4 e5 (CK' w hB))
      |10,_=>exact G.obv [(105,.bool ok)] rfl rfl (fun A w ⟨e0,_⟩ hB=>doV_assign e0)
      |ix+11,h=>exact absurd h (by simp)
    intro f W2 hS _ _ _ _;replace hb:=hb.drew.trans (hS.below.mono hb.size);clear hS CK CK' q0 q1 q2' m0 m1 m2;simp only [puts,List.foldl,Act.put,List.setIfInBounds_toArray,List.set_cons_zero,List.set_cons_succ];rcases hok with ⟨rfl,rfl⟩|⟨rfl,rfl⟩
    · go_wp2;go_ret;exact⟨rfl,hb⟩
    · go_wp2;go_ret;exact⟨rfl,hb⟩
end fnVerified
end Go.Proofs.YtmjniccfjffclaaGreatDoor
namespace Go.Proofs.YtmjniccfjffclaaGreatDoor
open Go.Proofs.Tryz Go.RowKit
open Go.Value (int)
open Go.IntKind (u64)
section
open M
def regOf:Code→Nat→Option (Array Oper)
  | .region i ops _,k=>if i=k then some ops else none
  | .seq a b,k=>(regOf a k).or (regOf b k)
  | .cond _ a b,k=>(regOf a k).or (regOf b k)
  |_,_=>none
def regsOf (f:Func)(k:Nat):Array Oper:=match f.body with
  |some c=>(regOf c k).getD #[]
  |none=>#[]
def opsEx:{o:Array Oper//regsOf Tryz.f22 28=o}:=by
  refine⟨?o,?h⟩
  case h=>
    simp only [regsOf,Tryz.f22,regOf,Nat.reduceEqDiff,if_true,if_false,Option.or,Option.getD];exact rfl
def ops28:Array Oper:=opsEx.1
theorem own_under {S:List Nat}{W0 w:World}{base:Nat}{e:TypeId}{sz:Nat}{v:Value}{n:Nat}{xs:List Value}(h:W0.ownsRow base e sz v n xs)(hS:G.Sides S W0 w)(hn:∀b∈S,b<base):w.ownsRow base e sz v n xs:=by
  obtain⟨hl,h⟩:=h;refine⟨hl,h.imp id ?_⟩;rintro⟨g,cap,cur,rfl,hg,hh,h'⟩;exact⟨g,cap,cur,rfl,hg,(hS.block g (Array.getElem?_eq_some_iff.1 hh).1 (fun hm=>absurd (hn g hm) (by omega))).trans hh,h'⟩
theorem res_4t3c {W:World}{fn:Func}{t1 t2 t3 t4 p1 p2 p3:Tmp}{b1 b2 b3:Nat}{c1 c2 c3:Array Value}(h:fn.results=#[.tmp t1,.tmp t2,.tmp t3,.tmp t4,.cell p1 30,.cell p2 39,.cell p3 34])(tmps:Array Value)
    (hp1:tmps.getD p1 undef= .pointer (some ⟨b1,0,none⟩))(hp2:tmps.getD p2 undef= .pointer (some ⟨b2,0,none⟩))(hp3:tmps.getD p3 undef= .pointer (some ⟨b3,0,none⟩))
    (k1:Bk W 30 b1 c1)(k2:Bk W 39 b2 c2)(k3:Bk W 34 b3 c3)(s1:c1.size=3)(s2:c2.size=6)(s3:c3.size=3):
    (results fn tmps).run prog W= .ok (.tuple #[tmps.getD t1 undef,tmps.getD t2 undef,tmps.getD t3 undef,tmps.getD t4 undef,.agg c1,.agg c2,.agg c3]) W:=by
  have q1:tmps[p1]?.getD undef= .pointer (some ⟨b1,0,none⟩):=by simpa using hp1
  have q2:tmps[p2]?.getD undef= .pointer (some ⟨b2,0,none⟩):=by simpa using hp2
  have q3:tmps[p3]?.getD undef= .pointer (some ⟨b3,0,none⟩):=by simpa using hp3
  have l1:=run_loadVar_mid (P:=prog) W b1 0 30 c1.toList _ k1.range underlying30 rfl (by rw [sizeEvd,Array.length_toList,s1]);have l2:=run_loadVar_mid (P:=prog) W b2 0 39 c2.toList _ k2.range underlying39 rfl (by rw [sizeBld,Array.length_toList,s2]);have l3:=run_loadVar_mid (P:=prog) W b3 0 34 c3.toList _ k3.range underlying34 rfl (by rw [Array.length_toList,s3];kernel_rfl);simp [results,h,q1,q2,q3,asAddr,l1,l2,l3]
theorem dfn_end {K:Act→World→Prop}{Q:Exit→Act→World→Prop}{m X Y q0 q1 q3 q4:Int}{q2 q5 C:Bool}{s t:ByteArray}{u0 u1 u2 u3 u4 u5 u12 u13 u14 u16 u17 u18 u19 u20 u21 u22 u25 u27 u28 u29 u30 u31 u32 u33 u34 u35 u36 u37 u38 u39 u40 u41 u42 u43 u44 u45 u46 u47 u48 u49 u50 u51 u52 u53 u54 u55 u56 u57 u58 u59 u60 u61 u62 u63 v64 u65 u66 u67 u68 u69 u70 u71 u72 u73 u74 u75 u76 u77 u78 u79 u80 u81 u82 u83 u84 u85 u86 u87 u88 u89 u90 u91 u92 u93 u94 u95 u96 u97 u98 u99 u100 u101 u102 u103 u104 u105 u106 u107 u108 u109 u110 u111 u112 u113 u114 u115 u116 u117 u118 u119 u120 u121 u122 u123 u124 u125 u126 u127 u128 u129 u130 u131 u132 u133 u134 u135 u136 u137 u138 u139 u140 u141 u142 u143 u144 u145 u146 u147:Value}(w V:World)(z:Value)(pc ps bl n:Nat)(ce:List Value)(B0 B23 B24 B26:Nat)
    (r6:Bk V 30 w.heap.size #[.slice none 0 0,int u64 0,int u64 0])
    (r7:Bk V 39 (w.heap.size+1) #[int u64 0,int u64 0,.bool false,int u64 0,int u64 0,.bool false])
    (r8:Bk V 34 (w.heap.size+1+1) #[int u64 0,int u64 0,.bool false])
    (r23:Bk V 34 B23 #[int u64 X,int u64 Y,.bool C])
    (r24:Bk V 39 B24 #[int u64 q0,int u64 q1,.bool q2,int u64 q3,int u64 q4,.bool q5])
    (r26:Bk V 30 B26 #[z,int u64 pc,int u64 ps])
    (g0:w.heap.size+1+1<B0)(g23:w.heap.size+1+1<B23)(g24:B23<B24)(g26:B24<B26)(ho:V.ownsRow B0 34 3 z n ce)(hb:Bl w V)
    (fin:∀W,Bk W 30 w.heap.size #[z,int u64 pc,int u64 ps]→Bk W 39 (w.heap.size+1) #[int u64 q0,int u64 q1,.bool q2,int u64 q3,int u64 q4,.bool q5]→Bk W 34 (w.heap.size+1+1) #[int u64 X,int u64 Y,.bool C]→W.ownsRow w.heap.size 34 3 z n ce→Bl w W→K {tmps:=#[u0,u1,.int .i64 m,.string s,.string t,int u64 bl,.pointer (some ⟨w.heap.size,0,none⟩),.pointer (some ⟨w.heap.size+1,0,none⟩),.pointer (some ⟨w.heap.size+1+1,0,none⟩),.int .i64 m,.string s,.string t,u12,u13,u14,int u64 bl,u16,u17,u18,u19,u20,u21,u22,.pointer (some ⟨B23,0,none⟩),.pointer (some ⟨B24,0,none⟩),u25,.pointer (some ⟨B26,0,none⟩),u27,u28,u29,u30,u31,u32,u33,u34,u35,u36,u37,u38,u39,u40,u41,u42,u43,u44,u45,u46,u47,u48,u49,u50,u51,u52,u53,u54,u55,u56,u57,u58,u59,u60,u61,u62,u63,v64,u65,u66,u67,u68,u69,u70,u71,u72,u73,u74,u75,u76,u77,u78,u79,u80,u81,u82,u83,u84,u85,u86,u87,u88,u89,u90,u91,u92,u93,u94,u95,u96,u97,u98,u99,u100,u101,u102,u103,u104,u105,u106,u107,u108,u109,u110,u111,u112,u113,u114,u115,u116,u117,u118,u119,u120,u121,u122,u123,u124,u125,u126,u127,u128,u129,u130,u131,u132,u133,u134,u135,u136,u137,u138,u139,u140,.int .i64 m,.string s,.string t,int u64 bl,.agg #[z,int u64 pc,int u64 ps],.agg #[int u64 q0,int u64 q1,.bool q2,int u64 q3,int u64 q4,.bool q5],.agg #[int u64 X,int u64 Y,.bool C]],defers:= []} W):
    (Code.region 28 ops28 true).wp prog (Exit.then K Q) {tmps:=#[u0,u1,u2,u3,u4,u5,.pointer (some ⟨w.heap.size,0,none⟩),.pointer (some ⟨w.heap.size+1,0,none⟩),.pointer (some ⟨w.heap.size+1+1,0,none⟩),.int .i64 m,.string s,.string t,u12,u13,u14,int u64 bl,u16,u17,u18,u19,u20,u21,u22,.pointer (some ⟨B23,0,none⟩),.pointer (some ⟨B24,0,none⟩),u25,.pointer (some ⟨B26,0,none⟩),u27,u28,u29,u30,u31,u32,u33,u34,u35,u36,u37,u38,u39,u40,u41,u42,u43,u44,u45,u46,u47,u48,u49,u50,u51,u52,u53,u54,u55,u56,u57,u58,u59,u60,u61,u62,u63,v64,u65,u66,u67,u68,u69,u70,u71,u72,u73,u74,u75,u76,u77,u78,u79,u80,u81,u82,u83,u84,u85,u86,u87,u88,u89,u90,u91,u92,u93,u94,u95,u96,u97,u98,u99,u100,u101,u102,u103,u104,u105,u106,u107,u108,u109,u110,u111,u112,u113,u114,u115,u116,u117,u118,u119,u120,u121,u122,u123,u124,u125,u126,u127,u128,u129,u130,u131,u132,u133,u134,u135,u136,u137,u138,u139,u140,u141,u142,u143,u144,u145,u146,u147],defers:= []} V:=by
  unfold ops28 opsEx;dsimp only;have hone:=onev ho pc ps;have j0:V.drew.cell? ⟨B26,0,none⟩=_:=r26.cell (k:=0) rfl;have j1:V.drew.cell? ⟨B26,1,none⟩=_:=r26.cell (k:=1) rfl;have j2:V.drew.cell? ⟨B26,2,none⟩=_:=r26.cell (k:=2) rfl;have d0:V.drew.cell? ⟨B24,0,none⟩=_:=r24.cell (k:=0) rfl;have d1:V.drew.cell? ⟨B24,1,none⟩=_:=r24.cell (k:=1) rfl;have d2:V.drew.cell? ⟨B24,2,none⟩=_:=r24.cell (k:=2) rfl;have d3:V.drew.cell? ⟨B24,3,none⟩=_:=r24.cell (k:=3) rfl;have d4:V.drew.cell? ⟨B24,4,none⟩=_:=r24.cell (k:=4) rfl;have d5:V.drew.cell? ⟨B24,5,none⟩=_:=r24.cell (k:=5) rfl;have m0:V.drew.cell? ⟨B23,0,none⟩=_:=r23.cell (k:=0) rfl;have m1:V.drew.cell? ⟨B23,1,none⟩=_:=r23.cell (k:=1) rfl;have m2:V.drew.cell? ⟨B23,2,none⟩=_:=r23.cell (k:=2) rfl
  have hS3:∀b∈ [w.heap.size,w.heap.size+1,w.heap.size+1+1],w.heap.size≤b∧b≤w.heap.size+1+1:=fun b hm=>by
    simp only [List.mem_cons,List.not_mem_nil,or_false] at hm;omega
  have n23:B23∉ [w.heap.size,w.heap.size+1,w.heap.size+1+1]:=fun h=>absurd (hS3 _ h).2 (by omega)
  have n24:B24∉ [w.heap.size,w.heap.size+1,w.heap.size+1+1]:=fun h=>absurd (hS3 _ h).2 (by omega)
  have n26:B26∉ [w.heap.size,w.heap.size+1,w.heap.size+1+1]:=fun h=>absurd (hS3 _ h).2 (by omega)
  have l6:w.heap.size<V.drew.heap.size:=r6.lt;have l7:w.heap.size+1<V.drew.heap.size:=r7.lt;have l8:w.heap.size+1+1<V.drew.heap.size:=r8.lt
  refine G.pool_list (W:=V) [w.heap.size,w.heap.size+1,w.heap.size+1+1] [.val (.int .i64 m),
      .val (.string s),
      .val (.string t),
      .val (int u64 bl),
      .val (.agg #[z,int u64 pc,int u64 ps]),
      .val (.agg #[int u64 q0,int u64 q1,.bool q2,int u64 q3,int u64 q4,.bool q5]),
      .val (.agg #[int u64 X,int u64 Y,.bool C]),
      .val (.int .i64 m),
      .val (.string s),
      .val (.string t),
      .val (int u64 bl),
      .set (w.heap.size) (.cells #[.slice none 0 0,int u64 0,int u64 0] 30) (.cells #[z,int u64 pc,int u64 ps] 30),
      .set (w.heap.size+1) (.cells #[int u64 0,int u64 0,.bool false,int u64 0,int u64 0,.bool false] 39) (.cells #[int u64 q0,int u64 q1,.bool q2,int u64 q3,int u64 q4,.bool q5] 39),
      .set (w.heap.size+1+1) (.cells #[int u64 0,int u64 0,.bool false] 34) (.cells #[int u64 X,int u64 Y,.bool C] 34)] [[9],[10],[11],[15],[26],[24],[23],[141],[142],[143],[144],[6,145],[7,146],[8,147]] (fun f=> [(some 141,.int .i64 m),(some 142,.string s),(some 143,.string t),(some 144,int u64 bl),(some 145,.agg #[z,int u64 pc,int u64 ps]),(some 146,.agg #[int u64 q0,int u64 q1,.bool q2,int u64 q3,int u64 q4,.bool q5]),(some 147,.agg #[int u64 X,int u64 Y,.bool C]),(some 2,.int .i64 m),(some 3,.string s),(some 4,.string t),(some 5,int u64 bl),(none,undef),(none,undef),(none,undef)]) (by kernel_rfl) (by kernel_rfl) (by kernel_rfl) (by kernel_rfl) (fun _=>by kernel_rfl) (G.last_of [.cells #[.slice none 0 0,int u64 0,int u64 0] 30,.cells #[int u64 0,int u64 0,.bool false,int u64 0,int u64 0,.bool false] 39,.cells #[int u64 0,int u64 0,.bool false] 34] (fun F R hm=>by simp at hm) (fun ob ob' k hm=>by simp at hm) (fun b ob ob' hm=>by simp at hm;rcases hm with h|h|h<;>simp [h])) (fun b ob ob' hm=>by simp at hm;rcases hm with ⟨rfl,rfl,-⟩|⟨rfl,rfl,-⟩|⟨rfl,rfl,-⟩<;>first|exact r6|exact r7|exact r8) ?_ ?_
  · intro ix hix
    match ix,hix with
    |0,_=>exact G.obv [(9,.int .i64 m)] rfl rfl (fun A w ⟨e0,_⟩ hB=>doV_move e0)
    |1,_=>exact G.obv [(10,.string s)] rfl rfl (fun A w ⟨e0,_⟩ hB=>doV_move e0)
    |2,_=>exact G.obv [(11,.string t)] rfl rfl (fun A w ⟨e0,_⟩ hB=>doV_move e0)
    |3,_=>exact G.obv [(15,int u64 bl)] rfl rfl (fun A w ⟨e0,_⟩ hB=>doV_move e0)
    |4,_=>exact G.obv [(26,.pointer (some ⟨B26,0,none⟩))] rfl rfl (fun A w ⟨e0,_⟩ hB=>ld_evd e0 (hB.cell j0 n26) (hB.cell j1 n26) (hB.cell j2 n26))
    |5,_=>exact G.obv [(24,.pointer (some ⟨B24,0,none⟩))] rfl rfl (fun A w ⟨e0,_⟩ hB=>ld_bld e0 (hB.cell d0 n24) (hB.cell d1 n24) (hB.cell d2 n24) (hB.cell d3 n24) (hB.cell d4 n24) (hB.cell d5 n24))
    |6,_=>exact G.obv [(23,.pointer (some ⟨B23,0,none⟩))] rfl rfl (fun A w ⟨e0,_⟩ hB=>ld_pt e0 (hB.cell m0 n23) (hB.cell m1 n23) (hB.cell m2 n23))
    |7,_=>exact G.obv [(141,.int .i64 m)] rfl rfl (fun A w ⟨e0,_⟩ hB=>doV_assign e0)
    |8,_=>exact G.obv [(142,.string s)] rfl rfl (fun A w ⟨e0,_⟩ hB=>doV_assign e0)
    |9,_=>exact G.obv [(143,.string t)] rfl rfl (fun A w ⟨e0,_⟩ hB=>doV_assign e0)
    |10,_=>exact G.obv [(144,int u64 bl)] rfl rfl (fun A w ⟨e0,_⟩ hB=>doV_assign e0)
    |11,_=>exact G.ob_set (fun f=> [(6,.pointer (some ⟨w.heap.size,0,none⟩)),(145,.agg #[z,int u64 pc,int u64 ps])]) rfl rfl rfl (by simp) l6 (fun j ob1 ob2 h=>by (rcases j with _|_|_|_|_|_|_|_|_|_|_|_|_|_|j)<;>simp [G.kindOf] at h⊢ <;>omega) (fun _=>by kernel_rfl) (fun f A w ⟨e0,e1,_⟩ hh hr=>pu_any e0 e1 hr rfl sizeEvd hone)
    |12,_=>exact G.ob_set (fun f=> [(7,.pointer (some ⟨w.heap.size+1,0,none⟩)),(146,.agg #[int u64 q0,int u64 q1,.bool q2,int u64 q3,int u64 q4,.bool q5])]) rfl rfl rfl (by simp) l7 (fun j ob1 ob2 h=>by (rcases j with _|_|_|_|_|_|_|_|_|_|_|_|_|_|j)<;>simp [G.kindOf] at h⊢ <;>omega) (fun _=>by kernel_rfl) (fun f A w ⟨e0,e1,_⟩ hh hr=>pu_any e0 e1 hr rfl sizeBld (by kernel_rfl))
    |13,_=>exact G.ob_set (fun f=> [(8,.pointer (some ⟨w.heap.size+1+1,0,none⟩)),(147,.agg #[int u64 X,int u64 Y,.bool C])]) rfl rfl rfl (by simp) l8 (fun j ob1 ob2 h=>by (rcases j with _|_|_|_|_|_|_|_|_|_|_|_|_|_|j)<;>simp [G.kindOf] at h⊢ <;>omega) (fun _=>by kernel_rfl) (fun f A w ⟨e0,e1,_⟩ hh hr=>pu_pt e0 e1 hr)
    |ix+14,h=>exact absurd h (by simp)
  intro f W9 hS _ _ _ hset;have p6:Bk W9 30 w.heap.size #[z,int u64 pc,int u64 ps]:=hset 11 _ _ _ rfl (by decide);have p7:Bk W9 39 (w.heap.size+1) #[int u64 q0,int u64 q1,.bool q2,int u64 q3,int u64 q4,.bool q5]:=hset 12 _ _ _ rfl (by decide);have p8:Bk W9 34 (w.heap.size+1+1) #[int u64 X,int u64 Y,.bool C]:=hset 13 _ _ _ rfl (by decide);have hb9:Bl w W9:=hS.under hb.drew (fun b h=>(hS3 b h).1) hb.size;have po:=own_under ho.drew hS (fun b h=>Nat.lt_of_le_of_lt (hS3 b h).2 g0);clear hset hS;simp only [puts,List.foldl,Act.put,List.setIfInBounds_toArray,List.set_cons_zero,List.set_cons_succ];exact fin W9 p6 p7 p8 (po.mono (by omega)) hb9
theorem wpList_append_ow {P:Program}{w:World}{ops:Array Oper}{rest:List Oper}{o:Oper}{a:Act}{Q:Exit→Act→World→Prop}(hgd:o.guard=none)(s x:Operand)(t:TypeId)
    (ho:o.op= .call {callee:= .builtin .append,args:=#[s,x],argTypes:=#[t,t]})
    (base:Nat)(e:TypeId)(i:TypeInfo)(z:Value)(size bytes:Nat)(ht:P.underlying t=some (.slice e))(hi:P.info? e=some i)(hz:i.zero=some z)
    (hsize:i.size=size)(hby:i.bytes=bytes)(hzs:z.cells.size=size)(hsz:0<size)
    (v:Value)(n:Nat)(xs:List Value)(hs:a.eval s=v)(hown:w.ownsRow base e size v n xs)
    (ad:Addr)(m c:Nat)(news:List Value)(hx:a.eval x= .slice (some ad) m c)(hl:news.length=m*size)(hnews:∀j u,news[j]? =some u→w.cell? (ad.add j)=some u)(h1:∀u∈news,u.oneCell'=true)
    (hm:0<m)(h63:n+m≤maxLen)(hbytes:(n+m)*bytes≤140737488355328)(hbase:base≤w.heap.size)
    (h:∀g cap w',w'.ownsRow base e size (.slice (some ⟨g,0,none⟩) (n+m) cap) (n+m) (xs++news)→w.grownBy w' v.ownBlock→g<w'.heap.size→wpList P ops Q rest (a.put o.dst (.slice (some ⟨g,0,none⟩) (n+m) cap)) w'):wpList P ops Q (o::rest) a w:=by
  refine wpList_plain hgd fun K hK=> ?_
  obtain⟨g,cap,w',hr,h2,h3,-,h5⟩:=run_append_lies (P:=P) w t o.type base e i z size bytes ht hi hz hsize hby hzs hsz v n xs hown ad m c news hl hnews h1 hm h63 hbytes hbase w.heap.size rfl;unfold Oper.wp execOp;simp only [ho,resolve,invoke,builtin,Sem.run_bind,Sem.run_pure,Result.andThen_ok,List.map_toArray,List.map_cons,List.map_nil,hs,hx,hr];exact hK _ _ (h g cap w' h2 h3 h5)
def cells3 (ps:List Pt):List Value:=ps.flatMap fun p=> [int u64 (px p),int u64 (py p),.bool (pb p)]
theorem cells3_app (a b:List Pt):cells3 (a++b)=cells3 a++cells3 b:=by simp [cells3]
theorem cells3_at:∀(ps:List Pt) (i:Nat) (p:Pt),ps[i]? =some p→(cells3 ps)[i*3]? =some (int u64 (px p))∧(cells3 ps)[i*3+1]? =some (int u64 (py p))∧(cells3 ps)[i*3+2]? =some (.bool (pb p))
  | [],i,p,h=>by simp at h
  | q::r,0,p,h=>by
    simp at h;subst h;exact⟨rfl,rfl,rfl⟩
  | q::r,i+1,p,h=>by
    have ih:=cells3_at r i p (by simpa using h);have e:cells3 (q::r)= [int u64 (px q),int u64 (py q),.bool (pb q)]++cells3 r:=rfl;rw [e];refine⟨?_,?_,?_⟩
    · rw [List.getElem?_append_right (by simp;omega)];rw [←ih.1];congr 1;simp;omega
    · rw [List.getElem?_append_right (by simp;omega)];rw [←ih.2.1];congr 1;simp;omega
    · rw [List.getElem?_append_right (by simp;omega)];rw [←ih.2.2];congr 1;simp;omega
structure Cps (W:World)(g:Nat)(ps:List Pt):Prop where
  lt:g<W.heap.size
  c0:∀i p,ps[i]? =some p→W.cell? ⟨g,0+i*3,none⟩=some (int u64 (px p))
  c1:∀i p,ps[i]? =some p→W.cell? ⟨g,0+i*3+1,none⟩=some (int u64 (py p))
  c2:∀i p,ps[i]? =some p→W.cell? ⟨g,0+i*3+2,none⟩=some (.bool (pb p))
theorem Cps.below {W W':World}{g:Nat}{L:List Pt}(h:Cps W g L){B:Nat}(hb:Below B W W')(hg:g<B):Cps W' g L:=
  have e:∀i,W'.cell? ⟨g,i,none⟩=W.cell? ⟨g,i,none⟩:=fun i=>World.cell?_of_block (w:=W) (a:=⟨g,i,none⟩) (hb.block g hg)
  ⟨Nat.lt_of_lt_of_le h.lt hb.size,fun i t ht=>(e _).trans (h.c0 i t ht),fun i t ht=>(e _).trans (h.c1 i t ht),fun i t ht=>(e _).trans (h.c2 i t ht)⟩
theorem Cps.keep {W W':World}{g:Nat}{L:List Pt}(h:Cps W g L)(hb:Bl W W'):Cps W' g L:=h.below hb h.lt
theorem Cps.drew {W:World}{g:Nat}{L:List Pt}(h:Cps W g L):Cps W.drew g L:=⟨h.lt,h.c0,h.c1,h.c2⟩
theorem Cps.of_owns {W:World}{base:Nat}{e:TypeId}{g n cap:Nat}{ps:List Pt}(h:W.ownsRow base e 3 (.slice (some ⟨g,0,none⟩) n cap) n (cells3 ps)):Cps W g ps:=by
  have hc:=h.cells (g:=g) rfl;have hlt:=(h.lt g rfl).2;refine⟨hlt,fun i p hp=> ?_,fun i p hp=> ?_,fun i p hp=> ?_⟩
  · have:=hc _ _ (cells3_at ps i p hp).1;rwa [Addr.add_mid] at this
  · have:=hc _ _ (cells3_at ps i p hp).2.1;rwa [Addr.add_mid,←Nat.add_assoc] at this
  · have:=hc _ _ (cells3_at ps i p hp).2.2;rwa [Addr.add_mid,←Nat.add_assoc] at this
theorem infoCP:(prog.info? 75).map (fun i=>(i.zero,i.size,i.bytes))=some (some (.agg #[int u64 0,int u64 0,.bool false]),3,24):=by kernel_rfl
theorem fnd_tri (t:Tri)(w:World):
    Cr 38 #[.agg #[int u64 (t.1:Int),int u64 (t.2.1:Int),.bool t.2.2]] w (.tuple #[.agg #[int u64 (px (asT t)),int u64 (py (asT t)),.bool (pb (asT t))],.bool (onT t)]):=fndW t.1 t.2.1 t.2.2 w
theorem fpsI_any (ps:List Tri)(n g o cap:Nat)(w:World)(hl:ps.length=n)(hn:n≤200)(hp:Pts w g o ps):
    Calls prog 76 #[.slice (some ⟨g,o,none⟩) n cap] w fun e w'=>(∃v,e= .returned (.tuple #[v,.bool (ps.all onT)])∧(ps.all onT=true→w'.ownsRow w.heap.size 75 3 v n (cells3 (ps.map asT)))∧(ps.all onT=false→v= .slice none 0 0))∧Bl w w':=by
  obtain⟨R,hR⟩:∃R,Hid (R=ps.all onT):=⟨_,rfl⟩;rw [←hR.out];obtain⟨i0,hi,hz0,hz1,hz2⟩:=info_parts infoCP;obtain⟨CS,hCS⟩:∃CS,Hid (CS=fun j=>cells3 ((ps.take j).map asT)):=⟨_,rfl⟩
  have hst:Hid (∀j,j<n→∃t:Tri,ps[j]? =some t∧CS (j+1)=CS j++ [int u64 (px (asT t)),int u64 (py (asT t)),.bool (pb (asT t))]):=fun j hj=>by
    obtain⟨t,ht⟩:∃t,ps[j]? =some t:=⟨_,List.getElem?_eq_getElem (by omega)⟩;refine⟨t,ht,?_⟩;rw [hCS.out];simp only;rw [List.take_add_one,ht,List.map_append,cells3_app];rfl
  have hC0:CS 0= []:=by rw [hCS.out];rfl
  have hCn:Hid (CS n=cells3 (ps.map asT)):=by simp only [Hid];rw [hCS.out,←hl];simp
  clear hCS;go_enter func76,ntmps76;go_wp2
  go_loopw [4,11] (fun ov iv wr=>∃j:Nat,j≤n∧iv= .int .i64 (j:Int)∧wr.ownsRow w.heap.size 75 3 ov j (CS j)∧Hid (∀i,i<j→∃t,ps[i]? =some t∧onT t=true)∧Bl w wr) (fun _ i _=>n-(intOf i).toNat)
  case atStart=>exact ⟨0,by omega,rfl,by rw [hC0];exact World.ownsRow_nil _ _ _ _,fun i hi=>by omega,Below.refl _ _⟩
  case round=>
    clear hC0;obtain⟨j,hj,rfl,hown,hall,hbl⟩:=hrel;have hsz:=hbl.size;by_cases hlt:j<n
    · have hli:(j:Int)<(n:Int):=by omega
      obtain⟨t,ht,hnx⟩:=hst.out j hlt;have pp:=hp.below hbl hp.lt;have c0:=pp.c0 j t ht;have c1:=pp.c1 j t ht;have c2:=pp.c2 j t ht;have F:=fnd_tri t;have hmt:t∈ps:=List.mem_of_getElem? ht
      have hRt:Hid (onT t=false→R=false):=fun h=>by
        rw [hR.out];exact List.all_eq_false.2 ⟨t,hmt,by rw [h];decide⟩
      have hnxt:Hid (onT t=true→∀i,i<j+1→∃t,ps[i]? =some t∧onT t=true):=fun h i hi=>by
        by_cases hik:i=j
        · subst hik;exact⟨t,ht,h⟩
        · exact hall.out i (by omega)
      obtain⟨tx,ty,tc⟩:=t;dsimp only at c0 c1 c2 F;clear ht pp hmt hall;generalize onT (tx,ty,tc)=ot at*;generalize asT (tx,ty,tc)=q at*;go_wp2_with fail;refine(F _).mono ?_;rintro e w1 ⟨rfl,b1⟩
      have hB1:Bl wr (w1.alloc (Obj.cells #[int u64 (px q),int u64 (py q),.bool (pb q)] 75)):=by
        have h1:=(balc wr (Obj.cells #[int u64 (tx:Int),int u64 (ty:Int),.bool tc] 34));have h2:=h1.tr b1;exact h2.alloc h2.size _
      replace hown:=below_own3 hown hB1;replace hbl:=hbl.tr hB1;have hsz1:w.heap.size≤w1.heap.size+1:=by have:=hbl.size;simpa using this
      clear F c0 c1 c2 b1 hB1
      cases ot with
      | false=>
        have hr:=hRt.out (by trivial);subst hr;clear hRt hnxt hown;go_wp2;go_ret2
        first|exact ⟨rfl,hbl⟩|exact ⟨⟨_,rfl,fun h=>by cases h,fun _=>rfl⟩,hbl⟩|(refine⟨?_,hbl⟩;simp)
      | true=>
        have hn2:Hid (∀i,i<j+1→∃t,ps[i]? =some t∧onT t=true):=hnxt.out (by trivial);clear hRt hnxt
        go_wp2_with (first
          |(at_builtin;refine wpList_append_ow rfl _ _ 76 rfl w.heap.size 75 i0 (.agg #[int u64 0,int u64 0,.bool false]) 3 24 underlying76 hi hz0 hz1 hz2 rfl (by decide) _ j (CS j) rfl (hown.alloc _) ⟨w1.heap.size+1,0,none⟩ 1 1 [int u64 (px q),int u64 (py q),.bool (pb q)] rfl rfl (World.news_of_block (cs:=#[int u64 (px q),int u64 (py q),.bool (pb q)]) (by have:=heap_alloc_new (w1.alloc (Obj.cells #[int u64 (px q),int u64 (py q),.bool (pb q)] 75)) (Obj.cells #[int u64 (px q),int u64 (py q),.bool (pb q)] 75);simpa using this)) (by simp [Value.oneCell']) (by decide) (by unfold maxLen;omega) (by omega) (by simp;omega) ?_;intro g2 cap2 w2 hown2 hgr2 hg2)
          |go_in)
        have R1:w2.ownsRow w.heap.size 75 3 (.slice (some ⟨g2,0,none⟩) (j+1) cap2) (j+1) (CS (j+1)):=by rw [hnx];exact hown2
        have R2:Bl w w2:=(hbl.alloc hbl.size _).grown hgr2 (by simp;omega) (fun r hr=>(hown.lt r hr).1);clear hown hown2 hgr2 hbl;go_wp2;go_roundw
        case rel=>
          first
            |exact ⟨j+1,by omega,by go_num,R1,hn2,R2⟩
            |((repeat apply Exists.intro);exact⟨⟨j+1,by omega,by go_num,R1,hn2,R2⟩,rfl⟩)
        case measure=>simp [intOf];omega
    · obtain rfl:j=n:=by omega
      have hr:R=true:=by
        rw [hR.out,List.all_eq_true];intro t ht;obtain⟨i,hi⟩:=List.getElem?_of_mem ht;obtain⟨t',h',h''⟩:=hall.out i (by have:=(List.getElem?_eq_some_iff.1 hi).1;omega);rw [hi] at h';cases h';exact h''
      subst hr;rw [hCn.out] at hown;clear hall hR hst hCn;go_wp2;go_ret2
      first|exact ⟨⟨_,rfl,hown⟩,hbl⟩|exact ⟨⟨rfl,hown⟩,hbl⟩|exact ⟨hown,hbl⟩|(refine⟨?_,hbl⟩;simpa using hown)
theorem app_pt {w:World}{ops:Array Oper}{rest:List Oper}{o:Oper}{a:Act}{Q:Exit→Act→World→Prop}(hgd:o.guard=none)(s x:Operand)
    (ho:o.op= .call {callee:= .builtin .append,args:=#[s,x],argTypes:=#[24,24]})(base:Nat)(v:Value)(n:Nat)(xs:List Value)(hs:a.eval s=v)(hown:w.ownsRow base 34 3 v n xs)
    (g:Nat)(X Y:Int)(C:Bool)(hx:a.eval x= .slice (some ⟨g,0,none⟩) 1 1)(hB:Bk w 34 g #[int u64 X,int u64 Y,.bool C])(hn:n≤1000)(hb:base≤w.heap.size)
    (h:∀g2 cap w',w'.ownsRow base 34 3 (.slice (some ⟨g2,0,none⟩) (n+1) cap) (n+1) (xs++ [int u64 X,int u64 Y,.bool C])→w.grownBy w' v.ownBlock→wpList prog ops Q rest (a.put o.dst (.slice (some ⟨g2,0,none⟩) (n+1) cap)) w'):wpList prog ops Q (o::rest) a w:=by
  obtain⟨i0,hi,hz0,hz1,hz2⟩:=info_parts infoP3;exact wpList_append_ow hgd s x 24 ho base 34 i0 (.agg #[int u64 0,int u64 0,.bool false]) 3 24 underlying24 hi hz0 hz1 hz2 rfl (by decide) v n xs hs hown ⟨g,0,none⟩ 1 1 [int u64 X,int u64 Y,.bool C] hx rfl (World.news_of_block (cs:=#[int u64 X,int u64 Y,.bool C]) hB) (by simp [Value.oneCell']) (by decide) (by unfold maxLen;omega) (by omega) hb (fun g2 cap w' h1 h2 _=>h g2 cap w' h1 h2)
end
end Go.Proofs.YtmjniccfjffclaaGreatDoor
