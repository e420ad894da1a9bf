import Derived.Test.YtmjniccfjffclaaGreatDoorMrg35
set_option linter.unusedVariables false
set_option maxRecDepth 100000
set_option maxHeartbeats 16000000
namespace Go.Proofs.YtmjniccfjffclaaGreatDoor
open Go.Proofs.Tryz Go.RowKit
open Go.Value (int)
open Go.IntKind (u64)
open Go.RowKit M
namespace fnBatch
theorem cf_impl_Base (args:Array Value)(w:World):(callFunc 10 args).run prog w= .ok (.enter 10 args) w:=by kernel_rfl
theorem cf_impl_Times (args:Array Value)(w:World):(callFunc 11 args).run prog w= .ok (.enter 11 args) w:=by kernel_rfl
def At (w:World)(g i:Nat)(q:Pt):Prop:=w.cell? ⟨g,i*3,none⟩=some (int u64 (px q))∧w.cell? ⟨g,i*3+1,none⟩=some (int u64 (py q))∧w.cell? ⟨g,i*3+2,none⟩=some (.bool (pb q))
theorem walk_of (a0:Option Addr)(l0 cap0 n n':Nat)(m cd key r pc ps X Y b0 b1 b3 b4:Int)(C b2 b5:Bool)(t:ByteArray)(E F:Nat→Pt)(P:World→Nat→Prop)(R:World→Option Addr→Prop)(w:World)(hl0: ¬ (1048576:Int)<(l0:Int))(hn4:n≤4)
    (hP:∀{w w':World} {g:Nat},P w g→Bl w w'→P w' g)
    (hR:∀{w w':World} {q:Option Addr},R w q→Bl w w'→R w' q)
    (hPc:∀{w:World} {g:Nat},P w g→∀i,i<n→At w g i (E i))
    (DF:∀w',Bl w w'→Calls prog 6 #[.slice a0 l0 cap0] w' fun e w''=>(∃g cap,e= .returned (.tuple #[.int .i64 m,int u64 key,.string t,.slice (some ⟨g,0,none⟩) n cap,int u64 r])∧P w'' g)∧Bl w' w'')
    (ES:∀w' g cap,Bl w w'→P w' g→Calls prog 7 #[.int .i64 m,int u64 key,.string t,.slice (some ⟨g,0,none⟩) n cap,int u64 r] w' fun e w''=>(∃q cap',e= .returned (.tuple #[.agg #[.slice q n' cap',int u64 pc,int u64 ps],.int .i64 cd])∧R w'' q)∧Bl w' w'')
    (EI:∀w' g cap,Bl w w'→P w' g→Calls prog 8 #[.int .i64 m,int u64 key,.string t,.slice (some ⟨g,0,none⟩) n cap,int u64 r] w' fun e w''=>(∃q cap',e= .returned (.tuple #[.agg #[.slice q n' cap',int u64 pc,int u64 ps],.int .i64 cd])∧R w'' q)∧Bl w' w'')
    (H: ¬ cd=0∨(cd=0∧n'=n∧(∀{w:World} {q:Option Addr},R w q→∃g,q=some ⟨g,0,none⟩∧g<w.heap.size∧∀i,i<n→At w g i (F i))∧
      (∀j w' g,j<n→Bl w w'→Bk w' 34 g #[int u64 (px (E j)),int u64 (py (E j)),.bool (pb (E j))]→Calls prog 8 #[.int .i64 m,int u64 key,.string t,.slice (some ⟨g,0,none⟩) 1 1,int u64 r] w' fun e w''=>(∃(g' cap':Nat) (pc' ps':Int),e= .returned (.tuple #[.agg #[.slice (some ⟨g',0,none⟩) 1 cap',int u64 pc',int u64 ps'],.int .i64 0])∧g'<w''.heap.size∧At w'' g' 0 (F j))∧Bl w' w'')∧
      (m=0∨(m=1∧(Cc 11 #[int u64 key,.agg #[int u64 (px gG),int u64 (py gG),.bool (pb gG)]] (.agg #[int u64 X,int u64 Y,.bool C]))∧(∀w' g cap q cap',Bl w w'→P w' g→R w' q→Cr 9 #[.int .i64 1,.agg #[int u64 (px gG),int u64 (py gG),.bool (pb gG)],.agg #[int u64 X,int u64 Y,.bool C],.slice (some ⟨g,0,none⟩) n cap,.slice q n cap',.agg #[int u64 pc,int u64 ps]] w' (.bool true)))∨(m=2∧(Cc 11 #[int u64 key,.agg #[int u64 (px gG),int u64 (py gG),.bool (pb gG)]] (.agg #[int u64 X,int u64 Y,.bool C]))∧(Cb w 12 #[.int .i64 2,.string ⟨#[97,110,121]⟩,.string t,.agg #[int u64 X,int u64 Y,.bool C],int u64 1] (.tuple #[.agg #[int u64 b0,int u64 b1,.bool b2,int u64 b3,int u64 b4,.bool b5],.int .i64 0]))∧(∀w' g cap q cap',Bl w w'→P w' g→R w' q→Cr 9 #[.int .i64 2,.agg #[int u64 (px gG),int u64 (py gG),.bool (pb gG)],.agg #[int u64 b3,int u64 b4,.bool b5],.slice q n cap',.slice (some ⟨g,0,none⟩) n cap,.agg #[int u64 pc,int u64 ps]] w' (.bool true)))))):
    Cr 3 #[.slice a0 l0 cap0] w (.bool true):=by
  go_enter func3,ntmps3;go_wp2_with fail;refine(DF _ (Below.refl _ _)).mono ?_;rintro e w1 ⟨⟨g1,cap1,rfl,p1⟩,hb⟩;go_wp2_with fail;refine(DF _ hb).mono ?_;rintro e w2 ⟨⟨g2,cap2,rfl,p2⟩,b⟩;replace p1:=hP p1 b;replace hb:=hb.tr b;clear b DF;go_wp2_with fail;refine(ES _ g2 cap2 hb p2).mono ?_;rintro e w3 ⟨⟨q3,cap3,rfl,r3⟩,b⟩;have hal:=balc w3 (Obj.cells #[.slice q3 n' cap3,int u64 pc,int u64 ps] 30);have k3:=Bk.new w3 30 #[.slice q3 n' cap3,int u64 pc,int u64 ps];replace p1:=hP (hP p1 b) hal;replace p2:=hP (hP p2 b) hal;replace hb:=hb.tr b;replace hb:=hb.tr hal;clear b hal ES r3;go_wp2_with fail;refine(EI _ g1 cap1 hb p1).mono ?_;rintro e w4 ⟨⟨q4,cap4,rfl,r4⟩,b⟩;have hal:=balc w4 (Obj.cells #[.slice q4 n' cap4,int u64 pc,int u64 ps] 30);have k4:=Bk.new w4 30 #[.slice q4 n' cap4,int u64 pc,int u64 ps];replace k3:=(k3.keep b).keep hal;replace p2:=hP (hP p2 b) hal;replace r4:=hR r4 hal;replace hb:=hb.tr b;replace hb:=hb.tr hal;clear b hal EI p1;have i0:=k3.cell (k:=0) rfl;have i1:=k3.cell (k:=1) rfl;have i2:=k3.cell (k:=2) rfl;have j0:=k4.cell (k:=0) rfl;have j1:=k4.cell (k:=1) rfl;have j2:=k4.cell (k:=2) rfl;rcases H with hc|⟨rfl,rfl,RC,E1,H⟩
  · go_wp2;go_ret;exact⟨rfl,hb⟩
  go_wp2;clear i0 i1 i2 j0 j1 j2 k3;obtain⟨g5,rfl,l5,RC⟩:=RC r4;obtain⟨W,hW⟩:∃W,W=w4.alloc (Obj.cells #[.slice (some ⟨g5,0,none⟩) n' cap4,int u64 pc,int u64 ps] 30):=⟨_,rfl⟩;rw [←hW] at k4 p2 r4 hb l5 RC
  go_loopw [17] (fun iv wr=>∃(j:Nat),j≤n'∧iv= .int .i64 (j:Int)∧Bl W wr) (fun i _=>n'-(intOf i).toNat)
  case atStart=>exact ⟨0,by omega,rfl,by rw [hW];exact Below.refl _ _⟩
  case round=>
    clear hW;obtain⟨j,hj,rfl,hbl⟩:=hrel;by_cases hlt:j<n'
    · have hli:(j:Int)<(n':Int):=by omega
      obtain⟨c0,c1,c2⟩:=hPc (hP p2 hbl) j hlt;have hB:=hb.tr hbl;have ha:=balc wr (Obj.cells #[int u64 (px (E j)),int u64 (py (E j)),.bool (pb (E j))] 34);go_wp2_with fail;refine(E1 j _ wr.heap.size hlt (hB.tr ha) (Bk.new wr 34 _)).mono ?_;rintro e w5 ⟨⟨g6,cap6,pc6,ps6,rfl,l6,d0,d1,d2⟩,b⟩;replace b:=ha.tr b;have hal:=balc w5 (Obj.cells #[.slice (some ⟨g6,0,none⟩) 1 cap6,int u64 pc6,int u64 ps6] 30);have k5:=Bk.new w5 30 #[.slice (some ⟨g6,0,none⟩) 1 cap6,int u64 pc6,int u64 ps6];replace d0:=(hal.cell (p:=⟨g6,0*3,none⟩) l6).trans d0;replace d1:=(hal.cell (p:=⟨g6,0*3+1,none⟩) l6).trans d1;replace d2:=(hal.cell (p:=⟨g6,0*3+2,none⟩) l6).trans d2;replace hbl:=hbl.tr b;replace hbl:=hbl.tr hal;obtain⟨f0,f1,f2⟩:=RC j hlt;replace f0:=(hbl.cell (p:=⟨g5,j*3,none⟩) l5).trans f0;replace f1:=(hbl.cell (p:=⟨g5,j*3+1,none⟩) l5).trans f1;replace f2:=(hbl.cell (p:=⟨g5,j*3+2,none⟩) l5).trans f2;have k4':=k4.keep hbl;have z0:=k5.cell (k:=0) rfl;have y0:=k4'.cell (k:=0) rfl;clear b hal ha hB c0 c1 c2;simp only [Nat.zero_mul,Nat.zero_add] at d0 d1 d2;go_wp2;generalize w5.heap.size=H5 at*;generalize w5.alloc _=W5 at*;go_quiet (fail);replace hbl:Bl W (W5.drewN nq):=⟨hbl.os,hbl.tape,hbl.output,hbl.size,hbl.block⟩;clear d0 d1 d2 f0 f1 f2 z0 y0 k4' k5 l6;generalize W5.drewN nq=W6 at*;go_wp2;go_roundw
      case rel=>
        first
          |exact ⟨j+1,by omega,by go_num,hbl⟩
          |((repeat apply Exists.intro);exact⟨⟨j+1,by omega,by go_num,hbl⟩,rfl⟩)
      case measure=>simp [intOf];omega
    · obtain rfl:j=n':=by omega
      replace p2:=hP p2 hbl;replace r4:=hR r4 hbl;replace k4:=k4.keep hbl;replace hb:=hb.tr hbl;clear hbl E1 RC l5 hPc hj;rcases H with rfl|⟨rfl,TI,CK⟩|⟨rfl,TI,BI,CK⟩
      · go_wp2;go_ret;exact⟨rfl,hb⟩
      · go_wp2;have m0:wr.drew.cell? ⟨w4.heap.size,0,none⟩=_:=k4.cell (k:=0) rfl;have m1:wr.drew.cell? ⟨w4.heap.size,1,none⟩=_:=k4.cell (k:=1) rfl;have m2:wr.drew.cell? ⟨w4.heap.size,2,none⟩=_:=k4.cell (k:=2) rfl;have CK':∀w',G.Sides [] wr.drew w'→_:=fun w' h=>CK w' g2 cap2 (some ⟨g5,0,none⟩) cap4 (hb.drew.trans (h.below.mono hb.size)) (hP p2 ((Below.refl _ wr).drew.trans h.below)) (hR r4 ((Below.refl _ wr).drew.trans h.below))
        refine G.pool_list (W:=wr) [] [.val (.int .i64 1),
            .val (.agg #[int u64 (px gG),int u64 (py gG),.bool (pb gG)]),
            .val (int u64 key),
            .val (.agg #[int u64 (px gG),int u64 (py gG),.bool (pb gG)]),
            .val (.agg #[int u64 X,int u64 Y,.bool C]),
            .val (.slice (some ⟨g2,0,none⟩) j cap2),
            .val (.pointer (some ⟨w4.heap.size,0,none⟩)),
            .val (.slice (some ⟨g5,0,none⟩) j cap4),
            .val (.pointer (some ⟨w4.heap.size,1,none⟩)),
            .val (.agg #[int u64 pc,int u64 ps]),
            .val (.bool true),
            .val (.bool true)] [[3],[],[4],[],[123,124],[11],[15],[127],[15],[129],[121,122,125,126,128,130],[131]] (fun f=> [(some 121,.int .i64 1),(some 122,.agg #[int u64 (px gG),int u64 (py gG),.bool (pb gG)]),(some 123,int u64 key),(some 124,.agg #[int u64 (px gG),int u64 (py gG),.bool (pb gG)]),(some 125,.agg #[int u64 X,int u64 Y,.bool C]),(some 126,.slice (some ⟨g2,0,none⟩) j cap2),(some 127,.pointer (some ⟨w4.heap.size,0,none⟩)),(some 128,.slice (some ⟨g5,0,none⟩) j cap4),(some 129,.pointer (some ⟨w4.heap.size,1,none⟩)),(some 130,.agg #[int u64 pc,int u64 ps]),(some 131,.bool true),(some 2,.bool true)]) (by kernel_rfl) (by kernel_rfl) (by kernel_rfl) (by kernel_rfl) (fun _=>by kernel_rfl) (G.last_of [] (fun F R hm=>by simp at hm) (fun ob ob' k hm=>by simp at hm) (fun b ob ob' hm=>by simp at hm)) (fun b ob ob' hm=>by simp at hm) ?_ ?_
        · intro ix hix
          match ix,hix with
          |0,_=>exact G.obv [(3,.int .i64 1)] rfl rfl (fun A w ⟨e0,_⟩ hB=>doV_move e0)
          |1,_=>exact G.obv [] rfl rfl (fun A w _ hB=>cl0 cf_impl_Base (bsI w))
          |2,_=>exact G.obv [(4,int u64 key)] rfl rfl (fun A w ⟨e0,_⟩ hB=>doV_move e0)
          |3,_=>exact G.obv [] rfl rfl (fun A w _ hB=>cl0 cf_impl_Base (bsI w))
          |4,_=>exact G.obv [(123,int u64 key),(124,.agg #[int u64 (px gG),int u64 (py gG),.bool (pb gG)])] rfl rfl (fun A w ⟨e0,e1,_⟩ hB=>cl2 cf_impl_Times e0 e1 (TI w))
          |5,_=>exact G.obv [(11,.slice (some ⟨g2,0,none⟩) j cap2)] rfl rfl (fun A w ⟨e0,_⟩ hB=>doV_move e0)
          |6,_=>exact G.obv [(15,.pointer (some ⟨w4.heap.size,0,none⟩))] rfl rfl (fun A w ⟨e0,_⟩ hB=>fa_evd0 e0)
          |7,_=>exact G.obv [(127,.pointer (some ⟨w4.heap.size,0,none⟩))] rfl rfl (fun A w ⟨e0,_⟩ hB=>ld_ptsl e0 (hB.cell m0 (by simp)))
          |8,_=>exact G.obv [(15,.pointer (some ⟨w4.heap.size,0,none⟩))] rfl rfl (fun A w ⟨e0,_⟩ hB=>fa_evd1 e0)
          |9,_=>exact G.obv [(129,.pointer (some ⟨w4.heap.size,1,none⟩))] rfl rfl (fun A w ⟨e0,_⟩ hB=>ld_prf e0 (hB.cell m1 (by simp)) (hB.cell m2 (by simp)))
          |10,_=>exact G.obv [(121,.int .i64 1),(122,.agg #[int u64 (px gG),int u64 (py gG),.bool (pb gG)]),(125,.agg #[int u64 X,int u64 Y,.bool C]),(126,.slice (some ⟨g2,0,none⟩) j cap2),(128,.slice (some ⟨g5,0,none⟩) j cap4),(130,.agg #[int u64 pc,int u64 ps])] rfl rfl (fun A w ⟨e0,e1,e2,e3,e4,e5,_⟩ hB=>cl6 cf_impl_Check e0 e1 e2 e3 e4 e5 (CK' w hB))
          |11,_=>exact G.obv [(131,.bool true)] rfl rfl (fun A w ⟨e0,_⟩ hB=>doV_assign e0)
          |ix+12,h=>exact absurd h (by simp)
        intro f W2 hS _ _ _ _;replace hb:=hb.drew.trans (hS.below.mono hb.size);clear hS CK CK' m0 m1 m2;simp only [puts,List.foldl,Act.put,List.setIfInBounds_toArray,List.set_cons_zero,List.set_cons_succ];go_wp2;go_ret;exact⟨rfl,hb⟩
      · go_wp2_with fail;refine(bsI _).mono ?_;rintro e w5 ⟨rfl,b⟩;replace p2:=hP p2 b;replace r4:=hR r4 b;replace k4:=k4.keep b;replace hb:=hb.tr b;clear b;go_wp2_with fail;refine(TI _).mono ?_;rintro e w6 ⟨rfl,b⟩;replace p2:=hP p2 b;replace r4:=hR r4 b;replace k4:=k4.keep b;replace hb:=hb.tr b;clear b TI;go_wp2_with fail;refine(BI _ hb).mono ?_;rintro e w7 ⟨rfl,b⟩;have hal:=balc w7 (Obj.cells #[int u64 b0,int u64 b1,.bool b2,int u64 b3,int u64 b4,.bool b5] 39);have kb:=Bk.new w7 39 #[int u64 b0,int u64 b1,.bool b2,int u64 b3,int u64 b4,.bool b5];replace p2:=hP (hP p2 b) hal;replace r4:=hR (hR r4 b) hal;replace k4:=(k4.keep b).keep hal;replace hb:=hb.tr b;replace hb:=hb.tr hal;clear b BI hal;go_wp2;generalize w7.heap.size=H7 at*;generalize w7.alloc _=W7 at*;have m0:W7.drew.cell? ⟨w4.heap.size,0,none⟩=_:=k4.cell (k:=0) rfl;have m1:W7.drew.cell? ⟨w4.heap.size,1,none⟩=_:=k4.cell (k:=1) rfl;have m2:W7.drew.cell? ⟨w4.heap.size,2,none⟩=_:=k4.cell (k:=2) rfl;have q0:W7.drew.cell? ⟨H7,3,none⟩=_:=kb.cell (k:=3) rfl;have q1:W7.drew.cell? ⟨H7,4,none⟩=_:=kb.cell (k:=4) rfl;have q2:W7.drew.cell? ⟨H7,5,none⟩=_:=kb.cell (k:=5) rfl;have CK':∀w',G.Sides [] W7.drew w'→_:=fun w' h=>CK w' g2 cap2 (some ⟨g5,0,none⟩) cap4 (hb.drew.trans (h.below.mono hb.size)) (hP p2 ((Below.refl _ W7).drew.trans h.below)) (hR r4 ((Below.refl _ W7).drew.trans h.below))
        refine G.pool_list (W:=W7) [] [.val (.int .i64 0),
            .val (.bool true),
            .val (.bool true),
            .val (.int .i64 2),
            .val (.agg #[int u64 (px gG),int u64 (py gG),.bool (pb gG)]),
            .val (.pointer (some ⟨H7,3,none⟩)),
            .val (.agg #[int u64 b3,int u64 b4,.bool b5]),
            .val (.pointer (some ⟨w4.heap.size,0,none⟩)),
            .val (.slice (some ⟨g5,0,none⟩) j cap4),
            .val (.slice (some ⟨g2,0,none⟩) j cap2),
            .val (.pointer (some ⟨w4.heap.size,1,none⟩)),
            .val (.agg #[int u64 pc,int u64 ps]),
            .val (.bool true),
            .val (.bool true),
            .val (.bool true)] [[21],[143],[144],[3],[],[20],[148],[15],[150],[11],[15],[153],[146,147,149,151,152,154],[145,155],[156]] (fun f=> [(some 143,.int .i64 0),(some 144,.bool true),(some 145,.bool true),(some 146,.int .i64 2),(some 147,.agg #[int u64 (px gG),int u64 (py gG),.bool (pb gG)]),(some 148,.pointer (some ⟨H7,3,none⟩)),(some 149,.agg #[int u64 b3,int u64 b4,.bool b5]),(some 150,.pointer (some ⟨w4.heap.size,0,none⟩)),(some 151,.slice (some ⟨g5,0,none⟩) j cap4),(some 152,.slice (some ⟨g2,0,none⟩) j cap2),(some 153,.pointer (some ⟨w4.heap.size,1,none⟩)),(some 154,.agg #[int u64 pc,int u64 ps]),(some 155,.bool true),(some 156,.bool true),(some 2,.bool true)]) (by kernel_rfl) (by kernel_rfl) (by kernel_rfl) (by kernel_rfl) (fun _=>by kernel_rfl) (G.last_of [] (fun F R hm=>by simp at hm) (fun ob ob' k hm=>by simp at hm) (fun b ob ob' hm=>by simp at hm)) (fun b ob ob' hm=>by simp at hm) ?_ ?_
        · intro ix hix
          match ix,hix with
          |0,_=>exact G.obv [(21,.int .i64 0)] rfl rfl (fun A w ⟨e0,_⟩ hB=>doV_move e0)
          |1,_=>exact G.obv [(143,.int .i64 0)] rfl rfl (fun A w ⟨e0,_⟩ hB=>eq_intT e0 rfl)
          |2,_=>exact G.obv [(144,.bool true)] rfl rfl (fun A w ⟨e0,_⟩ hB=>doV_move e0)
          |3,_=>exact G.obv [(3,.int .i64 2)] rfl rfl (fun A w ⟨e0,_⟩ hB=>doV_move e0)
          |4,_=>exact G.obv [] rfl rfl (fun A w _ hB=>cl0 cf_impl_Base (bsI w))
          |5,_=>exact G.obv [(20,.pointer (some ⟨H7,0,none⟩))] rfl rfl (fun A w ⟨e0,_⟩ hB=>fa_bld1 e0)
          |6,_=>exact G.obv [(148,.pointer (some ⟨H7,3,none⟩))] rfl rfl (fun A w ⟨e0,_⟩ hB=>ld_pt e0 (hB.cell q0 (by simp)) (hB.cell q1 (by simp)) (hB.cell q2 (by simp)))
          |7,_=>exact G.obv [(15,.pointer (some ⟨w4.heap.size,0,none⟩))] rfl rfl (fun A w ⟨e0,_⟩ hB=>fa_evd0 e0)
          |8,_=>exact G.obv [(150,.pointer (some ⟨w4.heap.size,0,none⟩))] rfl rfl (fun A w ⟨e0,_⟩ hB=>ld_ptsl e0 (hB.cell m0 (by simp)))
          |9,_=>exact G.obv [(11,.slice (some ⟨g2,0,none⟩) j cap2)] rfl rfl (fun A w ⟨e0,_⟩ hB=>doV_move e0)
          |10,_=>exact G.obv [(15,.pointer (some ⟨w4.heap.size,0,none⟩))] rfl rfl (fun A w ⟨e0,_⟩ hB=>fa_evd1 e0)
          |11,_=>exact G.obv [(153,.pointer (some ⟨w4.heap.size,1,none⟩))] rfl rfl (fun A w ⟨e0,_⟩ hB=>ld_prf e0 (hB.cell m1 (by simp)) (hB.cell m2 (by simp)))
          |12,_=>exact G.obv [(146,.int .i64 2),(147,.agg #[int u64 (px gG),int u64 (py gG),.bool (pb gG)]),(149,.agg #[int u64 b3,int u64 b4,.bool b5]),(151,.slice (some ⟨g5,0,none⟩) j cap4),(152,.slice (some ⟨g2,0,none⟩) j cap2),(154,.agg #[int u64 pc,int u64 ps])] rfl rfl (fun A w ⟨e0,e1,e2,e3,e4,e5,_⟩ hB=>cl6 cf_impl_Check e0 e1 e2 e3 e4 e5 (CK' w hB))
          |13,_=>exact G.obv [(145,.bool true),(155,.bool true)] rfl rfl (fun A w ⟨e0,e1,_⟩ hB=>Z.pkT e0 e1)
          |14,_=>exact G.obv [(156,.bool true)] rfl rfl (fun A w ⟨e0,_⟩ hB=>doV_assign e0)
          |ix+15,h=>exact absurd h (by simp)
        intro f W2 hS _ _ _ _;replace hb:=hb.drew.trans (hS.below.mono hb.size);clear hS CK CK' m0 m1 m2 q0 q1 q2;simp only [puts,List.foldl,Act.put,List.setIfInBounds_toArray,List.set_cons_zero,List.set_cons_succ];go_wp2;go_ret;exact⟨rfl,hb⟩
end fnBatch
end Go.Proofs.YtmjniccfjffclaaGreatDoor
namespace Go.Proofs.YtmjniccfjffclaaGreatDoor
open Go.Proofs.Tryz Go.RowKit
open Go.Value (int)
open Go.IntKind (u64)
section
open M
section
variable (mode ax ay bx by':Int)(ac bc oa ob:Bool)(gc oc nc cc gd od nd cd:Nat)(w:World)
theorem batS_no (M:∀w,Calls prog 63 #[.int .i64 mode] w fun e w'=>e= .returned (.bool (decide (0≤mode∧mode≤2)))∧w=w')
    (OA:Cc 48 #[.agg #[int u64 ax,int u64 ay,.bool ac]] (.bool oa))
    (OB:Cc 48 #[.agg #[int u64 bx,int u64 by',.bool bc]] (.bool ob))
    (h: ¬ ((0≤mode∧mode≤2)∧oa=true∧ob=true∧(1≤nc∧nc≤200)∧nc=nd)):
    Cr 65 #[.int .i64 mode,.agg #[int u64 ax,int u64 ay,.bool ac],.agg #[int u64 bx,int u64 by',.bool bc],.slice (some ⟨gc,oc,none⟩) nc cc,.slice (some ⟨gd,od,none⟩) nd cd] w (.bool false):=by
  have hb0:Bl w ((w.alloc (Obj.cells #[int u64 ax,int u64 ay,.bool ac] 34)).alloc (Obj.cells #[int u64 bx,int u64 by',.bool bc] 34)):=((Below.refl _ w).alloc (Nat.le_refl _) _).alloc (by simp) _;have rb:R3 ((w.alloc (Obj.cells #[int u64 ax,int u64 ay,.bool ac] 34)).alloc (Obj.cells #[int u64 bx,int u64 by',.bool bc] 34)) (w.heap.size+1) bx by' bc:=(R3.new _ bx by' bc).at (by simp)
  by_cases hm:0≤mode∧mode≤2
  · rw [decide_eq_true hm] at M
    cases oa with
    | false=>
      clear OB h;go_enter func65,ntmps65;go_wp2_with fail;refine(M _).mono ?_;rintro e w1 ⟨rfl,rfl⟩;go_wp2_with fail;refine(OA _).mono ?_;rintro e w2 ⟨rfl,b2⟩;replace hb0:=hb0.tr b2;go_wp2;go_ret;exact⟨rfl,hb0⟩
    | true=>
      go_enter func65,ntmps65;go_wp2_with fail;refine(M _).mono ?_;rintro e w1 ⟨rfl,rfl⟩;go_wp2_with fail;refine(OA _).mono ?_;rintro e w2 ⟨rfl,b2⟩;replace rb:=rb.below b2 rb.lt;replace hb0:=hb0.tr b2;have c0:=rb.c0;have c1:=rb.c1;have c2:=rb.c2;clear rb M OA b2;go_wp2_with fail;refine(OB _).mono ?_;rintro e w3 ⟨rfl,b3⟩;replace hb0:=hb0.tr b3;clear OB c0 c1 c2 b3
      cases ob with
      | false=>
        go_wp2;go_ret;exact⟨rfl,hb0⟩
      | true=>
        by_cases h1:nc<1
        · have g1:(nc:Int)<1:=by omega
          go_wp2;go_ret;exact⟨rfl,hb0⟩
        · have g1: ¬ (nc:Int)<1:=by omega
          by_cases h2:200<nc
          · have g2:(200:Int)<(nc:Int):=by omega
            go_wp2;go_ret;exact⟨rfl,hb0⟩
          · have g2: ¬ (200:Int)<(nc:Int):=by omega
            have g3:((nc:Int) !=(nd:Int))=true:=by
              simp only [bne_iff_ne,ne_eq];intro e;exact h ⟨hm,by trivial,by trivial,⟨by omega,by omega⟩,by omega⟩
            go_wp2;go_ret;exact⟨rfl,hb0⟩
  · rw [decide_eq_false hm] at M;clear OA OB h;go_enter func65,ntmps65;go_wp2_with fail;refine(M _).mono ?_;rintro e w1 ⟨rfl,rfl⟩;go_wp2;go_ret;exact⟨rfl,hb0⟩
theorem batS_pts (cs ds:List Tri)(hlc:cs.length=nc)(hld:ds.length=nc)(h1:1≤nc)(h2:nc≤200)(hc:Pts w gc oc cs)(hd:Pts w gd od ds)
    (M:∀w,Calls prog 63 #[.int .i64 mode] w fun e w'=>e= .returned (.bool true)∧w=w')
    (OA:Cc 48 #[.agg #[int u64 ax,int u64 ay,.bool ac]] (.bool true))
    (OB:Cc 48 #[.agg #[int u64 bx,int u64 by',.bool bc]] (.bool true)):
    Cr 65 #[.int .i64 mode,.agg #[int u64 ax,int u64 ay,.bool ac],.agg #[int u64 bx,int u64 by',.bool bc],.slice (some ⟨gc,oc,none⟩) nc cc,.slice (some ⟨gd,od,none⟩) nc cd] w (.bool (cs.all onT&&ds.all onT)):=by
  obtain⟨R,hR⟩:∃R,Hid (R=(cs.all onT&&ds.all onT)):=⟨_,rfl⟩;rw [←hR.out];have hb0:Bl w ((w.alloc (Obj.cells #[int u64 ax,int u64 ay,.bool ac] 34)).alloc (Obj.cells #[int u64 bx,int u64 by',.bool bc] 34)):=((Below.refl _ w).alloc (Nat.le_refl _) _).alloc (by simp) _;have rb:R3 ((w.alloc (Obj.cells #[int u64 ax,int u64 ay,.bool ac] 34)).alloc (Obj.cells #[int u64 bx,int u64 by',.bool bc] 34)) (w.heap.size+1) bx by' bc:=(R3.new _ bx by' bc).at (by simp)
  have g1: ¬ (nc:Int)<1:=by omega
  have g2: ¬ (200:Int)<(nc:Int):=by omega
  go_enter func65,ntmps65;go_wp2_with fail;refine(M _).mono ?_;rintro e w1 ⟨rfl,rfl⟩;go_wp2_with fail;refine(OA _).mono ?_;rintro e w2 ⟨rfl,b2⟩;replace rb:=rb.below b2 rb.lt;replace hb0:=hb0.tr b2;have c0:=rb.c0;have c1:=rb.c1;have c2:=rb.c2;clear rb M OA b2;go_wp2_with fail;refine(OB _).mono ?_;rintro e w3 ⟨rfl,b3⟩;replace hb0:=hb0.tr b3;clear OB c0 c1 c2 b3;go_wp2
  go_loopw [11] (fun iv wr=>∃k:Nat,k≤nc∧iv= .int .i64 (k:Int)∧Hid (∀i,i<k→(∃t,cs[i]? =some t∧onT t=true)∧(∃t,ds[i]? =some t∧onT t=true))∧Bl w wr) (fun i _=>nc-(intOf i).toNat)
  case atStart=>exact ⟨0,by omega,rfl,fun i hi=>by omega,hb0⟩
  case round=>
    clear hb0;obtain⟨k,hk,rfl,hall,hbl⟩:=hrel;by_cases hlt:k<nc
    · have hli:(k:Int)<(nc:Int):=by omega
      obtain⟨t,ht⟩:∃t,cs[k]? =some t:=⟨_,List.getElem?_eq_getElem (by omega)⟩;obtain⟨u,hu⟩:∃u,ds[k]? =some u:=⟨_,List.getElem?_eq_getElem (by omega)⟩;have pc:=hc.below hbl hc.lt;have pd:=hd.below hbl hd.lt;have c0:=pc.c0 k t ht;have c1:=pc.c1 k t ht;have c2:=pc.c2 k t ht;have OT:=onS_tri t;have OU:=onS_tri u;have hmt:t∈cs:=List.mem_of_getElem? ht;have hmu:u∈ds:=List.mem_of_getElem? hu
      have hRt:Hid (onT t=false→R=false):=fun h=>by
        rw [hR.out];have:cs.all onT=false:=List.all_eq_false.2 ⟨t,hmt,by rw [h];decide⟩;rw [this];rfl
      have hRu:Hid (onT u=false→R=false):=fun h=>by
        rw [hR.out];have:ds.all onT=false:=List.all_eq_false.2 ⟨u,hmu,by rw [h];decide⟩;rw [this,Bool.and_false]
      have hnx:Hid (onT t=true→onT u=true→∀i,i<k+1→(∃t,cs[i]? =some t∧onT t=true)∧(∃t,ds[i]? =some t∧onT t=true)):=fun h h' i hi=>by
        by_cases hik:i=k
        · subst hik;exact⟨⟨t,ht,h⟩,⟨u,hu,h'⟩⟩
        · exact hall.out i (by omega)
      obtain⟨tx,ty,tc⟩:=t;obtain⟨ux,uy,uc⟩:=u;dsimp only at c0 c1 c2 OT OU;clear ht hmt hmu hall;generalize onT (tx,ty,tc)=ot at*;generalize onT (ux,uy,uc)=ou at*;have hu0:=hu;clear hu
      have d0:Hid (∀W',Bl wr W'→W'.cell? ⟨gd,od+k*3,none⟩=some (int u64 (ux:Int))∧W'.cell? ⟨gd,od+k*3+1,none⟩=some (int u64 (uy:Int))∧W'.cell? ⟨gd,od+k*3+2,none⟩=some (.bool uc)):=fun W' hb=>by
        have hu':=hu0;have q:=pd.keep hb;exact⟨q.c0 k _ hu',q.c1 k _ hu',q.c2 k _ hu'⟩
      clear pc pd hu0;go_wp2_with fail;refine(OT _).mono ?_;rintro e w4 ⟨rfl,b4⟩;obtain⟨e0,e1,e2⟩:=d0.out w4 b4;have hb4:=hbl.tr b4;clear OT d0 c0 c1 c2 b4
      cases ot with
      | false=>
        have hr:=hRt.out (by trivial);subst hr;go_wp2;go_ret;exact⟨rfl,hb4⟩
      | true=>
        go_wp2_with fail;refine(OU _).mono ?_;rintro e w5 ⟨rfl,b5⟩;have hb5:=hb4.tr b5;clear OU e0 e1 e2 b5
        cases ou with
        | false=>
          have hr:=hRu.out (by trivial);subst hr;go_wp2;go_ret;exact⟨rfl,hb5⟩
        | true=>
          have hn2:Hid (∀i,i<k+1→(∃t,cs[i]? =some t∧onT t=true)∧(∃t,ds[i]? =some t∧onT t=true)):=hnx.out (by trivial) (by trivial);clear hnx hRt hRu;go_wp2;go_roundw
          case rel=>
            first
              |exact ⟨k+1,by omega,by go_num,hn2,hb5⟩
              |((repeat apply Exists.intro);exact⟨⟨k+1,by omega,by go_num,hn2,hb5⟩,rfl⟩)
          case measure=>simp [intOf];omega
    · obtain rfl:k=nc:=by omega
      have hr:R=true:=by
        rw [hR.out,Bool.and_eq_true,List.all_eq_true,List.all_eq_true];constructor
        · intro t ht;obtain⟨i,hi⟩:=List.getElem?_of_mem ht;obtain⟨t',h',h''⟩:=(hall.out i (by have:=(List.getElem?_eq_some_iff.1 hi).1;omega)).1;rw [hi] at h';cases h';exact h''
        · intro t ht;obtain⟨i,hi⟩:=List.getElem?_of_mem ht;obtain⟨t',h',h''⟩:=(hall.out i (by have:=(List.getElem?_eq_some_iff.1 hi).1;omega)).2;rw [hi] at h';cases h';exact h''
      subst hr;clear hall hR;go_wp2;go_ret;exact⟨rfl,hbl⟩
end
theorem batS_any (mode:Int)(a b:Tri)(cs ds:List Tri)(gc oc cc gd od cd:Nat)(w:World)(hc:Pts w gc oc cs)(hd:Pts w gd od ds):
    Cr 65 #[.int .i64 mode,triW a,triW b,.slice (some ⟨gc,oc,none⟩) cs.length cc,.slice (some ⟨gd,od,none⟩) ds.length cd] w (.bool (batB mode a b cs ds)):=by
  by_cases h:(0≤mode∧mode≤2)∧onT a=true∧onT b=true∧(1≤cs.length∧cs.length≤200)∧cs.length=ds.length
  · have e:batB mode a b cs ds=(cs.all onT&&ds.all onT):=by
      unfold batB;obtain⟨h1,h2,h3,h4,h5⟩:=h;rw [decide_eq_true h1,h2,h3,decide_eq_true h4,decide_eq_true h5];rfl
    obtain⟨h1,h2,h3,h4,h5⟩:=h;rw [e,←h5];exact batS_pts mode _ _ _ _ _ _ gc oc cs.length cc gd od cd w cs ds rfl h5.symm h4.1 h4.2 hc hd (fun w=>modS_yes mode w h1.1 h1.2) (fun w=>h2▸onS_tri a w) (fun w=>h3▸onS_tri b w)
  · have e:batB mode a b cs ds=false:=by
      cases hh:batB mode a b cs ds with
      |false=>rfl
      | true=>
        rw [batB_iff] at hh;obtain⟨h1,h2,h3,h4,h5,-,-⟩:=hh;exact absurd ⟨h1,h2,h3,h4,h5⟩ h
    rw [e];refine batS_no mode _ _ _ _ _ _ (onT a) (onT b) gc oc cs.length cc gd od ds.length cd w (fun w=> ?_) (fun w=>onS_tri a w) (fun w=>onS_tri b w) h;by_cases hm:0≤mode∧mode≤2
    · rw [decide_eq_true hm];exact modS_yes mode w hm.1 hm.2
    · rw [decide_eq_false hm];exact modS_no mode w hm
theorem does_append {w:World}{o:Oper}{a:Act}(s x:Operand)(t:TypeId)(ho:o.op= .call {callee:= .builtin .append,args:=#[s,x],argTypes:=#[t,t]})
    (base:Nat)(e:TypeId)(i:TypeInfo)(z:Value)(bytes:Nat)(ht:prog.underlying t=some (.slice e))(hi:prog.info? e=some i)(hz:i.zero=some z)
    (hsize:i.size=1)(hby:i.bytes=bytes)(hzs:z.cells.size=1)
    (g n cap:Nat)(xs:List Value)(hs:a.eval s= .slice (some ⟨g,0,none⟩) n cap)(hown:Row w base g n cap xs)
    (ad:Addr)(m c:Nat)(news:List Value)(hx:a.eval x= .slice (some ad) m c)(hl:news.length=m)(hnews:∀j u,news[j]? =some u→w.cell? (ad.add j)=some u)(h1:∀u∈news,u.oneCell'=true)
    (h63:n+m≤maxLen)(hbytes:(n+m)*bytes≤140737488355328)(hbase:base≤w.heap.size):
    Does prog o a w fun v w'=>∃g' cap',v= .slice (some ⟨g',0,none⟩) (n+m) cap'∧Row w' base g' (n+m) cap' (xs++news)∧w.grownBy w' (some g):=
  fun Q K hK=>wp_append_row s x t ho base e i z bytes ht hi hz hsize hby hzs g n cap xs hs hown ad m c news hx hl hnews h1 h63 hbytes hbase w.heap.size rfl
    fun g' cap' w' h2 h3 _ _=>hK _ _ ⟨g',cap',rfl,h2,h3⟩
theorem puS_tri (t:Tri)(w:World):Cr 95 #[.agg #[int u64 (t.1:Int),int u64 (t.2.1:Int),.bool t.2.2]] w (.string (ptB (asT t))):=putS_any t.1 t.2.1 t.2.2 w
theorem infoW5:(prog.info? 23).map (fun i=>(i.zero,i.size,i.bytes))=some (some (int u64 0),1,8):=by kernel_rfl
theorem wgtS_any (k:Nat)(b:Tri)(cs ds:List Tri)(n gc oc cc gd od cd:Nat)(w:World)(hk:k<3)(hlc:cs.length=n)(hld:ds.length=n)(hn:n≤200)(hc:Pts w gc oc cs)(hd:Pts w gd od ds):
    Calls prog 67 #[.int .i64 k,.agg #[int u64 (b.1:Int),int u64 (b.2.1:Int),.bool b.2.2],.slice (some ⟨gc,oc,none⟩) n cc,.slice (some ⟨gd,od,none⟩) n cd] w fun e w'=>∃g cap,e= .returned (.slice (some ⟨g,0,none⟩) n cap)∧Row w' w.heap.size g n cap ((wgts k (asT b) (cs.map asT) (ds.map asT) n).map (Value.int .u64))∧Bl w w':=by
  obtain⟨i0,hi,hz0,hz1,hz2⟩:=info_parts infoW5;obtain⟨WS,hWS⟩:∃WS,Hid (WS=wgts k (asT b) (cs.map asT) (ds.map asT)):=⟨_,rfl⟩;rw [←hWS.out];have hPb:=puS_tri b;have hZb:=fun w=>sizS_any (ptB (asT b)) w (by rw [ptB_size];omega)
  have hTg:=fun w=>tagS_any ⟨#[83,101,101,100,45]⟩ k w hk (by decide)
  have hzt:=seedT_size k hk;have hZt:=fun w=>sizS_any (seedT k) w (by omega)
  have hSh:=fun w=>shaS_any (seedM k (asT b)) w (by unfold seedM;rw [ByteArray.size_append,sizB_size,sizB_size,ptB_size];omega)
  have hss:(seedB k (asT b)).size=32:=by unfold seedB;rw [strOfNums_size,shaF_length]
  have hZs:=fun w=>sizS_any (seedB k (asT b)) w (by omega)
  have q0:(sizB (ptB (asT b))).size+(sizB (seedT k)).size≤9223372036854775807:=by rw [sizB_size,sizB_size,ptB_size];omega
  change∀w,Calls _ _ _ _ (fun e w'=>e= .returned (.string (seedT k))∧_) at hTg;change∀w,Calls _ _ #[.string (sizB (ptB (asT b))++sizB (seedT k))] _ (fun e w'=>e= .returned (.string (seedB k (asT b)))∧_) at hSh
  have hgw:Hid (∀i,i<n→∃t u,cs[i]? =some t∧ds[i]? =some u∧WS (i+1)=WS i++ [((scaN (sizB (seedB k (asT b))++numB i++sizB (ptB (asT t))++sizB (ptB (asT u))++compB) k:Nat):Int)]):=fun i hi=>by
    obtain⟨t,ht⟩:∃t,cs[i]? =some t:=⟨_,List.getElem?_eq_getElem (by omega)⟩;obtain⟨u,hu⟩:∃u,ds[i]? =some u:=⟨_,List.getElem?_eq_getElem (by omega)⟩;refine⟨t,u,ht,hu,?_⟩;rw [hWS.out,wgts_succ];have e1:(cs.map asT).getD i none=asT t:=by rw [List.getD_eq_getElem?_getD,List.getElem?_map,ht];rfl
    have e2:(ds.map asT).getD i none=asT u:=by rw [List.getD_eq_getElem?_getD,List.getElem?_map,hu];rfl
    rw [e1,e2];rfl
  have hW0:WS 0= []:=by rw [hWS.out];rfl
  clear hWS;generalize seedB k (asT b)=SD at*;generalize seedT k=ST at*;have hr5:=R3.new w b.1 b.2.1 b.2.2;have hb5:=balc w (Obj.cells #[int u64 (b.1:Int),int u64 (b.2.1:Int),.bool b.2.2] 34);go_enter func67,ntmps67;go_wp2_with fail;refine(hPb _).mono ?_;rintro e w1 ⟨rfl,b1⟩;replace hb5:=hb5.tr b1;go_wp2_with fail;refine(hZb _).mono ?_;rintro e w2 ⟨rfl,b2⟩;replace hb5:=hb5.tr b2;go_wp2_with fail;refine(hTg _).mono ?_;rintro e w3 ⟨rfl,b3⟩;replace hb5:=hb5.tr b3;go_wp2_with fail;refine(hZt _).mono ?_;rintro e w4 ⟨rfl,b4⟩;replace hb5:=hb5.tr b4;go_wp2_with fail;refine(hSh _).mono ?_;rintro e w5 ⟨rfl,b5⟩;replace hb5:=hb5.tr b5;clear hPb hZb hTg hZt hSh b1 b2 b3 b4 b5 hr5 q0
  have hr0:Row (w5.alloc (.cells #[] 23)) w.heap.size w5.heap.size 0 0 ((WS 0).map (Value.int .u64)):=by
    rw [hW0];exact Row.of_block (n:=0) (cs:=#[]) (heap_alloc_new w5 _) hb5.size (by simp) (by simp)
  have hb6:=hb5.alloc hb5.size (Obj.cells #[] 23);clear hb5 hW0;go_wp2
  go_loopw [10,11] (fun ov iv wr=>∃j g cap:Nat,j≤n∧iv= .int .i64 (j:Int)∧ov= .slice (some ⟨g,0,none⟩) j cap∧Row wr w.heap.size g j cap ((WS j).map (Value.int .u64))∧Bl w wr) (fun _ i _=>n-(intOf i).toNat)
  case atStart=>exact ⟨0,w5.heap.size,0,by omega,rfl,rfl,hr0,hb6⟩
  case round=>
    clear hr0 hb6;obtain⟨j,g,cap,hj,rfl,rfl,hrow,hbl⟩:=hrel;have hsz:=hbl.size;by_cases hlt:j<n
    · have hli:(j:Int)<(n:Int):=by omega
      obtain⟨t,u,ht,hu,hnx⟩:=hgw.out j hlt;have hcv:=conv2 wr 0 (j:Int);have hn0:(0:Int)=((j/256%256:Nat):Int):=by omega
      have hn1:(j:Int)=((j%256:Nat):Int):=by omega
      have hnum:strOfNums [0,(j:Int)]=numB j:=by unfold numB;rw [←hn0,←hn1]
      clear hn0 hn1;rw [hnum] at hcv;have e1:(j:Int).tdiv 256=0:=Int.tdiv_eq_zero_of_lt (by omega) (by omega);have e2:IntKind.u8.wrap (j:Int)=(j:Int):=u8_in _ (by omega) (by omega);have pc:=(hc.below hbl hc.lt).alloc (Obj.cells #[.int .u8 0,.int .u8 (j:Int)] 5)|>.drew;have pd:=(hd.below hbl hd.lt).alloc (Obj.cells #[.int .u8 0,.int .u8 (j:Int)] 5)|>.drew;have c0:=pc.c0 j t ht;have c1:=pc.c1 j t ht;have c2:=pc.c2 j t ht;have d0:=pd.c0 j u hu;have d1:=pd.c1 j u hu;have d2:=pd.c2 j u hu;have PT:=puS_tri t;have PU:=puS_tri u;have ZT:=fun w=>sizS_any (ptB (asT t)) w (by rw [ptB_size];omega)
      have ZU:=fun w=>sizS_any (ptB (asT u)) w (by rw [ptB_size];omega)
      have SC:=fun w=>scaS_any (sizB SD++numB j++sizB (ptB (asT t))++sizB (ptB (asT u))++compB) k w hk (by
        simp only [ByteArray.size_append,sizB_size,numB_size,ptB_size,hss]
        rw [show compB.size=9 from rfl];omega)
      have q1:(sizB SD).size+(numB j).size≤9223372036854775807:=by rw [sizB_size,numB_size];omega
      have q2:(sizB SD++numB j).size+(sizB (ptB (asT t))).size≤9223372036854775807:=by simp only [ByteArray.size_append,sizB_size,numB_size,ptB_size];omega
      have q3:(sizB SD++numB j++sizB (ptB (asT t))).size+(sizB (ptB (asT u))).size≤9223372036854775807:=by simp only [ByteArray.size_append,sizB_size,numB_size,ptB_size];omega
      have q4:(sizB SD++numB j++sizB (ptB (asT t))++sizB (ptB (asT u))).size+compB.size≤9223372036854775807:=by
        simp only [ByteArray.size_append,sizB_size,numB_size,ptB_size];rw [show compB.size=9 from rfl];omega
      obtain⟨tx,ty,tc⟩:=t;obtain⟨ux,uy,uc⟩:=u;dsimp only at c0 c1 c2 d0 d1 d2 PT PU;clear ht hu pc pd;generalize hz:((scaN (sizB SD++numB j++sizB (ptB (asT (tx,ty,tc)))++sizB (ptB (asT (ux,uy,uc)))++compB) k:Nat):Int)=z at*;clear hz;generalize sizB (ptB (asT (tx,ty,tc)))=BT at*;generalize sizB (ptB (asT (ux,uy,uc)))=BU at*;generalize ptB (asT (tx,ty,tc))=PTB at*;generalize ptB (asT (ux,uy,uc))=PUB at*;generalize hNU:numB j=NU at*;generalize hSB:sizB SD=SB at*;clear hNU hSB;go_wp2;have hrow2:=hrow.alloc (Obj.cells #[.int .u8 0,.int .u8 (j:Int)] 5);have hb2:=hbl.alloc hsz (Obj.cells #[.int .u8 0,.int .u8 (j:Int)] 5);have hs2:=hb2.size;generalize wr.alloc (Obj.cells #[.int .u8 0,.int .u8 (j:Int)] 5)=W2 at*;clear hcv hrow hbl hsz
      refine pool_prT 23 [.val (.slice (some ⟨g,0,none⟩) j cap),
          .val (.string SD),
          .val (.string SB),
          .val (.string NU),
          .val (.string (SB++NU)),
          .val (.slice (some ⟨gc,oc,none⟩) n cc),
          .val (.int .i64 (j:Int)),
          .val (.pointer (some ⟨gc,oc+j*3,none⟩)),
          .val (.agg #[int u64 (tx:Int),int u64 (ty:Int),.bool tc]),
          .val (.string PTB),
          .val (.string BT),
          .val (.string (SB++NU++BT)),
          .val (.slice (some ⟨gd,od,none⟩) n cd),
          .val (.int .i64 (j:Int)),
          .val (.pointer (some ⟨gd,od+j*3,none⟩)),
          .val (.agg #[int u64 (ux:Int),int u64 (uy:Int),.bool uc]),
          .val (.string PUB),
          .val (.string BU),
          .val (.string (SB++NU++BT++BU)),
          .val (.string (SB++NU++BT++BU++compB)),
          .val (.int .i64 (k:Int)),
          .val (int u64 z),
          .new (.cells #[int u64 z] 23) (.cells #[int u64 z] 23) 1001] [[10],[9],[36],[12],[37,38],[2],[11],[40,41],[42],[43],[44],[39,45],[3],[11],[47,48],[49],[50],[51],[46,52],[53],[0],[54,55],[56]] (fun f=> [(some 35,.slice (some ⟨g,0,none⟩) j cap),(some 36,.string SD),(some 37,.string SB),(some 38,.string NU),(some 39,.string (SB++NU)),(some 40,.slice (some ⟨gc,oc,none⟩) n cc),(some 41,.int .i64 (j:Int)),(some 42,.pointer (some ⟨gc,oc+j*3,none⟩)),(some 43,.agg #[int u64 (tx:Int),int u64 (ty:Int),.bool tc]),(some 44,.string PTB),(some 45,.string BT),(some 46,.string (SB++NU++BT)),(some 47,.slice (some ⟨gd,od,none⟩) n cd),(some 48,.int .i64 (j:Int)),(some 49,.pointer (some ⟨gd,od+j*3,none⟩)),(some 50,.agg #[int u64 (ux:Int),int u64 (uy:Int),.bool uc]),(some 51,.string PUB),(some 52,.string BU),(some 53,.string (SB++NU++BT++BU)),(some 54,.string (SB++NU++BT++BU++compB)),(some 55,.int .i64 (k:Int)),(some 56,int u64 z),(some 57,.slice (some ⟨f 22,0,none⟩) 1 1)]) (by kernel_rfl) (by kernel_rfl) (by kernel_rfl) (by kernel_rfl) (by decide) (by kernel_rfl) (fun _=>by kernel_rfl) ?_ ?_
      · intro ix hix
        match ix,hix with
        |0,_=>exact obv [(10,.slice (some ⟨g,0,none⟩) j cap)] rfl rfl (fun A w ⟨e0,_⟩ hB=>doV_move e0)
        |1,_=>exact obv [(9,.string SD)] rfl rfl (fun A w ⟨e0,_⟩ hB=>doV_move e0)
        |2,_=>exact obv [(36,.string SD)] rfl rfl (fun A w ⟨e0,_⟩ hB=>cl1 cf_spec_l5Sized e0 (hZs w))
        |3,_=>exact obv [(12,.string NU)] rfl rfl (fun A w ⟨e0,_⟩ hB=>doV_move e0)
        |4,_=>exact obv [(37,.string SB),(38,.string NU)] rfl rfl (fun A w ⟨e0,e1,_⟩ hB=>doS_cat e0 e1 q1)
        |5,_=>exact obv [(2,.slice (some ⟨gc,oc,none⟩) n cc)] rfl rfl (fun A w ⟨e0,_⟩ hB=>doV_move e0)
        |6,_=>exact obv [(11,.int .i64 (j:Int))] rfl rfl (fun A w ⟨e0,_⟩ hB=>doV_move e0)
        |7,_=>exact obv [(40,.slice (some ⟨gc,oc,none⟩) n cc),(41,.int .i64 (j:Int))] rfl rfl (fun A w ⟨e0,e1,_⟩ hB=>ix_pts e0 e1 (by omega))
        |8,_=>exact obv [(42,.pointer (some ⟨gc,oc+j*3,none⟩))] rfl rfl (fun A w ⟨e0,_⟩ hB=>ld_pt e0 (keepC c0 hB) (keepC c1 hB) (keepC c2 hB))
        |9,_=>exact obv [(43,.agg #[int u64 (tx:Int),int u64 (ty:Int),.bool tc])] rfl rfl (fun A w ⟨e0,_⟩ hB=>cl1 cf_spec_PutPoint e0 (PT w))
        |10,_=>exact obv [(44,.string PTB)] rfl rfl (fun A w ⟨e0,_⟩ hB=>cl1 cf_spec_l5Sized e0 (ZT w))
        |11,_=>exact obv [(39,.string (SB++NU)),(45,.string BT)] rfl rfl (fun A w ⟨e0,e1,_⟩ hB=>doS_cat e0 e1 q2)
        |12,_=>exact obv [(3,.slice (some ⟨gd,od,none⟩) n cd)] rfl rfl (fun A w ⟨e0,_⟩ hB=>doV_move e0)
        |13,_=>exact obv [(11,.int .i64 (j:Int))] rfl rfl (fun A w ⟨e0,_⟩ hB=>doV_move e0)
        |14,_=>exact obv [(47,.slice (some ⟨gd,od,none⟩) n cd),(48,.int .i64 (j:Int))] rfl rfl (fun A w ⟨e0,e1,_⟩ hB=>ix_pts e0 e1 (by omega))
        |15,_=>exact obv [(49,.pointer (some ⟨gd,od+j*3,none⟩))] rfl rfl (fun A w ⟨e0,_⟩ hB=>ld_pt e0 (keepC d0 hB) (keepC d1 hB) (keepC d2 hB))
        |16,_=>exact obv [(50,.agg #[int u64 (ux:Int),int u64 (uy:Int),.bool uc])] rfl rfl (fun A w ⟨e0,_⟩ hB=>cl1 cf_spec_PutPoint e0 (PU w))
        |17,_=>exact obv [(51,.string PUB)] rfl rfl (fun A w ⟨e0,_⟩ hB=>cl1 cf_spec_l5Sized e0 (ZU w))
        |18,_=>exact obv [(46,.string (SB++NU++BT)),(52,.string BU)] rfl rfl (fun A w ⟨e0,e1,_⟩ hB=>doS_cat e0 e1 q3)
        |19,_=>exact obv [(53,.string (SB++NU++BT++BU))] rfl rfl (fun A w ⟨e0,_⟩ hB=>doS_cat e0 rfl q4)
        |20,_=>exact obv [(0,.int .i64 (k:Int))] rfl rfl (fun A w ⟨e0,_⟩ hB=>doV_move e0)
        |21,_=>exact obv [(54,.string (SB++NU++BT++BU++compB)),(55,.int .i64 (k:Int))] rfl rfl (fun A w ⟨e0,e1,_⟩ hB=>cl2 cf_spec_l5Scalar e0 e1 (SC w))
        |22,_=>exact ob_slc 1 [(56,int u64 z)] rfl rfl (fun _=>by kernel_rfl) (fun A w ⟨e0,_⟩=>sl_u64s1 e0)
        |ix+23,h=>exact absurd h (by simp)
      intro f W3 hb3 hnew fuel hfuel;have hrow3:=hrow2.drew.below hb3 hrow2.hi;have hb4:=hb2.drew.trans (hb3.mono hb2.size);have hs4:=hb4.size;have hcell:=(hnew 22 _ _ _ rfl (by decide)).2;simp only [puts,List.foldl,Act.put,List.setIfInBounds_toArray,List.set_cons_zero,List.set_cons_succ]
      refine last_do2 23 24 hfuel (by kernel_rfl) (by kernel_rfl) (by kernel_rfl) rfl rfl rfl rfl
        (does_append _ _ 114 rfl w.heap.size 23 i0 (int u64 0) 8 underlying114 hi hz0 hz1 hz2 rfl g j cap ((WS j).map (Value.int .u64)) rfl hrow3 ⟨f 22,0,none⟩ 1 1 [int u64 z] rfl rfl (World.news_of_block (cs:=#[int u64 z]) hcell) (by simp [Value.oneCell']) (by unfold maxLen;omega) (by omega) hs4) ?_
      rintro v w' ⟨g2,cap2,rfl,hrow4,hgr⟩;refine does_value (execS_assign rfl) ?_;have R1:Row w' w.heap.size g2 (j+1) cap2 ((WS (j+1)).map (Value.int .u64)):=by rw [hnx,List.map_append];exact hrow4
      have R2:Bl w w':=hb4.grown hgr hs4 (fun r hr=>by simp at hr;have:=hrow3.lo;omega);clear hrow4 hgr hnew hcell hrow3 hrow2 hb4 hb3 hb2 c0 c1 c2 d0 d1 d2 PT PU ZT ZU SC q1 q2 q3 q4;simp only [Act.put,List.setIfInBounds_toArray];go_wp2;go_roundw
      case rel=>
        first
          |exact ⟨j+1,g2,cap2,by omega,by go_num,rfl,R1,R2⟩
          |((repeat apply Exists.intro);exact⟨⟨j+1,g2,cap2,by omega,by go_num,rfl,R1,R2⟩,rfl⟩)
      case measure=>simp [intOf];omega
    · obtain rfl:j=n:=by omega
      go_wp2;go_ret;exact⟨g,cap,rfl,hrow,hbl⟩
theorem mixS_any (ws:List Int)(gw nw cw:Nat)(ps:List Tri)(n gp op' cp:Nat)(w:World)(hn:n≤200)(hwl:n≤nw)(hws:∀i,i<n→0≤lk ws i∧lk ws i<18446744073709551616)
    (hgw:gw<w.heap.size)(hwc:∀i,i<n→w.cell? ⟨gw,i,none⟩=some (int u64 (lk ws i)))(hl:ps.length=n)(hp:Pts w gp op' ps):
    Cr 66 #[.slice (some ⟨gw,0,none⟩) nw cw,.slice (some ⟨gp,op',none⟩) n cp] w (.agg #[int u64 (px (mixTo ws (ps.map asT) n)),int u64 (py (mixTo ws (ps.map asT) n)),.bool (pb (mixTo ws (ps.map asT) n))]):=by
  obtain⟨MX,hMX⟩:∃MX,Hid (MX=mixTo ws (ps.map asT)):=⟨_,rfl⟩;rw [←hMX.out]
  have hst:Hid (∀j,j<n→∃(t:Tri) (k:Nat),ps[j]? =some t∧k<18446744073709551616∧lk ws j=(k:Int)∧MX (j+1)=ad (MX j) (nt k (asT t))):=fun j hj=>by
    obtain⟨t,ht⟩:∃t,ps[j]? =some t:=⟨_,List.getElem?_eq_getElem (by omega)⟩;have h1:=hws j hj;refine⟨t,(lk ws j).toNat,ht,by omega,by omega,?_⟩;rw [hMX.out,mixTo];have e1:(ps.map asT).getD j none=asT t:=by rw [List.getD_eq_getElem?_getD,List.getElem?_map,ht];rfl
    rw [e1]
  have hM0:MX 0=none:=by rw [hMX.out];rfl
  have hwc':Hid (∀i,i<n→w.cell? ⟨gw,i,none⟩=some (int u64 (lk ws i))):=hwc;clear hMX hws hwc;have r4:=R3.new w 0 0 false;have b4:=balc w (Obj.cells #[int u64 0,int u64 0,.bool false] 34);go_enter func66,ntmps66;go_wp2_with fail;refine(zeroS _).mono ?_;rintro e w1 ⟨rfl,rfl⟩;have r5:R3 (((w.alloc (Obj.cells #[int u64 0,int u64 0,.bool false] 34)).alloc (Obj.cells #[int u64 0,int u64 0,.bool true] 34)).alloc (Obj.cells #[int u64 0,int u64 0,.bool true] 34)) (w.heap.size+1+1) 0 0 true:=(R3.new _ 0 0 true).at (by simp);replace r4:=(r4.alloc (Obj.cells #[int u64 0,int u64 0,.bool true] 34)).alloc (Obj.cells #[int u64 0,int u64 0,.bool true] 34);replace b4:=(b4.alloc (by simp) (Obj.cells #[int u64 0,int u64 0,.bool true] 34)).alloc (by simp;omega) (Obj.cells #[int u64 0,int u64 0,.bool true] 34);go_wp2
  go_loopw [6] (fun iv wr=>∃(j:Nat) (q:Pt),j≤n∧iv= .int .i64 (j:Int)∧Hid (q=MX j)∧R3 wr (w.heap.size+1+1) (px q) (py q) (pb q)∧R3 wr w.heap.size 0 0 false∧Bl w wr) (fun i _=>n-(intOf i).toNat)
  case atStart=>exact ⟨0,none,by omega,rfl,hM0.symm,r5,r4,b4⟩
  case round=>
    clear r5 r4 b4 hM0;obtain⟨j,q,hj,rfl,hq,r5,r4,hbl⟩:=hrel;by_cases hlt:j<n
    · have hli:(j:Int)<(n:Int):=by omega
      obtain⟨t,k,ht,hk,hlk,hnx⟩:=hst.out j hlt;rw [←hq.out] at hnx
      have a0:wr.drew.cell? ⟨gw,0+j,none⟩=some (int u64 (k:Int)):=by
        have h1:=hwc'.out j hlt;rw [hlk] at h1;rw [Nat.zero_add];exact(hbl.cell (p:=⟨gw,j,none⟩) hgw).trans h1
      have pp:=(hp.below hbl hp.lt).drew;have c0:=pp.c0 j t ht;have c1:=pp.c1 j t ht;have c2:=pp.c2 j t ht;have T:=fun w=>tiS_tri k t w hk
      have S:=sumS_xyz q (nt k (asT t));obtain⟨q2,hq2⟩:∃q2,q2=nt k (asT t):=⟨_,rfl⟩;rw [←hq2] at T S hnx;obtain⟨q3,hq3⟩:∃q3,q3=ad q q2:=⟨_,rfl⟩;rw [←hq3] at S hnx;have hnx':Hid (q3=MX (j+1)):=hnx.symm;obtain⟨tx,ty,tc⟩:=t;dsimp only at c0 c1 c2 T;clear ht pp hq2 hq3 hnx hq hlk;have d0:wr.drew.cell? ⟨w.heap.size+1+1,0,none⟩=some (int u64 (px q)):=r5.c0;have d1:wr.drew.cell? ⟨w.heap.size+1+1,1,none⟩=some (int u64 (py q)):=r5.c1;have d2:wr.drew.cell? ⟨w.heap.size+1+1,2,none⟩=some (.bool (pb q)):=r5.c2;go_wp2
      refine pool_prT 11 [.val (.agg #[int u64 (px q),int u64 (py q),.bool (pb q)]),
          .val (.slice (some ⟨gw,0,none⟩) nw cw),
          .val (.int .i64 (j:Int)),
          .val (.pointer (some ⟨gw,0+j,none⟩)),
          .val (int u64 (k:Int)),
          .val (.slice (some ⟨gp,op',none⟩) n cp),
          .val (.int .i64 (j:Int)),
          .val (.pointer (some ⟨gp,op'+j*3,none⟩)),
          .val (.agg #[int u64 (tx:Int),int u64 (ty:Int),.bool tc]),
          .val (.agg #[int u64 (px q2),int u64 (py q2),.bool (pb q2)]),
          .val (.agg #[int u64 (px q3),int u64 (py q3),.bool (pb q3)])] [[5],[0],[6],[15,16],[17],[1],[6],[19,20],[21],[18,22],[14,23]] (fun f=> [(some 14,.agg #[int u64 (px q),int u64 (py q),.bool (pb q)]),(some 15,.slice (some ⟨gw,0,none⟩) nw cw),(some 16,.int .i64 (j:Int)),(some 17,.pointer (some ⟨gw,0+j,none⟩)),(some 18,int u64 (k:Int)),(some 19,.slice (some ⟨gp,op',none⟩) n cp),(some 20,.int .i64 (j:Int)),(some 21,.pointer (some ⟨gp,op'+j*3,none⟩)),(some 22,.agg #[int u64 (tx:Int),int u64 (ty:Int),.bool tc]),(some 23,.agg #[int u64 (px q2),int u64 (py q2),.bool (pb q2)]),(some 24,.agg #[int u64 (px q3),int u64 (py q3),.bool (pb q3)])]) (by kernel_rfl) (by kernel_rfl) (by kernel_rfl) (by kernel_rfl) (by decide) (by kernel_rfl) (fun _=>by kernel_rfl) ?_ ?_
      · intro ix hix
        match ix,hix with
        |0,_=>exact obv [(5,.pointer (some ⟨w.heap.size+1+1,0,none⟩))] rfl rfl (fun A w ⟨e0,_⟩ hB=>ld_pt e0 (keepC d0 hB) (keepC d1 hB) (keepC d2 hB))
        |1,_=>exact obv [(0,.slice (some ⟨gw,0,none⟩) nw cw)] rfl rfl (fun A w ⟨e0,_⟩ hB=>doV_move e0)
        |2,_=>exact obv [(6,.int .i64 (j:Int))] rfl rfl (fun A w ⟨e0,_⟩ hB=>doV_move e0)
        |3,_=>exact obv [(15,.slice (some ⟨gw,0,none⟩) nw cw),(16,.int .i64 (j:Int))] rfl rfl (fun A w ⟨e0,e1,_⟩ hB=>ix_u64s e0 e1 (by omega))
        |4,_=>exact obv [(17,.pointer (some ⟨gw,0+j,none⟩))] rfl rfl (fun A w ⟨e0,_⟩ hB=>ld_u64 e0 (keepC a0 hB))
        |5,_=>exact obv [(1,.slice (some ⟨gp,op',none⟩) n cp)] rfl rfl (fun A w ⟨e0,_⟩ hB=>doV_move e0)
        |6,_=>exact obv [(6,.int .i64 (j:Int))] rfl rfl (fun A w ⟨e0,_⟩ hB=>doV_move e0)
        |7,_=>exact obv [(19,.slice (some ⟨gp,op',none⟩) n cp),(20,.int .i64 (j:Int))] rfl rfl (fun A w ⟨e0,e1,_⟩ hB=>ix_pts e0 e1 (by omega))
        |8,_=>exact obv [(21,.pointer (some ⟨gp,op'+j*3,none⟩))] rfl rfl (fun A w ⟨e0,_⟩ hB=>ld_pt e0 (keepC c0 hB) (keepC c1 hB) (keepC c2 hB))
        |9,_=>exact obv [(18,int u64 (k:Int)),(22,.agg #[int u64 (tx:Int),int u64 (ty:Int),.bool tc])] rfl rfl (fun A w ⟨e0,e1,_⟩ hB=>cl2 cf_spec_Times e0 e1 (T w))
        |10,_=>exact obv [(14,.agg #[int u64 (px q),int u64 (py q),.bool (pb q)]),(23,.agg #[int u64 (px q2),int u64 (py q2),.bool (pb q2)])] rfl rfl (fun A w ⟨e0,e1,_⟩ hB=>cl2 cf_spec_l3Sum e0 e1 (S w))
        |ix+11,h=>exact absurd h (by simp)
      intro f W3 hb3 _ fuel hfuel;have hb3':Bl wr W3:=(Below.refl _ wr).drew.trans hb3;replace r5:=r5.below hb3' r5.lt;replace r4:=r4.below hb3' r4.lt;replace hbl:=hbl.tr hb3';simp only [puts,List.foldl,Act.put,List.setIfInBounds_toArray,List.set_cons_zero,List.set_cons_succ];refine last_do1 11 hfuel (by kernel_rfl) (by kernel_rfl) rfl rfl ?_;refine fun Q K hK=>st_pt (z0:=px q3) (z1:=py q3) (z2:=pb q3) rfl rfl r5 Q K (fun v w' e=>hK v w' ?_)
      subst e;have R1:=r5.set (px q3) (py q3) (pb q3);have R2:=r4.other (b':=w.heap.size+1+1) (by omega) (px q3) (py q3) (pb q3);have R3':Bl w (set3 W3 (w.heap.size+1+1) (px q3) (py q3) (pb q3)):=set3_below hbl (by omega);change Bl w (((W3.setCell _ _).setCell _ _).setCell _ _) at R3';change R3 (((W3.setCell _ _).setCell _ _).setCell _ _) _ _ _ _ at R1;change R3 (((W3.setCell _ _).setCell _ _).setCell _ _) _ _ _ _ at R2;clear c0 c1 c2 d0 d1 d2 a0 T S hb3 hb3' r5 r4 hbl;generalize ((W3.setCell _ _).setCell _ _).setCell _ _=W4 at*;go_wp2;go_roundw
      case rel=>
        first
          |exact ⟨j+1,q3,by omega,by go_num,hnx',R1,R2,R3'⟩
          |((repeat apply Exists.intro);exact⟨⟨j+1,q3,by omega,by go_num,hnx',R1,R2,R3'⟩,rfl⟩)
      case measure=>simp [intOf];omega
    · obtain rfl:j=n:=by omega
      have hq':=hq.out;subst hq';have c0:=r5.c0;have c1:=r5.c1;have c2:=r5.c2;have d0:=r4.c0;have d1:=r4.c1;have d2:=r4.c2;have f0:=r4.frz 0;have f1:=r4.frz 1;have f2:=r4.frz 2;go_wp2;exact bodyPost_ret (v:= .agg #[int u64 (px (MX j)),int u64 (py (MX j)),.bool (pb (MX j))]) (point_res (fn:=Tryz.f66) (p:=4) results66 _ rfl (r4.set (px (MX j)) (py (MX j)) (pb (MX j)))) rfl ⟨rfl,set3_below hbl (Nat.le_refl _)⟩
end
end Go.Proofs.YtmjniccfjffclaaGreatDoor
