import Derived.Test.YtjmhmajfkdglnabGreatDoorMrg47
set_option linter.unusedVariables false
set_option maxRecDepth 100000
set_option maxHeartbeats 16000000
namespace Go.Proofs.YtjmhmajfkdglnabGreatDoor
open Go.Proofs.Tryz Go.RowKit
open Go.Value (int)
open Go.IntKind (u64)
section
open M
theorem Cps.one {W:World}{t:TypeId}{g:Nat}{p:Pt}(h:Bk W t g #[int u64 (px p),int u64 (py p),.bool (pb p)]):Cps W g [p]:=by
  have e:∀i q,([p]:List Pt)[i]? =some q→i=0∧q=p:=fun i q h=>by
    cases i with
    |zero=>simp at h;exact⟨rfl,h.symm⟩
    |succ i=>simp at h
  refine⟨h.lt,fun i q hq=> ?_,fun i q hq=> ?_,fun i q hq=> ?_⟩<;>obtain ⟨rfl,rfl⟩:=e i q hq
  · exact h.cell (k:=0) rfl
  · exact h.cell (k:=1) rfl
  · exact h.cell (k:=2) rfl
section
variable (cx info:ByteArray)(b el ev:Pt)(c s:Int)(F0 F1 F2 F3 F4 F5 F6:FuncId)(a0 a1 a2 a3:Addr)(w:World)(hcf:∀(args:Array Value) (w:World),(callFunc F5 args).run prog w= .ok (.enter F5 args) w)
include hcf
theorem verI_no
    (CL:∀w' g1 g2,Bl w w'→Cr F5 #[.agg #[.string cx,.string info],.agg #[int u64 (px b),int u64 (py b),.bool (pb b)],.slice (some ⟨g1,0,none⟩) 1 1,.slice (some ⟨g2,0,none⟩) 1 1] w' (.tuple #[.agg zBat,.bool false])):
    Cr 76 #[.agg #[.string cx,.string info,.func (.func F0) #[] #[],.func (.func F1) #[] #[],.func (.func F2) #[] #[],.func (.func F3) #[] #[],.func (.func F4) #[] #[],.func (.func F5) #[] #[],.func (.func F6) #[] #[]],.agg #[int u64 (px b),int u64 (py b),.bool (pb b)],.agg #[int u64 (px el),int u64 (py el),.bool (pb el)],.agg #[int u64 (px ev),int u64 (py ev),.bool (pb ev),int u64 c,int u64 s]] w .nilIface:=by
  unfold zBat at CL;obtain⟨X,hX⟩:∃X,X=((((((w.alloc (Obj.cells #[.string cx,.string info,.func (.func F0) #[] #[],.func (.func F1) #[] #[],.func (.func F2) #[] #[],.func (.func F3) #[] #[],.func (.func F4) #[] #[],.func (.func F5) #[] #[],.func (.func F6) #[] #[]] 125)).alloc (Obj.cells #[int u64 (px b),int u64 (py b),.bool (pb b)] 86)).alloc (Obj.cells #[int u64 (px el),int u64 (py el),.bool (pb el)] 86)).alloc (Obj.cells #[int u64 (px ev),int u64 (py ev),.bool (pb ev),int u64 c,int u64 s] 141)).alloc (Obj.cells #[int u64 (px el),int u64 (py el),.bool (pb el)] 86)).alloc (Obj.cells #[int u64 (px ev),int u64 (py ev),.bool (pb ev)] 86)):=⟨_,rfl⟩;have r0:Bk X 125 (w.heap.size) #[.string cx,.string info,.func (.func F0) #[] #[],.func (.func F1) #[] #[],.func (.func F2) #[] #[],.func (.func F3) #[] #[],.func (.func F4) #[] #[],.func (.func F5) #[] #[],.func (.func F6) #[] #[]]:=by rw [hX];exact((((((Bk.new _ _ _).alloc _).alloc _).alloc _).alloc _).alloc _)
  have r1:Bk X 86 (w.heap.size+1) #[int u64 (px b),int u64 (py b),.bool (pb b)]:=by rw [hX];exact((((((Bk.new _ _ _).at (by simp)).alloc _).alloc _).alloc _).alloc _)
  have r2:Bk X 86 (w.heap.size+1+1) #[int u64 (px el),int u64 (py el),.bool (pb el)]:=by rw [hX];exact(((((Bk.new _ _ _).at (by simp)).alloc _).alloc _).alloc _)
  have r3:Bk X 141 (w.heap.size+1+1+1) #[int u64 (px ev),int u64 (py ev),.bool (pb ev),int u64 c,int u64 s]:=by rw [hX];exact((((Bk.new _ _ _).at (by simp)).alloc _).alloc _)
  have r5:Bk X 86 (w.heap.size+1+1+1+1) #[int u64 (px el),int u64 (py el),.bool (pb el)]:=by rw [hX];exact(((Bk.new _ _ _).at (by simp)).alloc _)
  have r6:Bk X 86 (w.heap.size+1+1+1+1+1) #[int u64 (px ev),int u64 (py ev),.bool (pb ev)]:=by rw [hX];exact((Bk.new _ _ _).at (by simp))
  have hb:Bl w X:=by rw [hX];exact(((((((Below.refl _ w).alloc (Nat.le_refl _) _).alloc (by simp) _).alloc (by simp;omega) _).alloc (by simp;omega) _).alloc (by simp;omega) _).alloc (by simp;omega) _)
  rw [hX] at r0 r1 r2 r3 r5 r6 hb;clear hX;obtain⟨Y,hY⟩:∃Y,Y=((((w.alloc (Obj.cells #[.string cx,.string info,.func (.func F0) #[] #[],.func (.func F1) #[] #[],.func (.func F2) #[] #[],.func (.func F3) #[] #[],.func (.func F4) #[] #[],.func (.func F5) #[] #[],.func (.func F6) #[] #[]] 125)).alloc (Obj.cells #[int u64 (px b),int u64 (py b),.bool (pb b)] 86)).alloc (Obj.cells #[int u64 (px el),int u64 (py el),.bool (pb el)] 86)).alloc (Obj.cells #[int u64 (px ev),int u64 (py ev),.bool (pb ev),int u64 c,int u64 s] 141)):=⟨_,rfl⟩;have y0:Bk Y 125 (w.heap.size) #[.string cx,.string info,.func (.func F0) #[] #[],.func (.func F1) #[] #[],.func (.func F2) #[] #[],.func (.func F3) #[] #[],.func (.func F4) #[] #[],.func (.func F5) #[] #[],.func (.func F6) #[] #[]]:=by rw [hY];exact((((Bk.new _ _ _).alloc _).alloc _).alloc _)
  have y1:Bk Y 86 (w.heap.size+1) #[int u64 (px b),int u64 (py b),.bool (pb b)]:=by rw [hY];exact((((Bk.new _ _ _).at (by simp)).alloc _).alloc _)
  have y2:Bk Y 86 (w.heap.size+1+1) #[int u64 (px el),int u64 (py el),.bool (pb el)]:=by rw [hY];exact(((Bk.new _ _ _).at (by simp)).alloc _)
  have y3:Bk Y 141 (w.heap.size+1+1+1) #[int u64 (px ev),int u64 (py ev),.bool (pb ev),int u64 c,int u64 s]:=by rw [hY];exact((Bk.new _ _ _).at (by simp))
  rw [hY] at y0 y1 y2 y3;clear hY;have y0c0:=y0.cell (k:=0) rfl;have y0c1:=y0.cell (k:=1) rfl;have y0c7:=y0.cell (k:=7) rfl;have y1c0:=y1.cell (k:=0) rfl;have y1c1:=y1.cell (k:=1) rfl;have y1c2:=y1.cell (k:=2) rfl;have y2c0:=y2.cell (k:=0) rfl;have y2c1:=y2.cell (k:=1) rfl;have y2c2:=y2.cell (k:=2) rfl;have z3:=y3.alloc (Obj.cells #[int u64 (px el),int u64 (py el),.bool (pb el)] 86);have z3c0:=z3.cell (k:=0) rfl;have z3c1:=z3.cell (k:=1) rfl;have z3c2:=z3.cell (k:=2) rfl;go_enter func76,ntmps76;go_wp2_with fail;refine(CL _ _ _ hb).mono ?_;rintro e w1 ⟨rfl,b1⟩;have hal:=balc w1 (Obj.cells #[.string ⟨#[]⟩,int u64 0,int u64 0,.bool false,.slice none 0 0,.slice none 0 0] 89);replace hb:=hb.tr b1;replace hb:=hb.tr hal;clear CL b1 hal y0c0 y0c1 y0c7 y1c0 y1c1 y1c2 y2c0 y2c1 y2c2 z3c0 z3c1 z3c2 y0 y1 y2 y3 z3 r0 r1 r2 r3 r5 r6;go_wp2;generalize w1.heap.size=H1 at*;generalize w1.alloc _=W1 at*;go_quiet (fail);have hb3:Bl w (W1.drewN nq):=⟨hb.os,hb.tape,hb.output,hb.size,hb.block⟩;clear hb;generalize W1.drewN nq=W3 at*;go_wp2;go_ret;exact⟨rfl,hb3⟩
theorem verI_yes (ok:Bool)(h1 h2:Nat)(hs:Sn w a0 a1 a2 a3)
    (CL:Cb w F5 #[.agg #[.string cx,.string info],.agg #[int u64 (px b),int u64 (py b),.bool (pb b)],.slice (some ⟨w.heap.size+1+1+1+1,0,none⟩) 1 1,.slice (some ⟨w.heap.size+1+1+1+1+1,0,none⟩) 1 1] (.tuple #[.agg #[.string cx,int u64 (px b),int u64 (py b),.bool (pb b),.slice (some ⟨h1,0,none⟩) 1 1,.slice (some ⟨h2,0,none⟩) 1 1],.bool true]))
    (AC:∀w',Bl w w'→Cps w' (w.heap.size+1+1+1+1) [el]→Cps w' (w.heap.size+1+1+1+1+1) [ev]→Cr 51 #[.agg #[.string cx,int u64 (px b),int u64 (py b),.bool (pb b),.slice (some ⟨h1,0,none⟩) 1 1,.slice (some ⟨h2,0,none⟩) 1 1],.agg #[int u64 (px gG),int u64 (py gG),.bool (pb gG)],.agg #[int u64 c],.agg #[int u64 s]] w' (.bool ok)):
    Cr 76 #[.agg #[.string cx,.string info,.func (.func F0) #[] #[],.func (.func F1) #[] #[],.func (.func F2) #[] #[],.func (.func F3) #[] #[],.func (.func F4) #[] #[],.func (.func F5) #[] #[],.func (.func F6) #[] #[]],.agg #[int u64 (px b),int u64 (py b),.bool (pb b)],.agg #[int u64 (px el),int u64 (py el),.bool (pb el)],.agg #[int u64 (px ev),int u64 (py ev),.bool (pb ev),int u64 c,int u64 s]] w (if ok=true then .nilIface else sen a3):=by
  obtain⟨X,hX⟩:∃X,X=((((((w.alloc (Obj.cells #[.string cx,.string info,.func (.func F0) #[] #[],.func (.func F1) #[] #[],.func (.func F2) #[] #[],.func (.func F3) #[] #[],.func (.func F4) #[] #[],.func (.func F5) #[] #[],.func (.func F6) #[] #[]] 125)).alloc (Obj.cells #[int u64 (px b),int u64 (py b),.bool (pb b)] 86)).alloc (Obj.cells #[int u64 (px el),int u64 (py el),.bool (pb el)] 86)).alloc (Obj.cells #[int u64 (px ev),int u64 (py ev),.bool (pb ev),int u64 c,int u64 s] 141)).alloc (Obj.cells #[int u64 (px el),int u64 (py el),.bool (pb el)] 86)).alloc (Obj.cells #[int u64 (px ev),int u64 (py ev),.bool (pb ev)] 86)):=⟨_,rfl⟩;have r0:Bk X 125 (w.heap.size) #[.string cx,.string info,.func (.func F0) #[] #[],.func (.func F1) #[] #[],.func (.func F2) #[] #[],.func (.func F3) #[] #[],.func (.func F4) #[] #[],.func (.func F5) #[] #[],.func (.func F6) #[] #[]]:=by rw [hX];exact((((((Bk.new _ _ _).alloc _).alloc _).alloc _).alloc _).alloc _)
  have r1:Bk X 86 (w.heap.size+1) #[int u64 (px b),int u64 (py b),.bool (pb b)]:=by rw [hX];exact((((((Bk.new _ _ _).at (by simp)).alloc _).alloc _).alloc _).alloc _)
  have r2:Bk X 86 (w.heap.size+1+1) #[int u64 (px el),int u64 (py el),.bool (pb el)]:=by rw [hX];exact(((((Bk.new _ _ _).at (by simp)).alloc _).alloc _).alloc _)
  have r3:Bk X 141 (w.heap.size+1+1+1) #[int u64 (px ev),int u64 (py ev),.bool (pb ev),int u64 c,int u64 s]:=by rw [hX];exact((((Bk.new _ _ _).at (by simp)).alloc _).alloc _)
  have r5:Bk X 86 (w.heap.size+1+1+1+1) #[int u64 (px el),int u64 (py el),.bool (pb el)]:=by rw [hX];exact(((Bk.new _ _ _).at (by simp)).alloc _)
  have r6:Bk X 86 (w.heap.size+1+1+1+1+1) #[int u64 (px ev),int u64 (py ev),.bool (pb ev)]:=by rw [hX];exact((Bk.new _ _ _).at (by simp))
  have hb:Bl w X:=by rw [hX];exact(((((((Below.refl _ w).alloc (Nat.le_refl _) _).alloc (by simp) _).alloc (by simp;omega) _).alloc (by simp;omega) _).alloc (by simp;omega) _).alloc (by simp;omega) _)
  rw [hX] at r0 r1 r2 r3 r5 r6 hb;clear hX;obtain⟨Y,hY⟩:∃Y,Y=((((w.alloc (Obj.cells #[.string cx,.string info,.func (.func F0) #[] #[],.func (.func F1) #[] #[],.func (.func F2) #[] #[],.func (.func F3) #[] #[],.func (.func F4) #[] #[],.func (.func F5) #[] #[],.func (.func F6) #[] #[]] 125)).alloc (Obj.cells #[int u64 (px b),int u64 (py b),.bool (pb b)] 86)).alloc (Obj.cells #[int u64 (px el),int u64 (py el),.bool (pb el)] 86)).alloc (Obj.cells #[int u64 (px ev),int u64 (py ev),.bool (pb ev),int u64 c,int u64 s] 141)):=⟨_,rfl⟩;have y0:Bk Y 125 (w.heap.size) #[.string cx,.string info,.func (.func F0) #[] #[],.func (.func F1) #[] #[],.func (.func F2) #[] #[],.func (.func F3) #[] #[],.func (.func F4) #[] #[],.func (.func F5) #[] #[],.func (.func F6) #[] #[]]:=by rw [hY];exact((((Bk.new _ _ _).alloc _).alloc _).alloc _)
  have y1:Bk Y 86 (w.heap.size+1) #[int u64 (px b),int u64 (py b),.bool (pb b)]:=by rw [hY];exact((((Bk.new _ _ _).at (by simp)).alloc _).alloc _)
  have y2:Bk Y 86 (w.heap.size+1+1) #[int u64 (px el),int u64 (py el),.bool (pb el)]:=by rw [hY];exact(((Bk.new _ _ _).at (by simp)).alloc _)
  have y3:Bk Y 141 (w.heap.size+1+1+1) #[int u64 (px ev),int u64 (py ev),.bool (pb ev),int u64 c,int u64 s]:=by rw [hY];exact((Bk.new _ _ _).at (by simp))
  rw [hY] at y0 y1 y2 y3;clear hY;have y0c0:=y0.cell (k:=0) rfl;have y0c1:=y0.cell (k:=1) rfl;have y0c7:=y0.cell (k:=7) rfl;have y1c0:=y1.cell (k:=0) rfl;have y1c1:=y1.cell (k:=1) rfl;have y1c2:=y1.cell (k:=2) rfl;have y2c0:=y2.cell (k:=0) rfl;have y2c1:=y2.cell (k:=1) rfl;have y2c2:=y2.cell (k:=2) rfl;have z3:=y3.alloc (Obj.cells #[int u64 (px el),int u64 (py el),.bool (pb el)] 86);have z3c0:=z3.cell (k:=0) rfl;have z3c1:=z3.cell (k:=1) rfl;have z3c2:=z3.cell (k:=2) rfl;go_enter func76,ntmps76;go_wp2_with fail;refine(CL _ hb).mono ?_;rintro e w1 ⟨rfl,b1⟩;have hal:=balc w1 (Obj.cells #[.string cx,int u64 (px b),int u64 (py b),.bool (pb b),.slice (some ⟨h1,0,none⟩) 1 1,.slice (some ⟨h2,0,none⟩) 1 1] 89);have r9:=Bk.new w1 89 #[.string cx,int u64 (px b),int u64 (py b),.bool (pb b),.slice (some ⟨h1,0,none⟩) 1 1,.slice (some ⟨h2,0,none⟩) 1 1];replace r3:=(r3.keep b1).keep hal;replace r5:=(r5.keep b1).keep hal;replace r6:=(r6.keep b1).keep hal;replace hb:=hb.tr b1;replace hb:=hb.tr hal;clear CL b1 hal y0c0 y0c1 y0c7 y1c0 y1c1 y1c2 y2c0 y2c1 y2c2 z3c0 z3c1 z3c2 y0 y1 y2 y3 z3 r0 r1 r2;go_wp2;generalize w1.heap.size=H1 at*;generalize w1.alloc _=W1 at*;have u0:W1.drew.cell? ⟨H1,0,none⟩=_:=r9.cell (k:=0) rfl;have u1:W1.drew.cell? ⟨H1,1,none⟩=_:=r9.cell (k:=1) rfl;have u2:W1.drew.cell? ⟨H1,2,none⟩=_:=r9.cell (k:=2) rfl;have u3:W1.drew.cell? ⟨H1,3,none⟩=_:=r9.cell (k:=3) rfl;have u4:W1.drew.cell? ⟨H1,4,none⟩=_:=r9.cell (k:=4) rfl;have u5:W1.drew.cell? ⟨H1,5,none⟩=_:=r9.cell (k:=5) rfl;have v3:W1.drew.cell? ⟨w.heap.size+1+1+1,3,none⟩=_:=r3.cell (k:=3) rfl;have v4:W1.drew.cell? ⟨w.heap.size+1+1+1,4,none⟩=_:=r3.cell (k:=4) rfl;have AC':∀w',G.Sides [] W1.drew w'→_:=fun w' h=>AC w' (hb.drew.trans (h.below.mono hb.size)) ((Cps.one r5.drew).keep h.below) ((Cps.one r6.drew).keep h.below)
  refine G.pool_list (W:=W1) [] [.val (.bool true),
      .val (.bool true),
      .val (.agg #[.string cx,int u64 (px b),int u64 (py b),.bool (pb b),.slice (some ⟨h1,0,none⟩) 1 1,.slice (some ⟨h2,0,none⟩) 1 1]),
      .val (.agg #[int u64 (px gG),int u64 (py gG),.bool (pb gG)]),
      .val (.pointer (some ⟨w.heap.size+1+1+1,3,none⟩)),
      .val (.agg #[int u64 c]),
      .val (.pointer (some ⟨w.heap.size+1+1+1,4,none⟩)),
      .val (.agg #[int u64 s]),
      .val (.bool ok),
      .val (.bool (!ok)),
      .val (.bool (!ok))] [[10],[26],[9],[],[7],[30],[7],[32],[28,29,31,33],[34],[27,35]] (fun f=> [(some 26,.bool true),(some 27,.bool true),(some 28,.agg #[.string cx,int u64 (px b),int u64 (py b),.bool (pb b),.slice (some ⟨h1,0,none⟩) 1 1,.slice (some ⟨h2,0,none⟩) 1 1]),(some 29,.agg #[int u64 (px gG),int u64 (py gG),.bool (pb gG)]),(some 30,.pointer (some ⟨w.heap.size+1+1+1,3,none⟩)),(some 31,.agg #[int u64 c]),(some 32,.pointer (some ⟨w.heap.size+1+1+1,4,none⟩)),(some 33,.agg #[int u64 s]),(some 34,.bool ok),(some 35,.bool (!ok)),(some 36,.bool (!ok))]) (by kernel_rfl) (by kernel_rfl) (by kernel_rfl) (by kernel_rfl) (fun _=>by kernel_rfl) (G.last_of [] (fun F R hm=>by simp at hm) (fun ob ob' k hm=>by simp at hm) (fun b ob ob' hm=>by simp at hm)) (fun b ob ob' hm=>by simp at hm) ?_ ?_
  · intro ix hix
    match ix,hix with
    |0,_=>exact G.obv [(10,.bool true)] rfl rfl (fun A w ⟨e0,_⟩ hB=>doV_move e0)
    |1,_=>exact G.obv [(26,.bool true)] rfl rfl (fun A w ⟨e0,_⟩ hB=>doV_move e0)
    |2,_=>exact G.obv [(9,.pointer (some ⟨H1,0,none⟩))] rfl rfl (fun A w ⟨e0,_⟩ hB=>ld_bat e0 (hB.cell u0 (by simp)) (hB.cell u1 (by simp)) (hB.cell u2 (by simp)) (hB.cell u3 (by simp)) (hB.cell u4 (by simp)) (hB.cell u5 (by simp)))
    |3,_=>exact G.obv [] rfl rfl (fun A w _ hB=>cl0 cf_impl_basePoint (bspI w))
    |4,_=>exact G.obv [(7,.pointer (some ⟨w.heap.size+1+1+1,0,none⟩))] rfl rfl (fun A w ⟨e0,_⟩ hB=>fa_evn1 e0)
    |5,_=>exact G.obv [(30,.pointer (some ⟨w.heap.size+1+1+1,3,none⟩))] rfl rfl (fun A w ⟨e0,_⟩ hB=>ld_nN e0 (hB.cell v3 (by simp)))
    |6,_=>exact G.obv [(7,.pointer (some ⟨w.heap.size+1+1+1,0,none⟩))] rfl rfl (fun A w ⟨e0,_⟩ hB=>fa_evn2 e0)
    |7,_=>exact G.obv [(32,.pointer (some ⟨w.heap.size+1+1+1,4,none⟩))] rfl rfl (fun A w ⟨e0,_⟩ hB=>ld_nN e0 (hB.cell v4 (by simp)))
    |8,_=>exact G.obv [(28,.agg #[.string cx,int u64 (px b),int u64 (py b),.bool (pb b),.slice (some ⟨h1,0,none⟩) 1 1,.slice (some ⟨h2,0,none⟩) 1 1]),(29,.agg #[int u64 (px gG),int u64 (py gG),.bool (pb gG)]),(31,.agg #[int u64 c]),(33,.agg #[int u64 s])] rfl rfl (fun A w ⟨e0,e1,e2,e3,_⟩ hB=>cl4 cf_impl_batch_accepts e0 e1 e2 e3 (AC' w hB))
    |9,_=>exact G.obv [(34,.bool ok)] rfl rfl (fun A w ⟨e0,_⟩ hB=>not_b e0)
    |10,_=>exact G.obv [(27,.bool true),(35,.bool (!ok))] rfl rfl (fun A w ⟨e0,e1,_⟩ hB=>Z.pkT e0 e1)
    |ix+11,h=>exact absurd h (by simp)
  intro f W3 hS _ _ _ _;have hb3:Bl W1 W3:=(Below.refl _ W1).drew.trans hS.below;replace hb:=hb.tr hb3;clear hS hb3 AC AC' u0 u1 u2 u3 u4 u5 v3 v4 r3 r5 r6 r9;simp only [puts,List.foldl,Act.put,List.setIfInBounds_toArray,List.set_cons_zero,List.set_cons_succ];have g3:=(hs.keep hb).c3
  cases ok with
  | true=>
    go_wp2;go_ret;exact⟨rfl,hb⟩
  | false=>
    go_wp2;go_ret;exact⟨rfl,hb⟩
end
section
variable (es:List Tri)(pc ps g cap:Nat)(a0 a1 a2 a3:Addr)(w:World)(hs:Sn w a0 a1 a2 a3)(hp:Pts w g 0 es)
include hs hp
theorem evlI_no (h: ¬ evB es pc ps=true):∃s,∀w',Bl w w'→
    Cr 75 #[.agg #[.slice (some ⟨g,0,none⟩) es.length cap,int u64 pc,int u64 ps]] w' (.tuple #[.agg zEvn,flt s (sen a0)]):=by
  by_cases hl:es.length=1
  · obtain⟨t,rfl⟩:=List.length_eq_one_iff.1 hl;rw [evB_single] at h;by_cases hel:elT t=true
    · refine⟨⟨#[112,114,111,111,102]⟩,fun w' hb=> ?_⟩;obtain⟨e0,e1,e2⟩:=pts_one (hp.below hb hp.lt)
      have:=evlI_x (pc:Int) (ps:Int) a0 a1 a2 a3 w' (hs.keep hb) g 0 cap _ _ _ e0 e1 e2 (asT t) (fun w1 hb1=>by
        have:=eleI_any t a0 a1 a2 a3 w1 ((hs.keep hb).keep hb1)
        rwa [if_pos hel] at this) _ _ _ _ (exN_any pc) (exN_any ps)
      rw [if_neg (by rw [hel,Bool.true_and] at h;exact h)] at this;exact this
    · refine⟨⟨#[101,108,101,109,101,110,116]⟩,fun w' hb=> ?_⟩;obtain⟨e0,e1,e2⟩:=pts_one (hp.below hb hp.lt)
      exact evlI_e (pc:Int) (ps:Int) a0 w' g 0 cap _ _ _ e0 e1 e2 (fun w1 hb1=>by
        have:=eleI_any t a0 a1 a2 a3 w1 ((hs.keep hb).keep hb1)
        rwa [if_neg hel] at this)
  · exact⟨_,fun w' hb=>evlI_n pc ps a0 a1 a2 a3 w' (hs.keep hb) _ es.length cap (by simp;omega)⟩
theorem evlI_yes (t:Tri)(ht:es= [t])(hel:elT t=true)(hpc:pc<2305843010818082053)(hps:ps<2305843010818082053)(w':World)(hb:Bl w w'):
    Cr 75 #[.agg #[.slice (some ⟨g,0,none⟩) es.length cap,int u64 pc,int u64 ps]] w' (.tuple #[.agg #[int u64 (px (asT t)),int u64 (py (asT t)),.bool (pb (asT t)),int u64 pc,int u64 ps],.nilIface]):=by
  subst ht;obtain⟨e0,e1,e2⟩:=pts_one (hp.below hb hp.lt)
  have:=evlI_x (pc:Int) (ps:Int) a0 a1 a2 a3 w' (hs.keep hb) g 0 cap _ _ _ e0 e1 e2 (asT t) (fun w1 hb1=>by
    have:=eleI_any t a0 a1 a2 a3 w1 ((hs.keep hb).keep hb1)
    rwa [if_pos hel] at this) _ _ _ _ (exN_any pc) (exN_any ps)
  rw [if_pos (by rw [decide_eq_true hpc,decide_eq_true hps];rfl),if_pos hpc,if_pos hps] at this;exact this
end
def prvT (mode:Int)(t2 tp:Tri):Tri:=if mode=2 then t2 else tp
noncomputable def verK (k:Nat) (tb t1 te:Tri) (pc ps:Nat):Bool:=if k=1 then chkB 1 gT tb [t1] [te] pc ps else if k=2 then chkB 2 gT tb [te] [t1] pc ps else true
structure Rf (k:Nat)(F0 F1 F2 F3 F4 F5 F6:FuncId):Prop where
  rl:Rl k F0 F1 F2 F3 F4 F5 F6
  e4:Ent F4
  proved:∀(t2 tp:Tri) (a0 a1 a2 a3:Addr) (w:World),Sn w a0 a1 a2 a3→
    Cr F4 #[.agg #[int u64 (px (asT tp)),int u64 (py (asT tp)),.bool (pb (asT tp))],.agg #[int u64 (t2.1:Int),int u64 (t2.2.1:Int),.bool t2.2.2]] w (if twB k t2=true then .tuple #[.agg #[int u64 (px (asT (prvT k t2 tp))),int u64 (py (asT (prvT k t2 tp))),.bool (pb (asT (prvT k t2 tp)))],.nilIface] else .tuple #[.agg #[int u64 0,int u64 0,.bool true],sen a0])
  verify:∀(info:ByteArray) (tb t1 te:Tri) (pc ps:Nat) (a0 a1 a2 a3:Addr) (w:World),TabK w→Sn w a0 a1 a2 a3→onT tb=true→onT t1=true→onT te=true→pc<2305843010818082053→ps<2305843010818082053→
    Cr 76 #[.agg #[.string (ctxB k),.string info,.func (.func F0) #[] #[],.func (.func F1) #[] #[],.func (.func F2) #[] #[],.func (.func F3) #[] #[],.func (.func F4) #[] #[],.func (.func F5) #[] #[],.func (.func F6) #[] #[]],.agg #[int u64 (px (asT tb)),int u64 (py (asT tb)),.bool (pb (asT tb))],.agg #[int u64 (px (asT t1)),int u64 (py (asT t1)),.bool (pb (asT t1))],.agg #[int u64 (px (asT te)),int u64 (py (asT te)),.bool (pb (asT te)),int u64 pc,int u64 ps]] w (if verK k tb t1 te pc ps=true then .nilIface else sen a3)
theorem enPA:Ent 138:=fun _ _=>by kernel_rfl
theorem enTA:Ent 146:=fun _ _=>by kernel_rfl
theorem enNC:Ent 139:=fun _ _=>by kernel_rfl
theorem enCF:Ent 141:=fun _ _=>by kernel_rfl
theorem enCB:Ent 147:=fun _ _=>by kernel_rfl
theorem prv_no {k:Nat}(hk: ¬ k=2)(t2 tp:Tri)(a0 a1 a2 a3:Addr)(w:World)(hs:Sn w a0 a1 a2 a3):
    Cr 138 #[.agg #[int u64 (px (asT tp)),int u64 (py (asT tp)),.bool (pb (asT tp))],.agg #[int u64 (t2.1:Int),int u64 (t2.2.1:Int),.bool t2.2.2]] w (if twB k t2=true then .tuple #[.agg #[int u64 (px (asT (prvT k t2 tp))),int u64 (py (asT (prvT k t2 tp))),.bool (pb (asT (prvT k t2 tp)))],.nilIface] else .tuple #[.agg #[int u64 0,int u64 0,.bool true],sen a0]):=by
  have hk': ¬ (k:Int)=2:=by omega
  unfold twB prvT;rw [if_neg hk',if_neg hk'];by_cases h:t2=(0,0,true)
  · rw [if_pos (decide_eq_true h)];subst h;exact palI_yes (asT tp) w
  · rw [if_neg (by simpa using h)];refine palI_no (asT tp) a0 a1 a2 a3 w hs _ _ _ (fun⟨h0,h1,h2⟩=>h ?_);obtain⟨x,y,c⟩:=t2;simp only at h0 h1 h2;rw [h2,show x=0 by omega,show y=0 by omega]
theorem prv_two (t2 tp:Tri)(a0 a1 a2 a3:Addr)(w:World)(hs:Sn w a0 a1 a2 a3):
    Cr 146 #[.agg #[int u64 (px (asT tp)),int u64 (py (asT tp)),.bool (pb (asT tp))],.agg #[int u64 (t2.1:Int),int u64 (t2.2.1:Int),.bool t2.2.2]] w (if twB (2:Nat) t2=true then .tuple #[.agg #[int u64 (px (asT (prvT (2:Nat) t2 tp))),int u64 (py (asT (prvT (2:Nat) t2 tp))),.bool (pb (asT (prvT (2:Nat) t2 tp)))],.nilIface] else .tuple #[.agg #[int u64 0,int u64 0,.bool true],sen a0]):=by
  have h2:((2:Nat):Int)=2:=rfl;unfold twB prvT;rw [if_pos h2,if_pos h2];by_cases h:elT t2=true
  · rw [if_pos h]
    exact talI_of (asT tp) w _ _ _ _ _ _ _ (fun w' hb=>by
      have:=eleI_any t2 a0 a1 a2 a3 w' (hs.keep hb)
      rwa [if_pos h] at this)
  · rw [if_neg h]
    exact talI_of (asT tp) w _ _ _ _ _ _ _ (fun w' hb=>by
      have:=eleI_any t2 a0 a1 a2 a3 w' (hs.keep hb)
      rwa [if_neg h] at this)
theorem chkB_eq {md:Nat}{a b:Tri}{cs ds:List Tri}{c s:Nat}(hB:batB md a b cs ds=true)(hlc:c<2305843010818082053)(hls:s<2305843010818082053):chkB md a b cs ds c s=(((chkC md c s a b cs ds:Nat):Int)==(c:Int)):=by
  unfold chkB;rw [hB,decide_eq_true hlc,decide_eq_true hls,Int.toNat_natCast];rw [Bool.eq_iff_iff];simp;omega
theorem bat_one {md:Nat}{b t u:Tri}(h:md<3)(hb:onT b=true)(ht:onT t=true)(hu:onT u=true):batB md gT b [t] [u]=true:=by
  rw [batB_iff];refine⟨by omega,onT_g,hb,by simp,rfl,?_,?_⟩<;>intro x hx<;>rw [List.mem_singleton.1 hx]<;>assumption
theorem acc_one (md:Nat)(b t u:Tri)(g1 g2 c s:Nat)(w:World)(hT:TabK w)(hmd:md<3)(hb:onT b=true)(ht:onT t=true)(hu:onT u=true)(h1:Cps w g1 [asT t])(h2:Cps w g2 [asT u])(hc:c<2305843010818082053)(hs:s<2305843010818082053):
    Cr 51 #[.agg #[.string (ctxB md),int u64 (px (asT b)),int u64 (py (asT b)),.bool (pb (asT b)),.slice (some ⟨g1,0,none⟩) 1 1,.slice (some ⟨g2,0,none⟩) 1 1],.agg #[int u64 (px gG),int u64 (py gG),.bool (pb gG)],.agg #[int u64 c],.agg #[int u64 s]] w (.bool (chkB md gT b [t] [u] c s)):=by
  have hB:=bat_one hmd hb ht hu;rw [chkB_eq hB hc hs,←asT_g];exact accI_any md 1 g1 1 g2 1 c s (asT gT) (asT b) [asT t] [asT u] w hT hmd (by omega) (by omega) rfl rfl (asT_on _) (asT_on _) (fun p hp=>by rw [List.mem_singleton.1 hp];exact asT_on _) (fun p hp=>by rw [List.mem_singleton.1 hp];exact asT_on _) h1 h2 hc hs (comM md b [t] [u] [t]) (comM md b [t] [u] [u]) rfl rfl (chkC md c s gT b [t] [u]) rfl
theorem rf_0:Rf 0 134 135 136 137 138 139 140:=
  ⟨rul_0,enPA,fun t2 tp a0 a1 a2 a3 w hs=>prv_no (by omega) t2 tp a0 a1 a2 a3 w hs,
    fun info tb t1 te pc ps a0 a1 a2 a3 w hT hs h1 h2 h3 h4 h5=>verI_no _ info _ _ _ pc ps _ _ _ _ _ _ _ w enNC (fun w' g1 g2 hb=>nclI _ info _ w' 1 1 1 1 _ _)⟩
theorem rf_1:Rf 1 134 135 136 137 138 141 140:=
  ⟨rul_1,enPA,fun t2 tp a0 a1 a2 a3 w hs=>prv_no (by omega) t2 tp a0 a1 a2 a3 w hs,
    fun info tb t1 te pc ps a0 a1 a2 a3 w hT hs h1 h2 h3 h4 h5=>verI_yes _ info _ _ _ pc ps _ _ _ _ _ _ _ a0 a1 a2 a3 w enCF _ _ _ hs (fun w' hb=>cfwI _ info _ w' 1 1 1 1 _ _) (fun w' hb p1 p2=>acc_one 1 tb t1 te _ _ pc ps w' (keepT hT (World.block_lt_of_cell? w _ (hT 0 (by omega))) hb) (by omega) h1 h2 h3 p1 p2 h4 h5)⟩
theorem rf_2:Rf 2 142 143 144 145 146 147 148:=
  ⟨rul_2,enTA,fun t2 tp a0 a1 a2 a3 w hs=>prv_two t2 tp a0 a1 a2 a3 w hs,
    fun info tb t1 te pc ps a0 a1 a2 a3 w hT hs h1 h2 h3 h4 h5=>verI_yes _ info _ _ _ pc ps _ _ _ _ _ _ _ a0 a1 a2 a3 w enCB _ _ _ hs (fun w' hb=>cbwI _ info _ w' 1 1 1 1 _ _) (fun w' hb p1 p2=>acc_one 2 tb te t1 _ _ pc ps w' (keepT hT (World.block_lt_of_cell? w _ (hT 0 (by omega))) hb) (by omega) h1 h3 h2 p2 p1 h4 h5)⟩
theorem rf_any (k:Nat)(hk:k<3):∃F0 F1 F2 F3 F4 F5 F6,Rf k F0 F1 F2 F3 F4 F5 F6:=by
  rcases(show k=0∨k=1∨k=2 by omega) with rfl|rfl|rfl
  · exact⟨_,_,_,_,_,_,_,rf_0⟩
  · exact⟨_,_,_,_,_,_,_,rf_1⟩
  · exact⟨_,_,_,_,_,_,_,rf_2⟩
theorem verB_eq {mode:Int}(hm:0≤mode∧mode≤2)(te t1 t2 tp:Tri)(pc ps:Nat):verB mode [te] pc ps t1 t2 tp=verK mode.toNat (prvT mode t2 tp) t1 te pc ps:=by
  unfold verB verK prvT;by_cases h1:mode=1
  · rw [if_pos h1,if_pos (show mode.toNat=1 by omega),if_neg (show ¬ mode=2 by omega)]
  · rw [if_neg h1,if_neg (show ¬ mode.toNat=1 by omega)];by_cases h2:mode=2
    · rw [if_pos h2,if_pos (show mode.toNat=2 by omega),if_pos h2]
    · rw [if_neg h2,if_neg (show ¬ mode.toNat=2 by omega)]
theorem finI_any (mode:Int)(input info:ByteArray)(blind:Nat)(es:List Tri)(pc ps:Nat)(t1 t2 tp:Tri)(g cap:Nat)(a0 a1 a2 a3:Addr)(w:World)(hT:TabK w)(hs:Sn w a0 a1 a2 a3)(hp:Pts w g 0 es):
    Calls prog 15 (finA mode input info blind es pc ps t1 t2 tp g cap) w fun e w'=>e= .returned (.tuple #[.string (finO mode input info blind es pc ps t1 t2 tp),.int .i64 (finC mode input info blind es pc ps t1 t2 tp)])∧Bl w w':=by
  have hgw:6<w.heap.size:=World.block_lt_of_cell? w _ (hT 0 (by omega));obtain⟨iv,hiv⟩:∃iv,M.ivn 2305843010818082053 blind=iv:=⟨_,rfl⟩;have hivl:iv<2305843010818082053:=by rw [←hiv];exact ivn_lt' _ _ (by decide)
  have IV:blind<2305843010818082053→∀w,Cr 77 #[.agg #[int u64 blind]] w (.agg #[int u64 (iv:Int)]):=fun h w=>by
    rw [←hiv];exact ivN_any blind w h
  have err:∀(cd:Int) (v:Value),finC mode input info blind es pc ps t1 t2 tp=cd→ ¬ cd=0→Er a0 a1 a2 a3 v cd→(∀w',Bl w w'→Calls prog 42 (finA mode input info blind es pc ps t1 t2 tp g cap) w' fun e w''=>e= .returned (.tuple #[.string ⟨#[]⟩,v])∧Bl w' w'')→
      Calls prog 15 (finA mode input info blind es pc ps t1 t2 tp g cap) w fun e w'=>e= .returned (.tuple #[.string (finO mode input info blind es pc ps t1 t2 tp),.int .i64 (finC mode input info blind es pc ps t1 t2 tp)])∧Bl w w':=fun cd v h h0 hv hB=>by
    have hO:finO mode input info blind es pc ps t1 t2 tp=⟨#[]⟩:=by unfold finO;rw [h,if_neg h0]
    rw [hO,h];exact fnlI_of mode blind pc ps _ _ _ _ _ _ cd _ _ _ input info ⟨#[]⟩ ⟨#[]⟩ _ es.length cap v w hB (fun w' hb=>ansS_err ⟨#[]⟩ v cd a0 a1 a2 a3 w' (hs.keep hb) hv)
  by_cases hm:0≤mode∧mode≤2
  · obtain ⟨hk, hk'⟩:=md_of hm.1 hm.2;obtain⟨F0,F1,F2,F3,F4,F5,F6,hR⟩:=rf_any mode.toNat hk;have hfind:=hR.rl.find;have hbad:=hR.rl.bad;have hout:=hR.rl.output;have hprv:=hR.proved;have hver:=hR.verify;have e4:=hR.e4;rw [hk'] at hfind hbad hout hprv;have okE:=okI_iff hm (info:=info);have FI:=fun (w1:World) (hb1:Bl w w1) (V:Value) (T:TypeId) (z:Value) (sE:ByteArray)=>fnI_of mode blind pc ps t1.1 t1.2.1 t2.1 t2.2.1 tp.1 tp.2.1 pc ps (iv:Int) t1.2.2 t2.2.2 tp.2.2 input info (ctxB mode.toNat) sE (outB mode input info (nt iv (asT (es.headD gT)))) (some ⟨g,0,none⟩) es.length cap (asT (es.headD gT)) (asT t1) (asT tp) (asT (prvT mode t2 tp)) (nt iv (asT (es.headD gT))) F0 F1 F2 F3 F4 F5 F6 T z V a0 a1 a2 a3 w1 (hs.keep hb1) e4
    by_cases ho:okI mode.toNat info
    · have hFP:∀{w1:World},Bl w w1→∀w',Bl w1 w'→_:=fun {w1} hb1 w' hb=>hfind info a0 a1 a2 a3 w' ((hs.keep hb1).keep hb) ho
      by_cases hin:input.size≤65535
      · have htx:txtB mode input.size info.size=true:=txtB_iff.2 ⟨hm,hin,(okE.1 ho).1,(okE.1 ho).2⟩;have nr: ¬ rdyB mode blind es pc ps t1 t2 tp=true→finC mode input info blind es pc ps t1 t2 tp=1:=fun h=>if_neg (fun h'=>h h'.2)
        by_cases hkey:keyB blind=true
        · have hFF:∀{w1:World},Bl w w1→∀w',Bl w1 w'→Cr 69 #[int u64 blind] w' (.tuple #[.agg #[int u64 (blind:Int)],.nilIface]):=fun {w1} hb1 w' hb=>by
            have:=facI_any blind a0 a1 a2 a3 w' ((hs.keep hb1).keep hb);rwa [if_pos hkey,if_pos hkey] at this
          have hkl:=(keyB_iff.1 hkey).2;by_cases hev:evB es pc ps=true
          · obtain⟨te,hte,hel,hpc,hps⟩:=evB_one hev;have hEV:∀{w1:World},Bl w w1→∀w',Bl w1 w'→_:=fun {w1} hb1 w' hb=>evlI_yes es pc ps g cap a0 a1 a2 a3 w1 (hs.keep hb1) (hp.below hb1 hp.lt) te hte hel hpc hps w' hb
            have hhd:es.headD gT=te:=by rw [hte];rfl
            rw [←hhd] at hEV;by_cases h1:elT t1=true
            · have hE1:∀{w1:World},Bl w w1→∀w',Bl w1 w'→Cr 68 #[.agg #[int u64 (t1.1:Int),int u64 (t1.2.1:Int),.bool t1.2.2]] w' (.tuple #[.agg #[int u64 (px (asT t1)),int u64 (py (asT t1)),.bool (pb (asT t1))],.nilIface]):=fun {w1} hb1 w' hb=>by
                have:=eleI_any t1 a0 a1 a2 a3 w' ((hs.keep hb1).keep hb);rwa [if_pos h1] at this
              by_cases h3:elT tp=true
              · have hE3:∀{w1:World},Bl w w1→∀w',Bl w1 w'→Cr 68 #[.agg #[int u64 (tp.1:Int),int u64 (tp.2.1:Int),.bool tp.2.2]] w' (.tuple #[.agg #[int u64 (px (asT tp)),int u64 (py (asT tp)),.bool (pb (asT tp))],.nilIface]):=fun {w1} hb1 w' hb=>by
                  have:=eleI_any tp a0 a1 a2 a3 w' ((hs.keep hb1).keep hb);rwa [if_pos h3] at this
                by_cases h2:twB mode t2=true
                · have hPV:=fun {w1:World} (hb1:Bl w w1) w' (hb:Bl w1 w')=>hprv t2 tp a0 a1 a2 a3 w' ((hs.keep hb1).keep hb)
                  simp only [h2,if_true] at hPV;have hC:finC mode input info blind es pc ps t1 t2 tp=if verB mode es pc ps t1 t2 tp=true then 0 else 4:=if_pos ⟨htx,rdyB_iff.2 ⟨hkey,h3,hev,h1,h2⟩⟩
                  have hob:onT (prvT mode t2 tp)=true:=by
                    unfold prvT;unfold twB at h2;by_cases h:mode=2
                    · rw [if_pos h] at h2⊢;exact elT_on h2
                    · rw [if_neg h];exact elT_on h3
                  have hVE:=fun {w1:World} (hb1:Bl w w1) w' (hb:Bl w1 w')=>hver info (prvT mode t2 tp) t1 te pc ps a0 a1 a2 a3 w' (keepT hT hgw (hb1.tr hb)) ((hs.keep hb1).keep hb) hob (elT_on h1) (elT_on hel) hpc hps
                  rw [hte,verB_eq hm] at hC;rw [←hhd] at hVE hC;by_cases hv:verK mode.toNat (prvT mode t2 tp) t1 (es.headD gT) pc ps=true
                  · rw [if_pos hv] at hC;simp only [hv,if_true] at hVE;rw [hhd,←hte] at hC;have hO:finO mode input info blind es pc ps t1 t2 tp=outB mode input info (nt iv (asT (es.headD gT))):=by unfold finO;rw [hC,if_pos rfl,hiv]
                    rw [hO,hC];exact fnlI_of mode blind pc ps _ _ _ _ _ _ 0 _ _ _ input info _ _ _ es.length cap .nilIface w (fun w1 hb1=>FI w1 hb1 _ 0 .nilIface ⟨#[]⟩ (.inr ⟨hFP hb1,.inr ⟨hin,.inr ⟨hFF hb1,.inr ⟨hEV hb1,.inr ⟨hE1 hb1,.inr ⟨hE3 hb1,.inr ⟨hPV hb1,.inr ⟨hVE hb1,rfl,IV hkl,fun w'=>cplT (asT_on _) iv hivl w',fun w' hb=>hout input info _ w' (keepT hT hgw (hb1.tr hb)) hin (okE.1 ho).1⟩⟩⟩⟩⟩⟩⟩⟩)) (fun w' hb=>ansS_ok _ w')
                  · rw [if_neg hv] at hC;simp only [hv] at hVE;rw [hhd,←hte] at hC;exact err 4 (flt ⟨#[112,114,111,111,102]⟩ (sen a3)) hC (by decide) (er_ver _) (fun w1 hb1=>FI w1 hb1 _ 0 .nilIface ⟨#[]⟩ (.inr ⟨hFP hb1,.inr ⟨hin,.inr ⟨hFF hb1,.inr ⟨hEV hb1,.inr ⟨hE1 hb1,.inr ⟨hE3 hb1,.inr ⟨hPV hb1,.inl ⟨rfl,hVE hb1⟩⟩⟩⟩⟩⟩⟩⟩))
                · have hPV:=fun {w1:World} (hb1:Bl w w1) w' (hb:Bl w1 w')=>hprv t2 tp a0 a1 a2 a3 w' ((hs.keep hb1).keep hb)
                  simp only [h2] at hPV;exact err 1 (flt ⟨#[116,119,101,97,107,101,100]⟩ (sen a0)) (nr (fun h=>h2 (rdyB_iff.1 h).2.2.2.2)) (by decide) (er_args _) (fun w1 hb1=>FI w1 hb1 _ 0 .nilIface ⟨#[]⟩ (.inr ⟨hFP hb1,.inr ⟨hin,.inr ⟨hFF hb1,.inr ⟨hEV hb1,.inr ⟨hE1 hb1,.inr ⟨hE3 hb1,.inl ⟨rfl,hPV hb1⟩⟩⟩⟩⟩⟩⟩))
              · exact err 1 (flt ⟨#[112,117,98,108,105,99]⟩ (sen a0)) (nr (fun h=>h3 (rdyB_iff.1 h).2.1)) (by decide) (er_args _) (fun w1 hb1=>FI w1 hb1 _ 0 .nilIface ⟨#[]⟩ (.inr ⟨hFP hb1,.inr ⟨hin,.inr ⟨hFF hb1,.inr ⟨hEV hb1,.inr ⟨hE1 hb1,.inl ⟨rfl,fun w' hb=>by
                  have:=eleI_any tp a0 a1 a2 a3 w' ((hs.keep hb1).keep hb)
                  rwa [if_neg h3] at this⟩⟩⟩⟩⟩⟩))
            · exact err 1 (flt ⟨#[98,108,105,110,100,101,100,32,101,108,101,109,101,110,116]⟩ (sen a0)) (nr (fun h=>h1 (rdyB_iff.1 h).2.2.2.1)) (by decide) (er_args _) (fun w1 hb1=>FI w1 hb1 _ 0 .nilIface ⟨#[]⟩ (.inr ⟨hFP hb1,.inr ⟨hin,.inr ⟨hFF hb1,.inr ⟨hEV hb1,.inl ⟨rfl,fun w' hb=>by
                have:=eleI_any t1 a0 a1 a2 a3 w' ((hs.keep hb1).keep hb)
                rwa [if_neg h1] at this⟩⟩⟩⟩⟩))
          · obtain⟨sE,hsE⟩:=evlI_no es pc ps g cap a0 a1 a2 a3 w hs hp hev;exact err 1 (flt ⟨#[101,118,97,108,117,97,116,101,100]⟩ (flt sE (sen a0))) (nr (fun h=>hev (rdyB_iff.1 h).2.2.1)) (by decide) (er_args2 _ _) (fun w1 hb1=>FI w1 hb1 _ 0 .nilIface sE (.inr ⟨hFP hb1,.inr ⟨hin,.inr ⟨hFF hb1,.inl ⟨rfl,fun w' hb=>hsE w' (hb1.tr hb)⟩⟩⟩⟩))
        · exact err 1 (flt ⟨#[98,108,105,110,100]⟩ (sen a0)) (nr (fun h=>hkey (rdyB_iff.1 h).1)) (by decide) (er_args _) (fun w1 hb1=>FI w1 hb1 _ 0 .nilIface ⟨#[]⟩ (.inr ⟨hFP hb1,.inr ⟨hin,.inl ⟨rfl,fun w' hb=>by
            have:=facI_any blind a0 a1 a2 a3 w' ((hs.keep hb1).keep hb)
            rwa [if_neg hkey,if_neg hkey] at this⟩⟩⟩))
      · exact err 1 (flt ⟨#[105,110,112,117,116]⟩ (sen a0)) (if_neg (fun h=>hin (txtB_iff.1 h.1).2.1)) (by decide) (er_args _) (fun w1 hb1=>FI w1 hb1 _ 0 .nilIface ⟨#[]⟩ (.inr ⟨hFP hb1,.inl ⟨rfl,by omega⟩⟩))
    · exact err 1 (flt ⟨#[105,110,102,111]⟩ (sen a0)) (if_neg (fun h=>ho (okE.2 ⟨(txtB_iff.1 h.1).2.2.1,(txtB_iff.1 h.1).2.2.2⟩))) (by decide) (er_args _) (fun w1 hb1=>FI w1 hb1 _ 131 (.agg #[.string ⟨#[105,110,102,111]⟩,sen a0]) ⟨#[]⟩ (.inl ⟨rfl,fun w' hb=>hbad info a0 a1 a2 a3 w' ((hs.keep hb1).keep hb) ho⟩))
  · exact err 1 (flt ⟨#[109,111,100,101]⟩ (sen a0)) (if_neg (fun h=>hm (txtB_iff.1 h.1).1)) (by decide) (er_args _) (fun w1 hb1=>fnI_of mode blind pc ps t1.1 t1.2.1 t2.1 t2.2.1 tp.1 tp.2.1 pc ps 0 t1.2.2 t2.2.2 tp.2.2 input info ⟨#[]⟩ ⟨#[]⟩ ⟨#[]⟩ (some ⟨g,0,none⟩) es.length cap none none none none none 0 0 0 0 138 0 0 131 (.agg #[.string ⟨#[109,111,100,101]⟩,sen a0]) _ a0 a1 a2 a3 w1 (hs.keep hb1) enPA (.inl ⟨rfl,fun w' hb=>proI_no mode _ info a0 a1 a2 a3 w' ((hs.keep hb1).keep hb) (fun w=>ctxI_no mode w hm)⟩))
noncomputable def pvK (k t r:Nat) (es fs:List Tri):Nat×Nat:=
  if k=1 then (prvC 1 t r gT (ptT (nt t gG)) es fs,prvN 1 t r gT (ptT (nt t gG)) es fs)
  else if k=2 then (prvC 2 t r gT (ptT (nt t gG)) fs es,prvN 2 t r gT (ptT (nt t gG)) fs es) else (0,0)
structure Rv (k:Nat)(F0 F1 F2 F3 F4 F5 F6:FuncId):Prop where
  rl:Rl k F0 F1 F2 F3 F4 F5 F6
  prove:∀(info:ByteArray) (t r:Nat) (es fs:List Tri) (n g1 k1 g2 k2:Nat) (w:World),TabK w→t<2305843010818082053→r<2305843010818082053→1≤n→n≤200→es.length=n→fs.length=n→Cps w g1 (es.map asT)→Cps w g2 (fs.map asT)→
    Cr 111 #[.agg #[.string (ctxB k),.string info,.func (.func F0) #[] #[],.func (.func F1) #[] #[],.func (.func F2) #[] #[],.func (.func F3) #[] #[],.func (.func F4) #[] #[],.func (.func F5) #[] #[],.func (.func F6) #[] #[]],.agg #[int u64 (t:Int)],.slice (some ⟨g1,0,none⟩) n k1,.slice (some ⟨g2,0,none⟩) n k2,.agg #[int u64 (r:Int)]] w (.agg #[int u64 ((pvK k t r es fs).1:Int),int u64 ((pvK k t r es fs).2:Int)])
theorem prvI_tri (md t r:Nat)(cs ds:List Tri)(n g1 k1 g2 k2:Nat)(w:World)(hT:TabK w)(hmd:md<3)(ht:t<2305843010818082053)(hr:r<2305843010818082053)(h1:1≤n)(hn:n≤200)(hc:cs.length=n)(hd:ds.length=n)(h2:Cps w g1 (cs.map asT))(h3:Cps w g2 (ds.map asT)):
    Cr 158 #[.agg #[.string (ctxB md),int u64 (px (nt t gG)),int u64 (py (nt t gG)),.bool (pb (nt t gG)),.slice (some ⟨g1,0,none⟩) n k1,.slice (some ⟨g2,0,none⟩) n k2],.agg #[int u64 (t:Int)],.agg #[int u64 (px gG),int u64 (py gG),.bool (pb gG)],.agg #[int u64 (r:Int)]] w (.agg #[int u64 (prvC md t r gT (ptT (nt t gG)) cs ds:Int),int u64 (prvN md t r gT (ptT (nt t gG)) cs ds:Int)]):=by
  have hU:asT (ptT (nt t gG))=nt t gG:=(ptT_of (nt_on gG_on t)).1;exact prvI_any md n g1 k1 g2 k2 t r gG (nt t gG) (cs.map asT) (ds.map asT) w hT hmd h1 hn (by rw [List.length_map,hc]) (by rw [List.length_map,hd]) gG_on (asT_list cs) h2 h3 ht hr (comM md (ptT (nt t gG)) cs ds cs) (by unfold comM;rw [hU,hc]) (prvC md t r gT (ptT (nt t gG)) cs ds) (by unfold prvC;rw [asT_g,hU])
theorem rv_0:Rv 0 134 135 136 137 138 139 140:=
  ⟨rul_0,fun info t r es fs n g1 k1 g2 k2 w hT ht hr h1 hn he hf hc hd=>pvpI_no _ info (nt t gG) t r g1 k1 g2 k2 n _ _ _ _ _ _ _ w enNC (fun w'=>cplT gG_on t ht w') (fun w'=>nclI _ info _ w' n n k1 k2 _ _)⟩
theorem rv_1:Rv 1 134 135 136 137 138 141 140:=
  ⟨rul_1,fun info t r es fs n g1 k1 g2 k2 w hT ht hr h1 hn he hf hc hd=>pvpI_yes _ info (nt t gG) t r _ _ g1 k1 g2 k2 n _ _ _ _ _ _ _ w enCF g1 g2 k1 k2 (fun w'=>cplT gG_on t ht w') (fun w'=>cfwI _ info _ w' n n k1 k2 _ _) (fun w' hb=>prvI_tri 1 t r es fs n g1 k1 g2 k2 w' (keepT hT (World.block_lt_of_cell? w _ (hT 0 (by omega))) hb) (by omega) ht hr h1 hn he hf (hc.below hb hc.lt) (hd.below hb hd.lt))⟩
theorem rv_2:Rv 2 142 143 144 145 146 147 148:=
  ⟨rul_2,fun info t r es fs n g1 k1 g2 k2 w hT ht hr h1 hn he hf hc hd=>pvpI_yes _ info (nt t gG) t r _ _ g1 k1 g2 k2 n _ _ _ _ _ _ _ w enCB g2 g1 k2 k1 (fun w'=>cplT gG_on t ht w') (fun w'=>cbwI _ info _ w' n n k1 k2 _ _) (fun w' hb=>prvI_tri 2 t r fs es n g2 k2 g1 k1 w' (keepT hT (World.block_lt_of_cell? w _ (hT 0 (by omega))) hb) (by omega) ht hr h1 hn hf he (hd.below hb hd.lt) (hc.below hb hc.lt))⟩
theorem rv_any (k:Nat)(hk:k<3):∃F0 F1 F2 F3 F4 F5 F6,Rv k F0 F1 F2 F3 F4 F5 F6:=by
  rcases(show k=0∨k=1∨k=2 by omega) with rfl|rfl|rfl
  · exact⟨_,_,_,_,_,_,_,rv_0⟩
  · exact⟨_,_,_,_,_,_,_,rv_1⟩
  · exact⟨_,_,_,_,_,_,_,rv_2⟩
theorem evaK_eq {mode:Int}(hm:0≤mode∧mode≤2){key:Nat}{info:ByteArray}{es:List Tri}{r:Nat}(h:evaC mode key info es r=0):evaK mode key info es r=pvK mode.toNat (facT mode key info) r es ((evaE mode key info es).map ptT):=by
  unfold evaK pvK evaU;rw [if_pos h];by_cases h1:mode=1
  · rw [if_pos h1,if_pos (show mode.toNat=1 by omega)]
  · rw [if_neg h1,if_neg (show ¬ mode.toNat=1 by omega)];by_cases h2:mode=2
    · rw [if_pos h2,if_pos (show mode.toNat=2 by omega)]
    · rw [if_neg h2,if_neg (show ¬ mode.toNat=2 by omega)]
theorem facT_lt (mode:Int)(key:Nat)(info:ByteArray)(h:key<2305843010818082053):facT mode key info<2305843010818082053:=by
  unfold facT;split
  · exact kt_lt _ _
  · exact h
theorem evaI_all (mode:Int)(key:Nat)(info:ByteArray)(es:List Tri)(r:Nat)(g cap:Nat)(a0 a1 a2 a3:Addr)(w:World)(hT:TabK w)(hs:Sn w a0 a1 a2 a3)(hp:Pts w g 0 es):
    Calls prog 13 #[.int .i64 mode,int u64 key,.string info,.slice (some ⟨g,0,none⟩) es.length cap,int u64 r] w fun e w'=>∃v,e= .returned (.tuple #[.agg #[v,int u64 ((evaK mode key info es r).1:Int),int u64 ((evaK mode key info es r).2:Int)],.int .i64 (evaC mode key info es r)])∧w'.ownsRow w.heap.size 25 3 v (evaG mode key info es r).length (cells3 (evaG mode key info es r))∧Bl w w'∧(¬ evaC mode key info es r=0→v= .slice none 0 0):=by
  have hgw:6<w.heap.size:=World.block_lt_of_cell? w _ (hT 0 (by omega))
  have err:∀(cd:Int) (er:Value),evaC mode key info es r=cd→ ¬ cd=0→Er a0 a1 a2 a3 er cd→
      (∀w',Bl w w'→Calls prog 40 #[.int .i64 mode,int u64 key,.string info,.slice (some ⟨g,0,none⟩) es.length cap,int u64 r] w' fun e w''=>∃V,e= .returned V∧(∃v,V= .tuple #[.agg #[v,int u64 0,int u64 0],er]∧v= .slice none 0 0)∧Bl w' w'')→
      Calls prog 13 #[.int .i64 mode,int u64 key,.string info,.slice (some ⟨g,0,none⟩) es.length cap,int u64 r] w fun e w'=>∃v,e= .returned (.tuple #[.agg #[v,int u64 ((evaK mode key info es r).1:Int),int u64 ((evaK mode key info es r).2:Int)],.int .i64 (evaC mode key info es r)])∧w'.ownsRow w.heap.size 25 3 v (evaG mode key info es r).length (cells3 (evaG mode key info es r))∧Bl w w'∧(¬ evaC mode key info es r=0→v= .slice none 0 0):=fun cd er h h0 hv hB=>by
    obtain⟨hG,hK⟩:=eva_none (show ¬ evaC mode key info es r=0 by rw [h];exact h0);rw [hG,hK,h];refine(evlE_of (fun v _=>v= .slice none 0 0) mode key r 0 0 cd info g es.length cap 0 [] er w (fun v w' w'' h _=>h) (fun v w' h=>by rw [h];exact World.ownsRow_nil _ _ _ _) hB (fun w' v hb hv'=>by rw [hv'];exact ansE_err cd er a0 a1 a2 a3 w' (hs.keep hb) hv)).mono ?_;rintro e w' ⟨v,rfl,hown,b,-,hv'⟩;exact⟨v,rfl,hown,b,fun _=>hv'⟩
  by_cases hm:0≤mode∧mode≤2
  · obtain ⟨hk, hk'⟩:=md_of hm.1 hm.2;obtain⟨F0,F1,F2,F3,F4,F5,F6,hR⟩:=rv_any mode.toNat hk;have hfind:=hR.rl.find;have hbad:=hR.rl.bad;have hsec:=hR.rl.secret;have hfac:=hR.rl.factor;have hprv:=hR.prove;have e1:=hR.rl.e1;have e2:=hR.rl.e2;rw [hk'] at hfind hbad hsec hfac;have okE:=okI_iff hm (info:=info);have EI:=fun (Φ:Value→World→Prop) (w1:World) (hb1:Bl w w1) (T:TypeId) (z:Value)=>eveI_of Φ mode key r (facT mode key info:Nat) ((evaK mode key info es r).1:Int) ((evaK mode key info es r).2:Int) info (ctxB mode.toNat) g es.length cap (es.map asT) (evaE mode key info es) F0 F1 F2 F3 F4 F5 F6 T z a0 a1 a2 a3 w1 (hs.keep hb1) e1
    by_cases ho:okI mode.toNat info
    · have htx:txtB mode 0 info.size=true:=txtB_iff.2 ⟨hm,by omega,(okE.1 ho).1,(okE.1 ho).2⟩;have hFP:∀{w1:World},Bl w w1→∀w',Bl w1 w'→_:=fun {w1} hb1 w' hb=>hfind info a0 a1 a2 a3 w' ((hs.keep hb1).keep hb) ho
      by_cases hkey:keyB key=true
      · have hFF:∀{w1:World},Bl w w1→∀w',Bl w1 w'→Cr 69 #[int u64 key] w' (.tuple #[.agg #[int u64 (key:Int)],.nilIface]):=fun {w1} hb1 w' hb=>by
          have:=facI_any key a0 a1 a2 a3 w' ((hs.keep hb1).keep hb);rwa [if_pos hkey,if_pos hkey] at this
        have hkl:=(keyB_iff.1 hkey).2;by_cases hlen:1≤es.length∧es.length≤200
        · have hFE0 :∀{w1:World},Bl w w1→∀w',Bl w1 w'→_:=fun {w1} hb1 w' hb=>fesI_any es es.length g 0 cap a0 a1 a2 a3 w' ((hs.keep hb1).keep hb) rfl hlen.1 hlen.2 ((hp.below hb1 hp.lt).keep hb)
          by_cases hall:es.all elT=true
          · have hFE:∀{w1:World},Bl w w1→∀w',Bl w1 w'→Calls prog 73 #[.slice (some ⟨g,0,none⟩) es.length cap] w' fun e w''=>∃g1 k1,e= .returned (.tuple #[.slice (some ⟨g1,0,none⟩) es.length k1,.nilIface])∧Cps w'' g1 (es.map asT)∧Bl w' w'':=fun {w1} hb1 w' hb=>(hFE0 hb1 w' hb).mono (by
              rintro e w'' ⟨⟨v,er,rfl,hy,-⟩,b⟩;obtain⟨rfl,hown⟩:=hy hall;obtain⟨g1,k1,rfl,-,-⟩:=hown.form (by omega)
              exact⟨g1,k1,rfl,Cps.of_owns hown,b⟩)
            by_cases hr:r<2305843010818082053
            · have hEX:∀w',Cr 50 #[int u64 r,.agg #[]] w' (.tuple #[.agg #[int u64 (r:Int)],.bool true]):=fun w'=>by
                have:=exN_any r w';rwa [if_pos hr,decide_eq_true hr] at this
              have hSE:=fun {w1:World} (hb1:Bl w w1) w' (hb:Bl w1 w')=>hsec key info a0 a1 a2 a3 w' (keepT hT hgw (hb1.tr hb)) ((hs.keep hb1).keep hb) hkl (okE.1 ho).1
              have hC:evaC mode key info es r=facC mode key info:=evaC_yes ⟨htx,hkey,hr,hlen,hall⟩;by_cases hc:facC mode key info=0
              · have hC0:=hC.trans hc;simp only [hc,if_true] at hSE;have hG:evaG mode key info es r=evaE mode key info es:=if_pos hC0;have hlE:=evaE_length mode key info es;rw [hG,hC0,hlE];have hE:(es.map asT).map (nt (facB mode key info))=evaE mode key info es:=by rw [List.map_map];rfl
                have hEm:=map_asT_ptT (evaE_on mode key info es);have hKe:=evaK_eq hm hC0;refine Calls.mono (evlE_of (fun v w'=>w'.ownsRow w.heap.size 25 3 v es.length (cells3 (evaE mode key info es))) mode key r ((evaK mode key info es r).1:Int) ((evaK mode key info es r).2:Int) 0 info g es.length cap es.length (evaE mode key info es) .nilIface w (fun v w' w'' h b=>below_own3 h b) (fun v w' h=>h) (fun w1 hb1=> ?_) (fun w' v hb hown=> ?_)) ?_
                · refine EI (fun V w''=>∃v,V= .tuple #[.agg #[v,int u64 ((evaK mode key info es r).1:Int),int u64 ((evaK mode key info es r).2:Int)],.nilIface]∧w''.ownsRow w.heap.size 25 3 v es.length (cells3 (evaE mode key info es))) w1 hb1 0 .nilIface (.inr ⟨hFP hb1,.inr ⟨hFF hb1,.inr ⟨hFE hb1,.inr ⟨hEX,.inr ⟨hSE hb1,fun w'' v h=>⟨v,rfl,h.mono hb1.size⟩,fun w' g1 k1 hb hcp=> ?_⟩⟩⟩⟩⟩);have hTw:=keepT hT hgw (hb1.tr hb);have hgw':6<w'.heap.size:=Nat.lt_of_lt_of_le hgw (Nat.le_trans hb1.size hb.size)
                  have:=evtI_of (ctxB mode.toNat) info (facT mode key info:Nat) r ((evaK mode key info es r).1:Int) ((evaK mode key info es r).2:Int) (facB mode key info) es.length g1 k1 (es.map asT) F0 F1 F2 F3 F4 F5 F6 w' e2 (by rw [List.length_map]) hlen.1 hlen.2 (facB_lt mode key info hkl) (asT_list es) hcp (fun w''=>hfac key info w'' hkl hc) (fun w'' g2 k2 hb2 hc2=>by
                    rw [hKe];rw [hE] at hc2
                    exact hprv info (facT mode key info) r es ((evaE mode key info es).map ptT) es.length g1 k1 g2 k2 w'' (keepT hTw hgw' hb2) (facT_lt mode key info hkl) hr hlen.1 hlen.2 rfl (by rw [List.length_map,hlE]) (hcp.below hb2 hcp.lt) (by rw [hEm];exact hc2))
                  rw [hE] at this
                  exact this.mono (by
                    rintro e w'' ⟨v,rfl,hown,b⟩
                    exact⟨v,rfl,hown.mono hb.size,b⟩)
                · obtain⟨g1,k1,rfl,-,-⟩:=hown.form (by omega);exact ansE_ok _ _ _ _ _ w'
                · rintro e w' ⟨v,rfl,hown,b,-⟩;exact⟨v,rfl,hown,b,fun h=>absurd rfl h⟩
              · have h3:facC mode key info=3:=by
                  unfold facC at hc⊢;split
                  · rfl
                  · rename_i hx;rw [if_neg hx] at hc;exact absurd rfl hc
                simp only [hc,if_false] at hSE;exact err 3 (flt ⟨#[107,101,121,32,97,110,100,32,105,110,102,111]⟩ (sen a2)) (hC.trans h3) (by decide) (er_inv _) (fun w1 hb1=>EI _ w1 hb1 0 .nilIface (.inr ⟨hFP hb1,.inr ⟨hFF hb1,.inr ⟨hFE hb1,.inr ⟨hEX,.inl ⟨fun w'=>⟨_,rfl,rfl⟩,hSE hb1⟩⟩⟩⟩⟩))
            · have hEX:∀w',Cr 50 #[int u64 r,.agg #[]] w' (.tuple #[.agg #[int u64 0],.bool false]):=fun w'=>by
                have:=exN_any r w';rwa [if_neg hr,decide_eq_false hr] at this
              exact err 1 (flt ⟨#[114]⟩ (sen a0)) (evaC_no (fun h=>hr h.2.2.1)) (by decide) (er_args _) (fun w1 hb1=>EI _ w1 hb1 0 .nilIface (.inr ⟨hFP hb1,.inr ⟨hFF hb1,.inr ⟨hFE hb1,.inl ⟨fun w'=>⟨_,rfl,rfl⟩,hEX⟩⟩⟩⟩))
          · have hall':es.all elT=false:=by cases h:es.all elT<;>simp_all
            exact err 1 (flt ⟨#[101,108,101,109,101,110,116,115]⟩ (sen a0)) (evaC_no (fun h=>hall h.2.2.2.2)) (by decide) (er_args _) (fun w1 hb1=>EI _ w1 hb1 0 .nilIface (.inr ⟨hFP hb1,.inr ⟨hFF hb1,.inl ⟨fun w'=>⟨_,rfl,rfl⟩,fun w' hb=>(hFE0 hb1 w' hb).mono (by
              rintro e w'' ⟨⟨v,er,rfl,-,hn⟩,b⟩;obtain⟨rfl,rfl⟩:=hn hall'
              exact⟨rfl,b⟩)⟩⟩⟩))
        · exact err 1 (flt ⟨#[101,108,101,109,101,110,116,115]⟩ (sen a0)) (evaC_no (fun h=>hlen h.2.2.2.1)) (by decide) (er_args _) (fun w1 hb1=>EI _ w1 hb1 0 .nilIface (.inr ⟨hFP hb1,.inr ⟨hFF hb1,.inl ⟨fun w'=>⟨_,rfl,rfl⟩,fun w' hb=>fesI_len _ es.length cap a0 a1 a2 a3 w' ((hs.keep hb1).keep hb) (by omega)⟩⟩⟩))
      · exact err 1 (flt ⟨#[107,101,121]⟩ (sen a0)) (evaC_no (fun h=>hkey h.2.1)) (by decide) (er_args _) (fun w1 hb1=>EI _ w1 hb1 0 .nilIface (.inr ⟨hFP hb1,.inl ⟨fun w'=>⟨_,rfl,rfl⟩,fun w' hb=>by
          have:=facI_any key a0 a1 a2 a3 w' ((hs.keep hb1).keep hb)
          rwa [if_neg hkey,if_neg hkey] at this⟩⟩))
    · exact err 1 (flt ⟨#[105,110,102,111]⟩ (sen a0)) (evaC_no (fun h=>ho (okE.2 ⟨(txtB_iff.1 h.1).2.2.1,(txtB_iff.1 h.1).2.2.2⟩))) (by decide) (er_args _) (fun w1 hb1=>EI _ w1 hb1 131 (.agg #[.string ⟨#[105,110,102,111]⟩,sen a0]) (.inl ⟨fun w'=>⟨_,rfl,rfl⟩,fun w' hb=>hbad info a0 a1 a2 a3 w' ((hs.keep hb1).keep hb) ho⟩))
  · exact err 1 (flt ⟨#[109,111,100,101]⟩ (sen a0)) (evaC_no (fun h=>hm (txtB_iff.1 h.1).1)) (by decide) (er_args _) (fun w1 hb1=>eveI_of _ mode key r 0 0 0 info ⟨#[]⟩ g es.length cap [] [] 0 135 0 0 0 0 0 131 (.agg #[.string ⟨#[109,111,100,101]⟩,sen a0]) a0 a1 a2 a3 w1 (hs.keep hb1) enKA (.inl ⟨fun w'=>⟨_,rfl,rfl⟩,fun w' hb=>proI_no mode _ info a0 a1 a2 a3 w' ((hs.keep hb1).keep hb) (fun w=>ctxI_no mode w hm)⟩))
theorem Bk.clash {W:World}{t t':TypeId}{b:Nat}{cs cs':Array Value}(h:Bk W t b cs)(h':Bk W t' b cs')(hne:t≠t'):False:=by
  unfold Bk at*;rw [h] at h';cases h';exact hne rfl
section
variable (mode x y k:Int)(c:Bool)(input info cx:ByteArray)(q p s u:Pt)(F0 F1 F2 F3 F4 F5 F6:FuncId)(T:TypeId)(z:Value)(a0 a2:Addr)(w:World)
theorem biI_a
    (FP:Cb w 67 #[.int .i64 mode,.string info] (.tuple #[.agg #[.string ⟨#[]⟩,.string ⟨#[]⟩,.nilFunc,.nilFunc,.nilFunc,.nilFunc,.nilFunc,.nilFunc,.nilFunc],.iface T z])):
    Cr 36 #[.int .i64 mode,.string input,.string info,.agg #[int u64 x,int u64 y,.bool c],int u64 k] w (.tuple #[.agg #[int u64 0,int u64 0,.bool false,int u64 0,int u64 0,.bool false],.iface T z]):=by
  obtain⟨X,hX⟩:∃X,X=(w.alloc (Obj.cells #[int u64 x,int u64 y,.bool c] 25)).alloc (Obj.cells #[int u64 0,int u64 0,.bool false,int u64 0,int u64 0,.bool false] 32):=⟨_,rfl⟩;have r8:Bk X 25 w.heap.size #[int u64 x,int u64 y,.bool c]:=by rw [hX];exact(Bk.new _ _ _).alloc _
  have r10:Bk X 32 (w.heap.size+1) #[int u64 0,int u64 0,.bool false,int u64 0,int u64 0,.bool false]:=by rw [hX];exact(Bk.new _ _ _).at (by simp)
  have hb:Bl w X:=by rw [hX];exact((Below.refl _ w).alloc (Nat.le_refl _) _).alloc (by simp) _
  rw [hX] at r8 r10 hb;clear hX;go_enter func36,ntmps36;go_wp2_with fail;refine(FP _ hb).mono ?_;rintro e w1 ⟨rfl,b1⟩;have hal:=balc w1 (Obj.cells #[.string ⟨#[]⟩,.string ⟨#[]⟩,.nilFunc,.nilFunc,.nilFunc,.nilFunc,.nilFunc,.nilFunc,.nilFunc] 125);replace r8:=(r8.keep b1).keep hal;replace r10:=(r10.keep b1).keep hal;replace hb:=hb.tr b1;replace hb:=hb.tr hal;clear FP b1 hal;have hth:=r10.there 6 (by decide);go_wp2_with (refine wpList_store_mid rfl 32 _ _ rfl (w.heap.size+1) 0 #[int u64 0,int u64 0,.bool false,int u64 0,int u64 0,.bool false] rfl rfl hth sizeBld (by kernel_rfl) ?_);exact bodyPost_ret (v:= .tuple #[.agg #[int u64 0,int u64 0,.bool false,int u64 0,int u64 0,.bool false],.iface T z]) (bk_res2 (fn:=Tryz.f36) (p:=10) (u:=11) results36 _ rfl (r10.sets _ rfl) underlying32 rfl sizeBld) rfl ⟨rfl,below_setCells hb (by omega) _ _⟩
variable (FP:Cb w 67 #[.int .i64 mode,.string info] (.tuple #[.agg #[.string cx,.string info,.func (.func F0) #[] #[],.func (.func F1) #[] #[],.func (.func F2) #[] #[],.func (.func F3) #[] #[],.func (.func F4) #[] #[],.func (.func F5) #[] #[],.func (.func F6) #[] #[]],.nilIface]))
include FP
theorem biI_b
    (EL:Cb w 68 #[.agg #[int u64 x,int u64 y,.bool c]] (.tuple #[.agg #[int u64 0,int u64 0,.bool true],sen a0])):
    Cr 36 #[.int .i64 mode,.string input,.string info,.agg #[int u64 x,int u64 y,.bool c],int u64 k] w (.tuple #[.agg #[int u64 0,int u64 0,.bool false,int u64 0,int u64 0,.bool false],flt ⟨#[112,117,98,108,105,99]⟩ (sen a0)]):=by
  unfold flt sen at*;obtain⟨X,hX⟩:∃X,X=(w.alloc (Obj.cells #[int u64 x,int u64 y,.bool c] 25)).alloc (Obj.cells #[int u64 0,int u64 0,.bool false,int u64 0,int u64 0,.bool false] 32):=⟨_,rfl⟩;have r8:Bk X 25 w.heap.size #[int u64 x,int u64 y,.bool c]:=by rw [hX];exact(Bk.new _ _ _).alloc _
  have r10:Bk X 32 (w.heap.size+1) #[int u64 0,int u64 0,.bool false,int u64 0,int u64 0,.bool false]:=by rw [hX];exact(Bk.new _ _ _).at (by simp)
  have hb:Bl w X:=by rw [hX];exact((Below.refl _ w).alloc (Nat.le_refl _) _).alloc (by simp) _
  rw [hX] at r8 r10 hb;clear hX;go_enter func36,ntmps36;go_wp2_with fail;refine(FP _ hb).mono ?_;rintro e w1 ⟨rfl,b1⟩;have hal:=balc w1 (Obj.cells #[.string cx,.string info,.func (.func F0) #[] #[],.func (.func F1) #[] #[],.func (.func F2) #[] #[],.func (.func F3) #[] #[],.func (.func F4) #[] #[],.func (.func F5) #[] #[],.func (.func F6) #[] #[]] 125);have r12:=Bk.new w1 125 #[.string cx,.string info,.func (.func F0) #[] #[],.func (.func F1) #[] #[],.func (.func F2) #[] #[],.func (.func F3) #[] #[],.func (.func F4) #[] #[],.func (.func F5) #[] #[],.func (.func F6) #[] #[]];replace r8:=(r8.keep b1).keep hal;replace r10:=(r10.keep b1).keep hal;replace hb:=hb.tr b1;replace hb:=hb.tr hal;clear FP b1 hal;have p0:=r8.cell (k:=0) rfl;have p1:=r8.cell (k:=1) rfl;have p2:=r8.cell (k:=2) rfl;go_wp2_with fail;refine(EL _ hb).mono ?_;rintro e w2 ⟨rfl,b1⟩;have hal:=balc w2 (Obj.cells #[int u64 0,int u64 0,.bool true] 86);replace r10:=(r10.keep b1).keep hal;replace hb:=hb.tr b1;replace hb:=hb.tr hal;clear EL p0 p1 p2 b1 hal;have hth:=r10.there 6 (by decide);go_wp2_with (refine wpList_store_mid rfl 32 _ _ rfl (w.heap.size+1) 0 #[int u64 0,int u64 0,.bool false,int u64 0,int u64 0,.bool false] rfl rfl hth sizeBld (by kernel_rfl) ?_);exact bodyPost_ret (v:= .tuple #[.agg #[int u64 0,int u64 0,.bool false,int u64 0,int u64 0,.bool false],flt ⟨#[112,117,98,108,105,99]⟩ (sen a0)]) (bk_res2 (fn:=Tryz.f36) (p:=10) (u:=11) results36 _ rfl (r10.sets _ rfl) underlying32 rfl sizeBld) rfl ⟨rfl,below_setCells hb (by omega) _ _⟩
variable (EL:Cb w 68 #[.agg #[int u64 x,int u64 y,.bool c]] (.tuple #[.agg #[int u64 (px q),int u64 (py q),.bool (pb q)],.nilIface]))
include EL
theorem biI_c
    (FF:Cb w 69 #[int u64 k] (.tuple #[.agg #[int u64 0],sen a0])):
    Cr 36 #[.int .i64 mode,.string input,.string info,.agg #[int u64 x,int u64 y,.bool c],int u64 k] w (.tuple #[.agg #[int u64 0,int u64 0,.bool false,int u64 0,int u64 0,.bool false],flt ⟨#[98,108,105,110,100]⟩ (sen a0)]):=by
  unfold flt sen at*;obtain⟨X,hX⟩:∃X,X=(w.alloc (Obj.cells #[int u64 x,int u64 y,.bool c] 25)).alloc (Obj.cells #[int u64 0,int u64 0,.bool false,int u64 0,int u64 0,.bool false] 32):=⟨_,rfl⟩;have r8:Bk X 25 w.heap.size #[int u64 x,int u64 y,.bool c]:=by rw [hX];exact(Bk.new _ _ _).alloc _
  have r10:Bk X 32 (w.heap.size+1) #[int u64 0,int u64 0,.bool false,int u64 0,int u64 0,.bool false]:=by rw [hX];exact(Bk.new _ _ _).at (by simp)
  have hb:Bl w X:=by rw [hX];exact((Below.refl _ w).alloc (Nat.le_refl _) _).alloc (by simp) _
  rw [hX] at r8 r10 hb;clear hX;go_enter func36,ntmps36;go_wp2_with fail;refine(FP _ hb).mono ?_;rintro e w1 ⟨rfl,b1⟩;have hal:=balc w1 (Obj.cells #[.string cx,.string info,.func (.func F0) #[] #[],.func (.func F1) #[] #[],.func (.func F2) #[] #[],.func (.func F3) #[] #[],.func (.func F4) #[] #[],.func (.func F5) #[] #[],.func (.func F6) #[] #[]] 125);have r12:=Bk.new w1 125 #[.string cx,.string info,.func (.func F0) #[] #[],.func (.func F1) #[] #[],.func (.func F2) #[] #[],.func (.func F3) #[] #[],.func (.func F4) #[] #[],.func (.func F5) #[] #[],.func (.func F6) #[] #[]];replace r8:=(r8.keep b1).keep hal;replace r10:=(r10.keep b1).keep hal;replace hb:=hb.tr b1;replace hb:=hb.tr hal;clear FP b1 hal;have p0:=r8.cell (k:=0) rfl;have p1:=r8.cell (k:=1) rfl;have p2:=r8.cell (k:=2) rfl;go_wp2_with fail;refine(EL _ hb).mono ?_;rintro e w2 ⟨rfl,b1⟩;have hal:=balc w2 (Obj.cells #[int u64 (px q),int u64 (py q),.bool (pb q)] 86);have r14:=Bk.new w2 86 #[int u64 (px q),int u64 (py q),.bool (pb q)];replace r10:=(r10.keep b1).keep hal;replace r12:=(r12.keep b1).keep hal;replace hb:=hb.tr b1;replace hb:=hb.tr hal;clear EL p0 p1 p2 b1 hal;go_wp2_with fail;refine(FF _ hb).mono ?_;rintro e w3 ⟨rfl,b1⟩;have hal:=balc w3 (Obj.cells #[int u64 0] 97);replace r10:=(r10.keep b1).keep hal;replace hb:=hb.tr b1;replace hb:=hb.tr hal;clear FF b1 hal;have hth:=r10.there 6 (by decide);go_wp2_with (refine wpList_store_mid rfl 32 _ _ rfl (w.heap.size+1) 0 #[int u64 0,int u64 0,.bool false,int u64 0,int u64 0,.bool false] rfl rfl hth sizeBld (by kernel_rfl) ?_);exact bodyPost_ret (v:= .tuple #[.agg #[int u64 0,int u64 0,.bool false,int u64 0,int u64 0,.bool false],flt ⟨#[98,108,105,110,100]⟩ (sen a0)]) (bk_res2 (fn:=Tryz.f36) (p:=10) (u:=11) results36 _ rfl (r10.sets _ rfl) underlying32 rfl sizeBld) rfl ⟨rfl,below_setCells hb (by omega) _ _⟩
variable (FF:Cb w 69 #[int u64 k] (.tuple #[.agg #[int u64 k],.nilIface]))
include FF
theorem biI_d
    (GR:Cb w 70 #[.agg #[.string cx,.string info,.func (.func F0) #[] #[],.func (.func F1) #[] #[],.func (.func F2) #[] #[],.func (.func F3) #[] #[],.func (.func F4) #[] #[],.func (.func F5) #[] #[],.func (.func F6) #[] #[]],.string input] (.tuple #[.agg #[int u64 (px p),int u64 (py p),.bool (pb p)],.iface T z])):
    Cr 36 #[.int .i64 mode,.string input,.string info,.agg #[int u64 x,int u64 y,.bool c],int u64 k] w (.tuple #[.agg #[int u64 0,int u64 0,.bool false,int u64 0,int u64 0,.bool false],.iface T z]):=by
  obtain⟨X,hX⟩:∃X,X=(w.alloc (Obj.cells #[int u64 x,int u64 y,.bool c] 25)).alloc (Obj.cells #[int u64 0,int u64 0,.bool false,int u64 0,int u64 0,.bool false] 32):=⟨_,rfl⟩;have r8:Bk X 25 w.heap.size #[int u64 x,int u64 y,.bool c]:=by rw [hX];exact(Bk.new _ _ _).alloc _
  have r10:Bk X 32 (w.heap.size+1) #[int u64 0,int u64 0,.bool false,int u64 0,int u64 0,.bool false]:=by rw [hX];exact(Bk.new _ _ _).at (by simp)
  have hb:Bl w X:=by rw [hX];exact((Below.refl _ w).alloc (Nat.le_refl _) _).alloc (by simp) _
  rw [hX] at r8 r10 hb;clear hX;go_enter func36,ntmps36;go_wp2_with fail;refine(FP _ hb).mono ?_;rintro e w1 ⟨rfl,b1⟩;have hal:=balc w1 (Obj.cells #[.string cx,.string info,.func (.func F0) #[] #[],.func (.func F1) #[] #[],.func (.func F2) #[] #[],.func (.func F3) #[] #[],.func (.func F4) #[] #[],.func (.func F5) #[] #[],.func (.func F6) #[] #[]] 125);have r12:=Bk.new w1 125 #[.string cx,.string info,.func (.func F0) #[] #[],.func (.func F1) #[] #[],.func (.func F2) #[] #[],.func (.func F3) #[] #[],.func (.func F4) #[] #[],.func (.func F5) #[] #[],.func (.func F6) #[] #[]];replace r8:=(r8.keep b1).keep hal;replace r10:=(r10.keep b1).keep hal;replace hb:=hb.tr b1;replace hb:=hb.tr hal;clear FP b1 hal;have p0:=r8.cell (k:=0) rfl;have p1:=r8.cell (k:=1) rfl;have p2:=r8.cell (k:=2) rfl;go_wp2_with fail;refine(EL _ hb).mono ?_;rintro e w2 ⟨rfl,b1⟩;have hal:=balc w2 (Obj.cells #[int u64 (px q),int u64 (py q),.bool (pb q)] 86);have r14:=Bk.new w2 86 #[int u64 (px q),int u64 (py q),.bool (pb q)];replace r10:=(r10.keep b1).keep hal;replace r12:=(r12.keep b1).keep hal;replace hb:=hb.tr b1;replace hb:=hb.tr hal;clear EL p0 p1 p2 b1 hal;go_wp2_with fail;refine(FF _ hb).mono ?_;rintro e w3 ⟨rfl,b1⟩;have hal:=balc w3 (Obj.cells #[int u64 k] 97);have r15:=Bk.new w3 97 #[int u64 k];replace r10:=(r10.keep b1).keep hal;replace r12:=(r12.keep b1).keep hal;replace r14:=(r14.keep b1).keep hal;replace hb:=hb.tr b1;replace hb:=hb.tr hal;clear FF b1 hal;have d0:=r12.cell (k:=0) rfl;have d1:=r12.cell (k:=1) rfl;have d2:=r12.cell (k:=2) rfl;have d3:=r12.cell (k:=3) rfl;have d4:=r12.cell (k:=4) rfl;have d5:=r12.cell (k:=5) rfl;have d6:=r12.cell (k:=6) rfl;have d7:=r12.cell (k:=7) rfl;have d8:=r12.cell (k:=8) rfl;go_wp2_with fail;refine(GR _ hb).mono ?_;rintro e w4 ⟨rfl,b1⟩;have hal:=balc w4 (Obj.cells #[int u64 (px p),int u64 (py p),.bool (pb p)] 86);replace r10:=(r10.keep b1).keep hal;replace hb:=hb.tr b1;replace hb:=hb.tr hal;clear GR d0 d1 d2 d3 d4 d5 d6 d7 d8 b1 hal;have hth:=r10.there 6 (by decide);go_wp2_with (refine wpList_store_mid rfl 32 _ _ rfl (w.heap.size+1) 0 #[int u64 0,int u64 0,.bool false,int u64 0,int u64 0,.bool false] rfl rfl hth sizeBld (by kernel_rfl) ?_);exact bodyPost_ret (v:= .tuple #[.agg #[int u64 0,int u64 0,.bool false,int u64 0,int u64 0,.bool false],.iface T z]) (bk_res2 (fn:=Tryz.f36) (p:=10) (u:=11) results36 _ rfl (r10.sets _ rfl) underlying32 rfl sizeBld) rfl ⟨rfl,below_setCells hb (by omega) _ _⟩
variable (GR:Cb w 70 #[.agg #[.string cx,.string info,.func (.func F0) #[] #[],.func (.func F1) #[] #[],.func (.func F2) #[] #[],.func (.func F3) #[] #[],.func (.func F4) #[] #[],.func (.func F5) #[] #[],.func (.func F6) #[] #[]],.string input] (.tuple #[.agg #[int u64 (px p),int u64 (py p),.bool (pb p)],.nilIface]))
    (E3:∀(args:Array Value) (w:World),(callFunc F3 args).run prog w= .ok (.enter F3 args) w)
include GR E3
theorem biI_e
    (TW:Cb w F3 #[.agg #[.string cx,.string info],.agg #[int u64 (px q),int u64 (py q),.bool (pb q)]] (.tuple #[.agg #[int u64 (px s),int u64 (py s),.bool (pb s)],sen a2])):
    Cr 36 #[.int .i64 mode,.string input,.string info,.agg #[int u64 x,int u64 y,.bool c],int u64 k] w (.tuple #[.agg #[int u64 0,int u64 0,.bool false,int u64 0,int u64 0,.bool false],flt ⟨#[112,117,98,108,105,99,32,97,110,100,32,105,110,102,111]⟩ (sen a2)]):=by
  unfold flt sen at*;obtain⟨X,hX⟩:∃X,X=(w.alloc (Obj.cells #[int u64 x,int u64 y,.bool c] 25)).alloc (Obj.cells #[int u64 0,int u64 0,.bool false,int u64 0,int u64 0,.bool false] 32):=⟨_,rfl⟩;have r8:Bk X 25 w.heap.size #[int u64 x,int u64 y,.bool c]:=by rw [hX];exact(Bk.new _ _ _).alloc _
  have r10:Bk X 32 (w.heap.size+1) #[int u64 0,int u64 0,.bool false,int u64 0,int u64 0,.bool false]:=by rw [hX];exact(Bk.new _ _ _).at (by simp)
  have hb:Bl w X:=by rw [hX];exact((Below.refl _ w).alloc (Nat.le_refl _) _).alloc (by simp) _
  rw [hX] at r8 r10 hb;clear hX;go_enter func36,ntmps36;go_wp2_with fail;refine(FP _ hb).mono ?_;rintro e w1 ⟨rfl,b1⟩;have hal:=balc w1 (Obj.cells #[.string cx,.string info,.func (.func F0) #[] #[],.func (.func F1) #[] #[],.func (.func F2) #[] #[],.func (.func F3) #[] #[],.func (.func F4) #[] #[],.func (.func F5) #[] #[],.func (.func F6) #[] #[]] 125);have r12:=Bk.new w1 125 #[.string cx,.string info,.func (.func F0) #[] #[],.func (.func F1) #[] #[],.func (.func F2) #[] #[],.func (.func F3) #[] #[],.func (.func F4) #[] #[],.func (.func F5) #[] #[],.func (.func F6) #[] #[]];replace r8:=(r8.keep b1).keep hal;replace r10:=(r10.keep b1).keep hal;replace hb:=hb.tr b1;replace hb:=hb.tr hal;clear FP b1 hal;have p0:=r8.cell (k:=0) rfl;have p1:=r8.cell (k:=1) rfl;have p2:=r8.cell (k:=2) rfl;go_wp2_with fail;refine(EL _ hb).mono ?_;rintro e w2 ⟨rfl,b1⟩;have hal:=balc w2 (Obj.cells #[int u64 (px q),int u64 (py q),.bool (pb q)] 86);have r14:=Bk.new w2 86 #[int u64 (px q),int u64 (py q),.bool (pb q)];replace r10:=(r10.keep b1).keep hal;replace r12:=(r12.keep b1).keep hal;replace hb:=hb.tr b1;replace hb:=hb.tr hal;clear EL p0 p1 p2 b1 hal;go_wp2_with fail;refine(FF _ hb).mono ?_;rintro e w3 ⟨rfl,b1⟩;have hal:=balc w3 (Obj.cells #[int u64 k] 97);have r15:=Bk.new w3 97 #[int u64 k];replace r10:=(r10.keep b1).keep hal;replace r12:=(r12.keep b1).keep hal;replace r14:=(r14.keep b1).keep hal;replace hb:=hb.tr b1;replace hb:=hb.tr hal;clear FF b1 hal;have d0:=r12.cell (k:=0) rfl;have d1:=r12.cell (k:=1) rfl;have d2:=r12.cell (k:=2) rfl;have d3:=r12.cell (k:=3) rfl;have d4:=r12.cell (k:=4) rfl;have d5:=r12.cell (k:=5) rfl;have d6:=r12.cell (k:=6) rfl;have d7:=r12.cell (k:=7) rfl;have d8:=r12.cell (k:=8) rfl;go_wp2_with fail;refine(GR _ hb).mono ?_;rintro e w4 ⟨rfl,b1⟩;have hal:=balc w4 (Obj.cells #[int u64 (px p),int u64 (py p),.bool (pb p)] 86);have r16:=Bk.new w4 86 #[int u64 (px p),int u64 (py p),.bool (pb p)];replace r10:=(r10.keep b1).keep hal;replace r12:=(r12.keep b1).keep hal;replace r14:=(r14.keep b1).keep hal;replace r15:=(r15.keep b1).keep hal;replace hb:=hb.tr b1;replace hb:=hb.tr hal;clear GR d0 d1 d2 d3 d4 d5 d6 d7 d8 b1 hal;have d0:=r12.cell (k:=0) rfl;have d1:=r12.cell (k:=1) rfl;have d5:=r12.cell (k:=5) rfl;have q0:=r14.cell (k:=0) rfl;have q1:=r14.cell (k:=1) rfl;have q2:=r14.cell (k:=2) rfl;go_wp2_with fail;refine(TW _ hb).mono ?_;rintro e w5 ⟨rfl,b1⟩;have hal:=balc w5 (Obj.cells #[int u64 (px s),int u64 (py s),.bool (pb s)] 86);replace r10:=(r10.keep b1).keep hal;replace hb:=hb.tr b1;replace hb:=hb.tr hal;clear TW d0 d1 d5 q0 q1 q2 b1 hal;have hth:=r10.there 6 (by decide);go_wp2_with (refine wpList_store_mid rfl 32 _ _ rfl (w.heap.size+1) 0 #[int u64 0,int u64 0,.bool false,int u64 0,int u64 0,.bool false] rfl rfl hth sizeBld (by kernel_rfl) ?_);exact bodyPost_ret (v:= .tuple #[.agg #[int u64 0,int u64 0,.bool false,int u64 0,int u64 0,.bool false],flt ⟨#[112,117,98,108,105,99,32,97,110,100,32,105,110,102,111]⟩ (sen a2)]) (bk_res2 (fn:=Tryz.f36) (p:=10) (u:=11) results36 _ rfl (r10.sets _ rfl) underlying32 rfl sizeBld) rfl ⟨rfl,below_setCells hb (by omega) _ _⟩
theorem biI_f
    (TW:Cb w F3 #[.agg #[.string cx,.string info],.agg #[int u64 (px q),int u64 (py q),.bool (pb q)]] (.tuple #[.agg #[int u64 (px s),int u64 (py s),.bool (pb s)],.nilIface]))
    (TM:Cc 71 #[.agg #[int u64 (px p),int u64 (py p),.bool (pb p)],int u64 k] (.agg #[int u64 (px u),int u64 (py u),.bool (pb u)])):
    Cr 36 #[.int .i64 mode,.string input,.string info,.agg #[int u64 x,int u64 y,.bool c],int u64 k] w (.tuple #[.agg #[int u64 (px u),int u64 (py u),.bool (pb u),int u64 (px s),int u64 (py s),.bool (pb s)],.nilIface]):=by
  obtain⟨X,hX⟩:∃X,X=(w.alloc (Obj.cells #[int u64 x,int u64 y,.bool c] 25)).alloc (Obj.cells #[int u64 0,int u64 0,.bool false,int u64 0,int u64 0,.bool false] 32):=⟨_,rfl⟩;have r8:Bk X 25 w.heap.size #[int u64 x,int u64 y,.bool c]:=by rw [hX];exact(Bk.new _ _ _).alloc _
  have r10:Bk X 32 (w.heap.size+1) #[int u64 0,int u64 0,.bool false,int u64 0,int u64 0,.bool false]:=by rw [hX];exact(Bk.new _ _ _).at (by simp)
  have hb:Bl w X:=by rw [hX];exact((Below.refl _ w).alloc (Nat.le_refl _) _).alloc (by simp) _
  rw [hX] at r8 r10 hb;clear hX;go_enter func36,ntmps36;go_wp2_with fail;refine(FP _ hb).mono ?_;rintro e w1 ⟨rfl,b1⟩;have hal:=balc w1 (Obj.cells #[.string cx,.string info,.func (.func F0) #[] #[],.func (.func F1) #[] #[],.func (.func F2) #[] #[],.func (.func F3) #[] #[],.func (.func F4) #[] #[],.func (.func F5) #[] #[],.func (.func F6) #[] #[]] 125);have r12:=Bk.new w1 125 #[.string cx,.string info,.func (.func F0) #[] #[],.func (.func F1) #[] #[],.func (.func F2) #[] #[],.func (.func F3) #[] #[],.func (.func F4) #[] #[],.func (.func F5) #[] #[],.func (.func F6) #[] #[]];replace r8:=(r8.keep b1).keep hal;replace r10:=(r10.keep b1).keep hal;replace hb:=hb.tr b1;replace hb:=hb.tr hal;clear FP b1 hal;have p0:=r8.cell (k:=0) rfl;have p1:=r8.cell (k:=1) rfl;have p2:=r8.cell (k:=2) rfl;go_wp2_with fail;refine(EL _ hb).mono ?_;rintro e w2 ⟨rfl,b1⟩;have hal:=balc w2 (Obj.cells #[int u64 (px q),int u64 (py q),.bool (pb q)] 86);have r14:=Bk.new w2 86 #[int u64 (px q),int u64 (py q),.bool (pb q)];replace r10:=(r10.keep b1).keep hal;replace r12:=(r12.keep b1).keep hal;replace hb:=hb.tr b1;replace hb:=hb.tr hal;clear EL p0 p1 p2 b1 hal;go_wp2_with fail;refine(FF _ hb).mono ?_;rintro e w3 ⟨rfl,b1⟩;have hal:=balc w3 (Obj.cells #[int u64 k] 97);have r15:=Bk.new w3 97 #[int u64 k];replace r10:=(r10.keep b1).keep hal;replace r12:=(r12.keep b1).keep hal;replace r14:=(r14.keep b1).keep hal;replace hb:=hb.tr b1;replace hb:=hb.tr hal;clear FF b1 hal;have d0:=r12.cell (k:=0) rfl;have d1:=r12.cell (k:=1) rfl;have d2:=r12.cell (k:=2) rfl;have d3:=r12.cell (k:=3) rfl;have d4:=r12.cell (k:=4) rfl;have d5:=r12.cell (k:=5) rfl;have d6:=r12.cell (k:=6) rfl;have d7:=r12.cell (k:=7) rfl;have d8:=r12.cell (k:=8) rfl;go_wp2_with fail;refine(GR _ hb).mono ?_;rintro e w4 ⟨rfl,b1⟩;have hal:=balc w4 (Obj.cells #[int u64 (px p),int u64 (py p),.bool (pb p)] 86);have r16:=Bk.new w4 86 #[int u64 (px p),int u64 (py p),.bool (pb p)];replace r10:=(r10.keep b1).keep hal;replace r12:=(r12.keep b1).keep hal;replace r14:=(r14.keep b1).keep hal;replace r15:=(r15.keep b1).keep hal;replace hb:=hb.tr b1;replace hb:=hb.tr hal;clear GR d0 d1 d2 d3 d4 d5 d6 d7 d8 b1 hal;have d0:=r12.cell (k:=0) rfl;have d1:=r12.cell (k:=1) rfl;have d5:=r12.cell (k:=5) rfl;have q0:=r14.cell (k:=0) rfl;have q1:=r14.cell (k:=1) rfl;have q2:=r14.cell (k:=2) rfl;go_wp2_with fail;refine(TW _ hb).mono ?_;rintro e w5 ⟨rfl,b1⟩;have hal:=balc w5 (Obj.cells #[int u64 (px s),int u64 (py s),.bool (pb s)] 86);have r17:=Bk.new w5 86 #[int u64 (px s),int u64 (py s),.bool (pb s)];replace r10:=(r10.keep b1).keep hal;replace r15:=(r15.keep b1).keep hal;replace r16:=(r16.keep b1).keep hal;replace hb:=hb.tr b1;replace hb:=hb.tr hal;clear TW d0 d1 d5 q0 q1 q2 b1 hal;have y0:=r15.cell (k:=0) rfl;go_wp2;clear y0;generalize w5.alloc _=W5 at*;have m15:=r15;generalize w3.heap.size=BF at*;generalize w4.heap.size=BG at*;generalize w5.heap.size=BT at*;have q0:W5.drew.cell? ⟨BG,0,none⟩=_:=r16.cell (k:=0) rfl;have q1:W5.drew.cell? ⟨BG,1,none⟩=_:=r16.cell (k:=1) rfl;have q2:W5.drew.cell? ⟨BG,2,none⟩=_:=r16.cell (k:=2) rfl;have t0:W5.drew.cell? ⟨BT,0,none⟩=_:=r17.cell (k:=0) rfl;have t1:W5.drew.cell? ⟨BT,1,none⟩=_:=r17.cell (k:=1) rfl;have t2:W5.drew.cell? ⟨BT,2,none⟩=_:=r17.cell (k:=2) rfl;have y0:W5.drew.cell? ⟨BF,0,none⟩=_:=r15.cell (k:=0) rfl;have nG:BG∉ [w.heap.size+1]:=fun h=>by have e:=List.mem_singleton.1 h;subst e;exact Bk.clash r10 r16 (by decide)
  have nT:BT∉ [w.heap.size+1]:=fun h=>by have e:=List.mem_singleton.1 h;subst e;exact Bk.clash r10 r17 (by decide)
  have nF:BF∉ [w.heap.size+1]:=fun h=>by have e:=List.mem_singleton.1 h;subst e;exact Bk.clash r10 r15 (by decide)
  have l1:w.heap.size+1<W5.drew.heap.size:=r10.lt
  refine G.pool_list (W:=W5) [w.heap.size+1] [.val (.agg #[int u64 (px p),int u64 (py p),.bool (pb p)]),
      .val (.pointer (some ⟨BF,0,none⟩)),
      .val (int u64 k),
      .val (.agg #[int u64 (px u),int u64 (py u),.bool (pb u)]),
      .val (.agg #[int u64 (px u),int u64 (py u),.bool (pb u)]),
      .val (.pointer (some ⟨BT,0,none⟩)),
      .val (.agg #[int u64 (px s),int u64 (py s),.bool (pb s)]),
      .val (.agg #[int u64 (px u),int u64 (py u),.bool (pb u),int u64 (px s),int u64 (py s),.bool (pb s)]),
      .set (w.heap.size+1) (.cells #[int u64 0,int u64 0,.bool false,int u64 0,int u64 0,.bool false] 32) (.cells #[int u64 (px u),int u64 (py u),.bool (pb u),int u64 (px s),int u64 (py s),.bool (pb s)] 32),
      .val (.nilIface)] [[16],[15],[77],[76,78],[79],[17],[81],[80,82],[10,83],[]] (fun f=> [(some 76,.agg #[int u64 (px p),int u64 (py p),.bool (pb p)]),(some 77,.pointer (some ⟨BF,0,none⟩)),(some 78,int u64 k),(some 79,.agg #[int u64 (px u),int u64 (py u),.bool (pb u)]),(some 80,.agg #[int u64 (px u),int u64 (py u),.bool (pb u)]),(some 81,.pointer (some ⟨BT,0,none⟩)),(some 82,.agg #[int u64 (px s),int u64 (py s),.bool (pb s)]),(some 83,.agg #[int u64 (px u),int u64 (py u),.bool (pb u),int u64 (px s),int u64 (py s),.bool (pb s)]),(none,undef),(some 11,.nilIface)]) (by kernel_rfl) (by kernel_rfl) (by kernel_rfl) (by kernel_rfl) (fun _=>by kernel_rfl) (G.last_of [.cells #[int u64 0,int u64 0,.bool false,int u64 0,int u64 0,.bool false] 32] (fun F R hm=>by simp at hm) (fun ob ob' k hm=>by simp at hm) (fun b ob ob' hm=>by simp at hm;simp [hm])) (fun b ob ob' hm=>by simp at hm;obtain⟨rfl,rfl,-⟩:=hm;exact r10) ?_ ?_
  · intro ix hix
    match ix,hix with
    |0,_=>exact G.obv [(16,.pointer (some ⟨BG,0,none⟩))] rfl rfl (fun A w ⟨e0,_⟩ hB=>ld_cp e0 (hB.cell q0 nG) (hB.cell q1 nG) (hB.cell q2 nG))
    |1,_=>exact G.obv [(15,.pointer (some ⟨BF,0,none⟩))] rfl rfl (fun A w ⟨e0,_⟩ hB=>fa_nN1 e0)
    |2,_=>exact G.obv [(77,.pointer (some ⟨BF,0,none⟩))] rfl rfl (fun A w ⟨e0,_⟩ hB=>ld_u64 e0 (hB.cell y0 nF))
    |3,_=>exact G.obv [(76,.agg #[int u64 (px p),int u64 (py p),.bool (pb p)]),(78,int u64 k)] rfl rfl (fun A w ⟨e0,e1,_⟩ hB=>cl2 cf_impl_curvePoint_times e0 e1 (TM w))
    |4,_=>exact G.obv [(79,.agg #[int u64 (px u),int u64 (py u),.bool (pb u)])] rfl rfl (fun A w ⟨e0,_⟩ hB=>fl_cp0 e0)
    |5,_=>exact G.obv [(17,.pointer (some ⟨BT,0,none⟩))] rfl rfl (fun A w ⟨e0,_⟩ hB=>fa_cpt0 e0)
    |6,_=>exact G.obv [(81,.pointer (some ⟨BT,0,none⟩))] rfl rfl (fun A w ⟨e0,_⟩ hB=>ld_pt e0 (hB.cell t0 nT) (hB.cell t1 nT) (hB.cell t2 nT))
    |7,_=>exact G.obv [(80,.agg #[int u64 (px u),int u64 (py u),.bool (pb u)]),(82,.agg #[int u64 (px s),int u64 (py s),.bool (pb s)])] rfl rfl (fun A w ⟨e0,e1,_⟩ hB=>bu_bld e0 e1)
    |8,_=>exact G.ob_set (fun f=> [(10,.pointer (some ⟨w.heap.size+1,0,none⟩)),(83,.agg #[int u64 (px u),int u64 (py u),.bool (pb u),int u64 (px s),int u64 (py s),.bool (pb s)])]) rfl rfl rfl (by simp) l1 (fun j ob1 ob2 h=>by (rcases j with _|_|_|_|_|_|_|_|_|_|j)<;>simp [G.kindOf] at h⊢ <;>omega) (fun _=>by kernel_rfl) (fun f A w ⟨e0,e1,_⟩ hh hr=>pu_any e0 e1 hr rfl size_bld (by kernel_rfl))
    |9,_=>exact G.obv [] rfl rfl (fun A w _ hB=>doV_assign rfl)
    |ix+10,h=>exact absurd h (by simp)
  intro f W6 hS _ _ _ hset;have s10:Bk W6 32 (w.heap.size+1) #[int u64 (px u),int u64 (py u),.bool (pb u),int u64 (px s),int u64 (py s),.bool (pb s)]:=hset 8 _ _ _ rfl (by decide);have hb6:Bl w W6:=hS.under hb.drew (by intro b h;rw [List.mem_singleton.1 h];omega) hb.size;clear hset hS q0 q1 q2 t0 t1 t2 y0;simp only [puts,List.foldl,Act.put,List.setIfInBounds_toArray,List.set_cons_zero,List.set_cons_succ];go_wp2;exact bodyPost_ret (v:= .tuple #[.agg #[int u64 (px u),int u64 (py u),.bool (pb u),int u64 (px s),int u64 (py s),.bool (pb s)],.nilIface]) (bk_res2 (fn:=Tryz.f36) (p:=10) (u:=11) results36 _ rfl s10 underlying32 rfl sizeBld) rfl ⟨rfl,hb6⟩
end
theorem ansB_ok (v0 v1 v3 v4:Int)(v2 v5:Bool)(w:World):
    Cr 35 #[.agg #[int u64 v0,int u64 v1,.bool v2,int u64 v3,int u64 v4,.bool v5],.nilIface] w (.tuple #[.agg #[int u64 v0,int u64 v1,.bool v2,int u64 v3,int u64 v4,.bool v5],.int .i64 0]):=by
  obtain⟨X,hX⟩:∃X,X=(w.alloc (Obj.cells #[int u64 v0,int u64 v1,.bool v2,int u64 v3,int u64 v4,.bool v5] 32)).alloc (Obj.cells #[int u64 0,int u64 0,.bool false,int u64 0,int u64 0,.bool false] 32):=⟨_,rfl⟩;have r2:Bk X 32 w.heap.size #[int u64 v0,int u64 v1,.bool v2,int u64 v3,int u64 v4,.bool v5]:=by rw [hX];exact(Bk.new _ _ _).alloc _
  have r4:Bk X 32 (w.heap.size+1) #[int u64 0,int u64 0,.bool false,int u64 0,int u64 0,.bool false]:=by rw [hX];exact(Bk.new _ _ _).at (by simp)
  have hb:Bl w X:=by rw [hX];exact((Below.refl _ w).alloc (Nat.le_refl _) _).alloc (by simp) _
  rw [hX] at r2 r4 hb;clear hX;have z0:=r2.cell (k:=0) rfl;have z1:=r2.cell (k:=1) rfl;have z2:=r2.cell (k:=2) rfl;have z3:=r2.cell (k:=3) rfl;have z4:=r2.cell (k:=4) rfl;have z5:=r2.cell (k:=5) rfl;have hth:=r4.there 6 (by decide);go_enter func35,ntmps35;go_wp2_with (refine wpList_store_mid rfl 32 _ _ rfl (w.heap.size+1) 0 #[int u64 v0,int u64 v1,.bool v2,int u64 v3,int u64 v4,.bool v5] rfl rfl hth sizeBld (by kernel_rfl) ?_);exact bodyPost_ret (v:= .tuple #[.agg #[int u64 v0,int u64 v1,.bool v2,int u64 v3,int u64 v4,.bool v5],.int .i64 0]) (bk_res2 (fn:=Tryz.f35) (p:=4) (u:=5) results35 _ rfl (r4.sets _ rfl) underlying32 rfl sizeBld) rfl ⟨rfl,below_setCells hb (by omega) _ _⟩
theorem ansB_err (v0 v1 v3 v4 cd:Int)(v2 v5:Bool)(v:Value)(a0 a1 a2 a3:Addr)(w:World)(hs:Sn w a0 a1 a2 a3)(hv:Er a0 a1 a2 a3 v cd):
    Cr 35 #[.agg #[int u64 v0,int u64 v1,.bool v2,int u64 v3,int u64 v4,.bool v5],v] w (.tuple #[.agg #[int u64 0,int u64 0,.bool false,int u64 0,int u64 0,.bool false],.int .i64 cd]):=by
  obtain⟨⟨T,x,rfl⟩,C⟩:=hv;obtain⟨X,hX⟩:∃X,X=((w.alloc (Obj.cells #[int u64 v0,int u64 v1,.bool v2,int u64 v3,int u64 v4,.bool v5] 32)).alloc (Obj.cells #[int u64 0,int u64 0,.bool false,int u64 0,int u64 0,.bool false] 32)).alloc (Obj.cells #[int u64 0,int u64 0,.bool false,int u64 0,int u64 0,.bool false] 32):=⟨_,rfl⟩;have r4:Bk X 32 (w.heap.size+1) #[int u64 0,int u64 0,.bool false,int u64 0,int u64 0,.bool false]:=by rw [hX];exact((Bk.new _ _ _).at (by simp)).alloc _
  have r6:Bk X 32 (w.heap.size+1+1) #[int u64 0,int u64 0,.bool false,int u64 0,int u64 0,.bool false]:=by rw [hX];exact(Bk.new _ _ _).at (by simp)
  have hb:Bl w X:=by rw [hX];exact(((Below.refl _ w).alloc (Nat.le_refl _) _).alloc (by simp) _).alloc (by simp;omega) _
  go_enter func35,ntmps35;go_wp2;rw [←hX];clear hX;have d0:X.drew.cell? ⟨w.heap.size+1+1,0,none⟩=_:=r6.cell (k:=0) rfl;have d1:X.drew.cell? ⟨w.heap.size+1+1,1,none⟩=_:=r6.cell (k:=1) rfl;have d2:X.drew.cell? ⟨w.heap.size+1+1,2,none⟩=_:=r6.cell (k:=2) rfl;have d3:X.drew.cell? ⟨w.heap.size+1+1,3,none⟩=_:=r6.cell (k:=3) rfl;have d4:X.drew.cell? ⟨w.heap.size+1+1,4,none⟩=_:=r6.cell (k:=4) rfl;have d5:X.drew.cell? ⟨w.heap.size+1+1,5,none⟩=_:=r6.cell (k:=5) rfl;have n0:w.heap.size+1+1∉ [w.heap.size+1]:=fun h=>absurd (List.mem_singleton.1 h) (by omega)
  have l1:w.heap.size+1<X.drew.heap.size:=r4.lt;have C':∀w',G.Sides [w.heap.size+1] X.drew w'→Cr 66 #[.iface T x] w' (.int .i64 cd):=fun w' h=>C w' (hs.keep (h.under hb.drew (by intro b hm;rw [List.mem_singleton.1 hm];omega) hb.size))
  refine G.pool_list (W:=X) [w.heap.size+1] [.val (.agg #[int u64 0,int u64 0,.bool false,int u64 0,int u64 0,.bool false]),
      .val (.iface T x),
      .val (.int .i64 cd),
      .set (w.heap.size+1) (.cells #[int u64 0,int u64 0,.bool false,int u64 0,int u64 0,.bool false] 32) (.cells #[int u64 0,int u64 0,.bool false,int u64 0,int u64 0,.bool false] 32),
      .val (.int .i64 cd)] [[6],[1],[11],[4,10],[12]] (fun f=> [(some 10,.agg #[int u64 0,int u64 0,.bool false,int u64 0,int u64 0,.bool false]),(some 11,.iface T x),(some 12,.int .i64 cd),(none,undef),(some 5,.int .i64 cd)]) (by kernel_rfl) (by kernel_rfl) (by kernel_rfl) (by kernel_rfl) (fun _=>by kernel_rfl) (G.last_of [.cells #[int u64 0,int u64 0,.bool false,int u64 0,int u64 0,.bool false] 32] (fun F R hm=>by simp at hm) (fun ob ob' k hm=>by simp at hm) (fun b ob ob' hm=>by simp at hm;simp [hm])) (fun b ob ob' hm=>by simp at hm;obtain⟨rfl,rfl,-⟩:=hm;exact r4) ?_ ?_
  · intro ix hix
    match ix,hix with
    |0,_=>exact G.obv [(6,.pointer (some ⟨w.heap.size+1+1,0,none⟩))] rfl rfl (fun A w ⟨e0,_⟩ hB=>ld_bld e0 (hB.cell d0 n0) (hB.cell d1 n0) (hB.cell d2 n0) (hB.cell d3 n0) (hB.cell d4 n0) (hB.cell d5 n0))
    |1,_=>exact G.obv [(1,.iface T x)] rfl rfl (fun A w ⟨e0,_⟩ hB=>doV_move e0)
    |2,_=>exact G.obv [(11,.iface T x)] rfl rfl (fun A w ⟨e0,_⟩ hB=>cl1 cf_impl_codeOf e0 (C' w hB))
    |3,_=>exact G.ob_set (fun f=> [(4,.pointer (some ⟨w.heap.size+1,0,none⟩)),(10,.agg #[int u64 0,int u64 0,.bool false,int u64 0,int u64 0,.bool false])]) rfl rfl rfl (by simp) l1 (fun j ob1 ob2 h=>by (rcases j with _|_|_|_|_|j)<;>simp [G.kindOf] at h⊢ <;>omega) (fun _=>by kernel_rfl) (fun f A w ⟨e0,e1,_⟩ hh hr=>pu_any e0 e1 hr rfl size_bld (by kernel_rfl))
    |4,_=>exact G.obv [(12,.int .i64 cd)] rfl rfl (fun A w ⟨e0,_⟩ hB=>doV_assign e0)
    |ix+5,h=>exact absurd h (by simp)
  intro f W3 hS _ _ _ hset;have q1:Bk W3 32 (w.heap.size+1) #[int u64 0,int u64 0,.bool false,int u64 0,int u64 0,.bool false]:=hset 3 _ _ _ rfl (by decide);have hb3:Bl w W3:=hS.under hb.drew (by intro b h;rw [List.mem_singleton.1 h];omega) hb.size;clear hset hS d0 d1 d2 d3 d4 d5;simp only [puts,List.foldl,Act.put,List.setIfInBounds_toArray,List.set_cons_zero,List.set_cons_succ];go_wp2;exact bodyPost_ret (v:= .tuple #[.agg #[int u64 0,int u64 0,.bool false,int u64 0,int u64 0,.bool false],.int .i64 cd]) (bk_res2 (fn:=Tryz.f35) (p:=4) (u:=5) results35 _ rfl q1 underlying32 rfl sizeBld) rfl ⟨rfl,hb3⟩
theorem bliI_of (mode x y k v0 v1 v3 v4 u0 u1 u3 u4 cd:Int)(c v2 v5 u2 u5:Bool)(input info:ByteArray)(v:Value)(w:World)
    (BI:Cb w 36 #[.int .i64 mode,.string input,.string info,.agg #[int u64 x,int u64 y,.bool c],int u64 k] (.tuple #[.agg #[int u64 v0,int u64 v1,.bool v2,int u64 v3,int u64 v4,.bool v5],v]))
    (AN:Cb w 35 #[.agg #[int u64 v0,int u64 v1,.bool v2,int u64 v3,int u64 v4,.bool v5],v] (.tuple #[.agg #[int u64 u0,int u64 u1,.bool u2,int u64 u3,int u64 u4,.bool u5],.int .i64 cd])):
    Cr 11 #[.int .i64 mode,.string input,.string info,.agg #[int u64 x,int u64 y,.bool c],int u64 k] w (.tuple #[.agg #[int u64 u0,int u64 u1,.bool u2,int u64 u3,int u64 u4,.bool u5],.int .i64 cd]):=by
  obtain⟨X,hX⟩:∃X,X=(w.alloc (Obj.cells #[int u64 x,int u64 y,.bool c] 25)).alloc (Obj.cells #[int u64 0,int u64 0,.bool false,int u64 0,int u64 0,.bool false] 32):=⟨_,rfl⟩;have r8:Bk X 25 w.heap.size #[int u64 x,int u64 y,.bool c]:=by rw [hX];exact(Bk.new _ _ _).alloc _
  have r10:Bk X 32 (w.heap.size+1) #[int u64 0,int u64 0,.bool false,int u64 0,int u64 0,.bool false]:=by rw [hX];exact(Bk.new _ _ _).at (by simp)
  have hb:Bl w X:=by rw [hX];exact((Below.refl _ w).alloc (Nat.le_refl _) _).alloc (by simp) _
  rw [hX] at r8 r10 hb;clear hX;have p0:=r8.cell (k:=0) rfl;have p1:=r8.cell (k:=1) rfl;have p2:=r8.cell (k:=2) rfl;go_enter func11,ntmps11;go_wp2_with fail;refine(BI _ hb).mono ?_;rintro e w1 ⟨rfl,b1⟩;replace r10:=r10.keep b1;replace hb:=hb.tr b1;clear BI b1 p0 p1 p2 r8;go_wp2_with fail;refine(AN _ hb).mono ?_;rintro e w2 ⟨rfl,b1⟩;replace r10:=r10.keep b1;replace hb:=hb.tr b1;clear AN b1;have hth:=r10.there 6 (by decide);go_wp2_with (refine wpList_store_mid rfl 32 _ _ rfl (w.heap.size+1) 0 #[int u64 u0,int u64 u1,.bool u2,int u64 u3,int u64 u4,.bool u5] rfl rfl hth sizeBld (by kernel_rfl) ?_);exact bodyPost_ret (v:= .tuple #[.agg #[int u64 u0,int u64 u1,.bool u2,int u64 u3,int u64 u4,.bool u5],.int .i64 cd]) (bk_res2 (fn:=Tryz.f11) (p:=10) (u:=11) results11 _ rfl (r10.sets _ rfl) underlying32 rfl sizeBld) rfl ⟨rfl,below_setCells hb (by omega) _ _⟩
end
end Go.Proofs.YtjmhmajfkdglnabGreatDoor
