import Derived.Test.YtjhbckngdclleaaGreatDoorMrg34
import Derived.Test.YtjhbckngdclleaaGreatDoorMrg21
set_option linter.unusedVariables false
set_option maxRecDepth 100000
set_option maxHeartbeats 16000000
namespace Go.Proofs.YtjhbckngdclleaaGreatDoor
open Go.Proofs.Tryz Go.RowKit
open Go.Value (int)
open Go.IntKind (u64)
section
open M
theorem trV (X1 Y1 Z1 X2 Y2 Z2:Fp)(w:World):
    Calls prog 170 #[.agg #[int u64 (fv X1),int u64 (fv Y1),int u64 (fv Z1)],.agg #[int u64 (fv X2),int u64 (fv Y2),int u64 (fv Z2)]] w
      fun e w'=>e= .returned (.agg #[int u64 (fv (cX X1 Y1 Z1 X2 Y2 Z2)),int u64 (fv (cY X1 Y1 Z1 X2 Y2 Z2)),int u64 (fv (cZ X1 Y1 Z1 X2 Y2 Z2))])∧Bl w w':=by
  have K:=trp_of (fv X1) (fv Y1) (fv Z1) (fv X2) (fv Y2) (fv Z2) _ _ _ _ _ _ _ _ _ _ _ _ _ _ _ _ _ _ _ _ _ _ _ _ _ _ _ _ _ w rd3 rd111 (tmV X1 X2) (tmV Y1 Y2) (tmV Z1 Z2)
    (crV X1 Y1 Z1 X2 Y2 Z2 X1 Y1 X2 Y2 0 1 (by decide) (by decide) rfl rfl rfl rfl)
    (crV X1 Y1 Z1 X2 Y2 Z2 X1 Z1 X2 Z2 0 2 (by decide) (by decide) rfl rfl rfl rfl)
    (crV X1 Y1 Z1 X2 Y2 Z2 Y1 Z1 Y2 Z2 1 2 (by decide) (by decide) rfl rfl rfl rfl)
    (tmV _ _) (mnV _ _) (tmV _ _) (plV _ _) (mnV _ _) (tmV _ _) (mnV _ _) (tmV _ _) (mnV _ _) (tmV _ _) (mnV _ _) (tmV _ _)
    (tmV _ _) (tmV _ _) (mnV _ _) (tmV _ _) (tmV _ _) (plV _ _) (tmV _ _) (tmV _ _) (plV _ _)
  refine K.mono ?_;rintro e w' ⟨rfl,hb⟩;refine⟨?_,hb⟩;have e1:(X1*Y2+Y1*X2)*(Y1*Y2+(X1*Z2+Z1*X2-111*(Z1*Z2))*3)-(Y1*Z2+Z1*Y2)*((111*(X1*Z2+Z1*X2)-X1*X2-Z1*Z2*3)*3)=cX X1 Y1 Z1 X2 Y2 Z2:=by unfold cX;grobner
  have e2:(X1*X2-Z1*Z2)*3*((111*(X1*Z2+Z1*X2)-X1*X2-Z1*Z2*3)*3)+(Y1*Y2+(X1*Z2+Z1*X2-111*(Z1*Z2))*3)*(Y1*Y2-(X1*Z2+Z1*X2-111*(Z1*Z2))*3)=cY X1 Y1 Z1 X2 Y2 Z2:=by unfold cY;grobner
  have e3:(Y1*Z2+Z1*Y2)*(Y1*Y2-(X1*Z2+Z1*X2-111*(Z1*Z2))*3)+(X1*Y2+Y1*X2)*((X1*X2-Z1*Z2)*3)=cZ X1 Y1 Z1 X2 Y2 Z2:=by unfold cZ;grobner
  rw [e1,e2,e3]
theorem zpP (w:World):Cr 114 #[] w (.agg #[int u64 0,int u64 0,.bool true]):=by
  go_enter func114,ntmps114;go_wp2;refine bodyPost_ret (v:= .agg #[int u64 0,int u64 0,.bool true]) (by simp [results,results114,go_sem]) rfl ⟨rfl,?_⟩;exact(Below.refl _ w).alloc (Nat.le_refl _) _
section
variable {ev:Operand→Value}{w:World}{dst:Option Tmp}{ty:TypeId}{ps:String}{af:Array Edge}{gd:Option (Nat×Bool)}{x y:Operand}{b i:Nat}
theorem exec_f60 (hx:ev x= .pointer (some ⟨b,0,none⟩)):
    (execOp ev (Opr dst (.fieldAddr 101 x 0) ty ps af gd)).run prog w= .ok (.value (.pointer (some ⟨b,0,none⟩))) w:=by
  simp [execOp,hx,go_sem]
theorem exec_f25a (hx:ev x= .pointer (some ⟨b,0,none⟩)):
    (execOp ev (Opr dst (.fieldAddr 27 x 0) ty ps af gd)).run prog w= .ok (.value (.pointer (some ⟨b,0,none⟩))) w:=by
  simp [execOp,hx,go_sem]
theorem exec_f25b (hx:ev x= .pointer (some ⟨b,0,none⟩)):
    (execOp ev (Opr dst (.fieldAddr 27 x 1) ty ps af gd)).run prog w= .ok (.value (.pointer (some ⟨b,1,none⟩))) w:=by
  simp [execOp,hx,go_sem]
theorem exec_loadU {z:Int}(hx:ev x= .pointer (some ⟨b,i,none⟩))(hc:w.cell? ⟨b,i,none⟩=some (int u64 z)):
    (execOp ev (Opr dst (.load 22 x) ty ps af gd)).run prog w= .ok (.value (int u64 z)) w:=by
  simp [execOp,hx,hc,go_sem]
theorem exec_storeK {X Y X0 Y0:Int}{c c0:Bool}(hx:ev x= .pointer (some ⟨b,0,none⟩))(hy:ev y= .agg #[int u64 X,int u64 Y,.bool c])(hr:K3 w 101 b X0 Y0 c0):
    (execOp ev (Opr dst (.store 101 x y) ty ps af gd)).run prog w= .ok .skip (set3 w b X Y c):=by
  have h1:=hr.c0;have h2:=hr.c1;have h3:=hr.c2;have h4:=hr.frz;simp [execOp,hx,hy,h1,h2,h3,h4,go_sem,set3]
theorem exec_fld {z:Int}(hx:ev x= .agg #[int u64 z]):
    (execOp ev (Opr dst (.field 167 x 1) ty ps af gd)).run prog w= .ok (.value (int u64 z)) w:=by
  simp [execOp,hx,fldP,go_sem]
theorem exec_b25 {X Y:Int}(hx:ev x=int u64 X)(hy:ev y=int u64 Y):
    (execOp ev (Opr dst (.build 27 #[(0,x),(1,y)]) ty ps af gd)).run prog w= .ok (.value (.agg #[int u64 X,int u64 Y,.bool false])) w:=by
  simp [execOp,hx,hy,go_sem]
theorem exec_b60 {X Y:Int}{c:Bool}(hx:ev x= .agg #[int u64 X,int u64 Y,.bool c]):
    (execOp ev (Opr dst (.build 101 #[(0,x)]) ty ps af gd)).run prog w= .ok (.value (.agg #[int u64 X,int u64 Y,.bool c])) w:=by
  simp [execOp,hx,go_sem]
end
section
variable {A:Act}{w W0:World}{dst:Option Tmp}{ty:TypeId}{ps:String}{af:Array Edge}{gd:Option (Nat×Bool)}{x y:Operand}{b i:Nat}
theorem do_f60 (hx:A.eval x= .pointer (some ⟨b,0,none⟩)):
    Does prog (Opr dst (.fieldAddr 101 x 0) ty ps af gd) A w fun v' w'=>v'= .pointer (some ⟨b,0,none⟩)∧Bl w w':=by
  have h:=exec_f60 (ev:=A.eval) (w:=w) (dst:=dst) (ty:=ty) (ps:=ps) (af:=af) (gd:=gd) hx;exact does_value h ⟨rfl,Below.refl _ _⟩
theorem do_f25a (hx:A.eval x= .pointer (some ⟨b,0,none⟩)):
    Does prog (Opr dst (.fieldAddr 27 x 0) ty ps af gd) A w fun v' w'=>v'= .pointer (some ⟨b,0,none⟩)∧Bl w w':=by
  have h:=exec_f25a (ev:=A.eval) (w:=w) (dst:=dst) (ty:=ty) (ps:=ps) (af:=af) (gd:=gd) hx;exact does_value h ⟨rfl,Below.refl _ _⟩
theorem do_f25b (hx:A.eval x= .pointer (some ⟨b,0,none⟩)):
    Does prog (Opr dst (.fieldAddr 27 x 1) ty ps af gd) A w fun v' w'=>v'= .pointer (some ⟨b,1,none⟩)∧Bl w w':=by
  have h:=exec_f25b (ev:=A.eval) (w:=w) (dst:=dst) (ty:=ty) (ps:=ps) (af:=af) (gd:=gd) hx;exact does_value h ⟨rfl,Below.refl _ _⟩
theorem do_loadU {z:Int}(hx:A.eval x= .pointer (some ⟨b,i,none⟩))(hc:W0.cell? ⟨b,i,none⟩=some (int u64 z))(hB:Bl W0 w):
    Does prog (Opr dst (.load 22 x) ty ps af gd) A w fun v' w'=>v'=int u64 z∧Bl w w':=by
  have h:=exec_loadU (ev:=A.eval) (w:=w) (dst:=dst) (ty:=ty) (ps:=ps) (af:=af) (gd:=gd) hx (keepC hc hB);exact does_value h ⟨rfl,Below.refl _ _⟩
theorem do_fld {z:Int}(hx:A.eval x= .agg #[int u64 z]):
    Does prog (Opr dst (.field 167 x 1) ty ps af gd) A w fun v' w'=>v'=int u64 z∧Bl w w':=by
  have h:=exec_fld (ev:=A.eval) (w:=w) (dst:=dst) (ty:=ty) (ps:=ps) (af:=af) (gd:=gd) hx;exact does_value h ⟨rfl,Below.refl _ _⟩
theorem do_b25 {X Y:Int}(hx:A.eval x=int u64 X)(hy:A.eval y=int u64 Y):
    Does prog (Opr dst (.build 27 #[(0,x),(1,y)]) ty ps af gd) A w fun v' w'=>v'= .agg #[int u64 X,int u64 Y,.bool false]∧Bl w w':=by
  have h:=exec_b25 (ev:=A.eval) (w:=w) (dst:=dst) (ty:=ty) (ps:=ps) (af:=af) (gd:=gd) hx hy;exact does_value h ⟨rfl,Below.refl _ _⟩
theorem do_b60 {X Y:Int}{c:Bool}(hx:A.eval x= .agg #[int u64 X,int u64 Y,.bool c]):
    Does prog (Opr dst (.build 101 #[(0,x)]) ty ps af gd) A w fun v' w'=>v'= .agg #[int u64 X,int u64 Y,.bool c]∧Bl w w':=by
  have h:=exec_b60 (ev:=A.eval) (w:=w) (dst:=dst) (ty:=ty) (ps:=ps) (af:=af) (gd:=gd) hx;exact does_value h ⟨rfl,Below.refl _ _⟩
end
theorem triP_some (x y:Fp)(w:World):
    Cr 118 #[.agg #[int u64 (fv x),int u64 (fv y),.bool false]] w (.agg #[int u64 (fv x),int u64 (fv y),int u64 (fv 1)]):=by
  obtain⟨X,hX⟩:∃X,X=((w.alloc (Obj.cells #[int u64 (fv x),int u64 (fv y),.bool false] 101)).alloc (Obj.cells #[int u64 0,int u64 0,int u64 0] 172)).alloc (Obj.cells #[] 165):=⟨_,rfl⟩;have hp:K3 X 101 w.heap.size (fv x) (fv y) false:=by rw [hX];exact((K3.new w _ _ _ _).alloc _).alloc _
  have hr:T3 X (w.heap.size+1) 0 0 0:=by rw [hX];exact((T3.new _ 0 0 0).at (by simp)).alloc _
  have hb:Bl w X:=by rw [hX];exact(((Below.refl _ w).alloc (Nat.le_refl _) _).alloc (by simp) _).alloc (by simp;omega) _
  rw [hX] at hp hr hb;clear hX;have c0:=hp.drew.c0;have c1:=hp.drew.c1;have c2:=hp.drew.c2;go_enter func118,ntmps118;go_wp2
  go_region_held3 (fun w'=>w'.cell? ⟨w.heap.size,0,none⟩=some (int u64 (fv x))∧w'.cell? ⟨w.heap.size,1,none⟩=some (int u64 (fv y))∧w'.cell? ⟨w.heap.size,2,none⟩=some (.bool false)) (first|exact ⟨c0,c1,c2⟩|exact ⟨keepC c0 b1,keepC c1 b1,keepC c2 b1⟩|go_keep) ((go_at_call 114;refine(zpP _).mono ?_;rintro e w1 ⟨rfl,b1⟩))
  replace hp:=(hp.drew).keep b1;replace hr:=(hr.drew).keep b1;replace hb:=keepB hb.drew hb.size b1;clear b1 c0 c1 c2;go_wp2
  refine pool_tail [.val (.pointer (some ⟨w.heap.size,0,none⟩)),
    .val (.pointer (some ⟨w.heap.size,0,none⟩)),
    .val (int u64 (fv x)),
    .val (.agg #[]),
    .val (.agg #[int u64 (fv x)]),
    .val (.pointer (some ⟨w.heap.size,0,none⟩)),
    .val (.pointer (some ⟨w.heap.size,1,none⟩)),
    .val (int u64 (fv y)),
    .val (.agg #[]),
    .val (.agg #[int u64 (fv y)]),
    .val (.agg #[]),
    .val (.agg #[int u64 (fv 1)]),
    .val (.agg #[int u64 (fv x),int u64 (fv y),int u64 (fv 1)]),
    .val undef] [[1],[15],[16],[3],[17,18],[1],[20],[21],[3],[22,23],[3],[25],[19,24,26],[2,27]] (fun f=> [(some 15,.pointer (some ⟨w.heap.size,0,none⟩)),(some 16,.pointer (some ⟨w.heap.size,0,none⟩)),(some 17,int u64 (fv x)),(some 18,.agg #[]),(some 19,.agg #[int u64 (fv x)]),(some 20,.pointer (some ⟨w.heap.size,0,none⟩)),(some 21,.pointer (some ⟨w.heap.size,1,none⟩)),(some 22,int u64 (fv y)),(some 23,.agg #[]),(some 24,.agg #[int u64 (fv y)]),(some 25,.agg #[]),(some 26,.agg #[int u64 (fv 1)]),(some 27,.agg #[int u64 (fv x),int u64 (fv y),int u64 (fv 1)])]) (fun f=> [(2,.pointer (some ⟨w.heap.size+1,0,none⟩)),(27,.agg #[int u64 (fv x),int u64 (fv y),int u64 (fv 1)])]) (by kernel_rfl) (by kernel_rfl) (by kernel_rfl) (by kernel_rfl) (by kernel_rfl) (fun _=>by kernel_rfl) ?_ rfl (fun _=>by kernel_rfl) ?_
  · intro ix hix
    match ix,hix with
    |0,_=>exact obv [(1,.pointer (some ⟨w.heap.size,0,none⟩))] rfl rfl (fun A w ⟨e0,_⟩ hB=>do_f60 e0)
    |1,_=>exact obv [(15,.pointer (some ⟨w.heap.size,0,none⟩))] rfl rfl (fun A w ⟨e0,_⟩ hB=>do_f25a e0)
    |2,_=>exact obv [(16,.pointer (some ⟨w.heap.size,0,none⟩))] rfl rfl (fun A w ⟨e0,_⟩ hB=>do_loadU e0 (hp.drew).c0 hB)
    |3,_=>exact obv [(3,.pointer (some ⟨w.heap.size+1+1,0,none⟩))] rfl rfl (fun A w ⟨e0,_⟩ hB=>do_load0 e0)
    |4,_=>exact obv [(17,int u64 (fv x)),(18,.agg #[])] rfl rfl (fun A w ⟨e0,e1,_⟩ hB=>do_call2 cf_reduced e0 e1 (rdV x w))
    |5,_=>exact obv [(1,.pointer (some ⟨w.heap.size,0,none⟩))] rfl rfl (fun A w ⟨e0,_⟩ hB=>do_f60 e0)
    |6,_=>exact obv [(20,.pointer (some ⟨w.heap.size,0,none⟩))] rfl rfl (fun A w ⟨e0,_⟩ hB=>do_f25b e0)
    |7,_=>exact obv [(21,.pointer (some ⟨w.heap.size,1,none⟩))] rfl rfl (fun A w ⟨e0,_⟩ hB=>do_loadU e0 (hp.drew).c1 hB)
    |8,_=>exact obv [(3,.pointer (some ⟨w.heap.size+1+1,0,none⟩))] rfl rfl (fun A w ⟨e0,_⟩ hB=>do_load0 e0)
    |9,_=>exact obv [(22,int u64 (fv y)),(23,.agg #[])] rfl rfl (fun A w ⟨e0,e1,_⟩ hB=>do_call2 cf_reduced e0 e1 (rdV y w))
    |10,_=>exact obv [(3,.pointer (some ⟨w.heap.size+1+1,0,none⟩))] rfl rfl (fun A w ⟨e0,_⟩ hB=>do_load0 e0)
    |11,_=>exact obv [(25,.agg #[])] rfl rfl (fun A w ⟨e0,_⟩ hB=>do_call2 cf_reduced rfl e0 (rd1 w))
    |12,_=>exact obv [(19,.agg #[int u64 (fv x)]),(24,.agg #[int u64 (fv y)]),(26,.agg #[int u64 (fv 1)])] rfl rfl (fun A w ⟨e0,e1,e2,_⟩ hB=>do_build e0 e1 e2)
    |ix+13,h=>exact absurd h (by simp)
  rintro f A w9 ⟨e0,e1,_⟩ hB _;replace hr:=(hr.drew).keep hB;replace hb:=keepB hb.drew hb.size hB;refine does_skip (exec_storeT e0 e1 hr) ?_;simp only [puts,List.foldl,Act.put,List.setIfInBounds_toArray,List.set_cons_zero,List.set_cons_succ];go_wp2;exact bodyPost_ret (v:= .agg #[int u64 (fv x),int u64 (fv y),int u64 (fv 1)]) (trip_res (fn:=Tryz.f118) (p:=2) results118 _ rfl (hr.set _ _ _)) rfl ⟨rfl,setT_below hb (by omega)⟩
theorem triP_none (w:World):
    Cr 118 #[.agg #[int u64 0,int u64 0,.bool true]] w (.agg #[int u64 (fv 0),int u64 (fv 1),int u64 (fv 0)]):=by
  obtain⟨X,hX⟩:∃X,X=((w.alloc (Obj.cells #[int u64 0,int u64 0,.bool true] 101)).alloc (Obj.cells #[int u64 0,int u64 0,int u64 0] 172)).alloc (Obj.cells #[] 165):=⟨_,rfl⟩;have hp:K3 X 101 w.heap.size 0 0 true:=by rw [hX];exact((K3.new w _ _ _ _).alloc _).alloc _
  have hr:T3 X (w.heap.size+1) 0 0 0:=by rw [hX];exact((T3.new _ 0 0 0).at (by simp)).alloc _
  have hb:Bl w X:=by rw [hX];exact(((Below.refl _ w).alloc (Nat.le_refl _) _).alloc (by simp) _).alloc (by simp;omega) _
  rw [hX] at hp hr hb;clear hX;have c0:=hp.drew.c0;have c1:=hp.drew.c1;have c2:=hp.drew.c2;go_enter func118,ntmps118;go_wp2
  go_region_held3 (fun w'=>w'.cell? ⟨w.heap.size,0,none⟩=some (int u64 0)∧w'.cell? ⟨w.heap.size,1,none⟩=some (int u64 0)∧w'.cell? ⟨w.heap.size,2,none⟩=some (.bool true)) (first|exact ⟨c0,c1,c2⟩|exact ⟨keepC c0 b1,keepC c1 b1,keepC c2 b1⟩|go_keep) ((go_at_call 114;refine(zpP _).mono ?_;rintro e w1 ⟨rfl,b1⟩))
  replace hp:=(hp.drew).keep b1;replace hr:=(hr.drew).keep b1;replace hb:=keepB hb.drew hb.size b1;clear b1 c0 c1 c2;go_wp2
  refine pool_tail [.val (.agg #[]),
    .val (.agg #[int u64 (fv 0)]),
    .val (.agg #[]),
    .val (.agg #[int u64 (fv 1)]),
    .val (.agg #[]),
    .val (.agg #[int u64 (fv 0)]),
    .val (.agg #[int u64 (fv 0),int u64 (fv 1),int u64 (fv 0)]),
    .val undef] [[3],[8],[3],[10],[3],[12],[9,11,13],[2,14]] (fun f=> [(some 8,.agg #[]),(some 9,.agg #[int u64 (fv 0)]),(some 10,.agg #[]),(some 11,.agg #[int u64 (fv 1)]),(some 12,.agg #[]),(some 13,.agg #[int u64 (fv 0)]),(some 14,.agg #[int u64 (fv 0),int u64 (fv 1),int u64 (fv 0)])]) (fun f=> [(2,.pointer (some ⟨w.heap.size+1,0,none⟩)),(14,.agg #[int u64 (fv 0),int u64 (fv 1),int u64 (fv 0)])]) (by kernel_rfl) (by kernel_rfl) (by kernel_rfl) (by kernel_rfl) (by kernel_rfl) (fun _=>by kernel_rfl) ?_ rfl (fun _=>by kernel_rfl) ?_
  · intro ix hix
    match ix,hix with
    |0,_=>exact obv [(3,.pointer (some ⟨w.heap.size+1+1,0,none⟩))] rfl rfl (fun A w ⟨e0,_⟩ hB=>do_load0 e0)
    |1,_=>exact obv [(8,.agg #[])] rfl rfl (fun A w ⟨e0,_⟩ hB=>do_call2 cf_reduced rfl e0 (rd0 w))
    |2,_=>exact obv [(3,.pointer (some ⟨w.heap.size+1+1,0,none⟩))] rfl rfl (fun A w ⟨e0,_⟩ hB=>do_load0 e0)
    |3,_=>exact obv [(10,.agg #[])] rfl rfl (fun A w ⟨e0,_⟩ hB=>do_call2 cf_reduced rfl e0 (rd1 w))
    |4,_=>exact obv [(3,.pointer (some ⟨w.heap.size+1+1,0,none⟩))] rfl rfl (fun A w ⟨e0,_⟩ hB=>do_load0 e0)
    |5,_=>exact obv [(12,.agg #[])] rfl rfl (fun A w ⟨e0,_⟩ hB=>do_call2 cf_reduced rfl e0 (rd0 w))
    |6,_=>exact obv [(9,.agg #[int u64 (fv 0)]),(11,.agg #[int u64 (fv 1)]),(13,.agg #[int u64 (fv 0)])] rfl rfl (fun A w ⟨e0,e1,e2,_⟩ hB=>do_build e0 e1 e2)
    |ix+7,h=>exact absurd h (by simp)
  rintro f A w9 ⟨e0,e1,_⟩ hB _;replace hr:=(hr.drew).keep hB;replace hb:=keepB hb.drew hb.size hB;refine does_skip (exec_storeT e0 e1 hr) ?_;simp only [puts,List.foldl,Act.put,List.setIfInBounds_toArray,List.set_cons_zero,List.set_cons_succ];go_wp2;exact bodyPost_ret (v:= .agg #[int u64 (fv 0),int u64 (fv 1),int u64 (fv 0)]) (trip_res (fn:=Tryz.f118) (p:=2) results118 _ rfl (hr.set _ _ _)) rfl ⟨rfl,setT_below hb (by omega)⟩
theorem triV:∀(p:Pt) (w:World),Cr 118 #[ptW p] w (.agg #[int u64 (fv (pX p)),int u64 (fv (pY p)),int u64 (fv (pZ p))])
  |none,w=>triP_none w
  |some (x,y),w=>triP_some x y w
theorem pntP_no (X Y Z:Fp)(w:World)(hz:(fv Z==0)=true):
    Cr 120 #[.agg #[int u64 (fv X),int u64 (fv Y),int u64 (fv Z)]] w (.agg #[int u64 0,int u64 0,.bool true]):=by
  obtain⟨X0,hX⟩:∃X0,X0=((w.alloc (Obj.cells #[int u64 (fv X),int u64 (fv Y),int u64 (fv Z)] 172)).alloc (Obj.cells #[int u64 0,int u64 0,.bool false] 101)).alloc (Obj.cells #[int u64 (fv Z)] 167):=⟨_,rfl⟩;have ht:T3 X0 w.heap.size (fv X) (fv Y) (fv Z):=by rw [hX];exact((T3.new w _ _ _).alloc _).alloc _
  have hr:K3 X0 101 (w.heap.size+1) 0 0 false:=by rw [hX];exact((K3.new _ _ 0 0 false).at (by simp)).alloc _
  have hb:Bl w X0:=by rw [hX];exact(((Below.refl _ w).alloc (Nat.le_refl _) _).alloc (by simp) _).alloc (by simp;omega) _
  rw [hX] at ht hr hb;clear hX;go_enter func120,ntmps120;go_wp2_with fail;refine(zpP _).mono ?_;rintro e w2 ⟨rfl,b2⟩;replace hr:=hr.keep b2;replace hb:=keepB hb hb.size b2;have c0:=hr.c0;have c1:=hr.c1;have c2:=hr.c2;have f0:=hr.frz 0;have f1:=hr.frz 1;have f2:=hr.frz 2;clear b2;go_wp2;exact bodyPost_ret (v:= .agg #[int u64 0,int u64 0,.bool true]) (cp_res (fn:=Tryz.f120) (p:=2) results120 _ rfl (hr.set 0 0 true)) rfl ⟨rfl,set3_below hb (by omega)⟩
theorem pntP_yes (X Y Z:Fp)(w:World)(hz:(fv Z==0)=false):
    Cr 120 #[.agg #[int u64 (fv X),int u64 (fv Y),int u64 (fv Z)]] w (.agg #[int u64 (fv (X*fi Z)),int u64 (fv (Y*fi Z)),.bool false]):=by
  obtain⟨X0,hX⟩:∃X0,X0=((w.alloc (Obj.cells #[int u64 (fv X),int u64 (fv Y),int u64 (fv Z)] 172)).alloc (Obj.cells #[int u64 0,int u64 0,.bool false] 101)).alloc (Obj.cells #[int u64 (fv Z)] 167):=⟨_,rfl⟩;have ht:T3 X0 w.heap.size (fv X) (fv Y) (fv Z):=by rw [hX];exact((T3.new w _ _ _).alloc _).alloc _
  have hr:K3 X0 101 (w.heap.size+1) 0 0 false:=by rw [hX];exact((K3.new _ _ 0 0 false).at (by simp)).alloc _
  have hb:Bl w X0:=by rw [hX];exact(((Below.refl _ w).alloc (Nat.le_refl _) _).alloc (by simp) _).alloc (by simp;omega) _
  rw [hX] at ht hr hb;clear hX;go_enter func120,ntmps120;go_wp2_with fail;refine(ivV Z _).mono ?_;rintro e w2 ⟨rfl,b2⟩;replace ht:=(ht.keep b2).alloc (Obj.cells #[int u64 (fv (fi Z))] 167);replace hr:=(hr.keep b2).alloc (Obj.cells #[int u64 (fv (fi Z))] 167);replace hb:=keepB hb hb.size b2;have hi:=R1.new w2 (fv (fi Z));replace hb:=hb.alloc hb.size (Obj.cells #[int u64 (fv (fi Z))] 167);clear b2;go_wp2
  refine pool_tail [.val (.pointer (some ⟨w.heap.size,0,none⟩)),
    .val (.agg #[int u64 (fv X)]),
    .val (.agg #[int u64 (fv (fi Z))]),
    .val (.agg #[int u64 (fv (X*fi Z))]),
    .val (int u64 (fv (X*fi Z))),
    .val (.pointer (some ⟨w.heap.size,1,none⟩)),
    .val (.agg #[int u64 (fv Y)]),
    .val (.agg #[int u64 (fv (fi Z))]),
    .val (.agg #[int u64 (fv (Y*fi Z))]),
    .val (int u64 (fv (Y*fi Z))),
    .val (.agg #[int u64 (fv (X*fi Z)),int u64 (fv (Y*fi Z)),.bool false]),
    .val (.agg #[int u64 (fv (X*fi Z)),int u64 (fv (Y*fi Z)),.bool false]),
    .val undef] [[1],[13],[4],[14,15],[16],[1],[18],[4],[19,20],[21],[17,22],[23],[2,24]] (fun f=> [(some 13,.pointer (some ⟨w.heap.size,0,none⟩)),(some 14,.agg #[int u64 (fv X)]),(some 15,.agg #[int u64 (fv (fi Z))]),(some 16,.agg #[int u64 (fv (X*fi Z))]),(some 17,int u64 (fv (X*fi Z))),(some 18,.pointer (some ⟨w.heap.size,1,none⟩)),(some 19,.agg #[int u64 (fv Y)]),(some 20,.agg #[int u64 (fv (fi Z))]),(some 21,.agg #[int u64 (fv (Y*fi Z))]),(some 22,int u64 (fv (Y*fi Z))),(some 23,.agg #[int u64 (fv (X*fi Z)),int u64 (fv (Y*fi Z)),.bool false]),(some 24,.agg #[int u64 (fv (X*fi Z)),int u64 (fv (Y*fi Z)),.bool false])]) (fun f=> [(2,.pointer (some ⟨w.heap.size+1,0,none⟩)),(24,.agg #[int u64 (fv (X*fi Z)),int u64 (fv (Y*fi Z)),.bool false])]) (by kernel_rfl) (by kernel_rfl) (by kernel_rfl) (by kernel_rfl) (by kernel_rfl) (fun _=>by kernel_rfl) ?_ rfl (fun _=>by kernel_rfl) ?_
  · intro ix hix
    match ix,hix with
    |0,_=>exact obv [(1,.pointer (some ⟨w.heap.size,0,none⟩))] rfl rfl (fun A w ⟨e0,_⟩ hB=>do_idx (k:=0) (by decide) e0)
    |1,_=>exact obv [(13,.pointer (some ⟨w.heap.size,0,none⟩))] rfl rfl (fun A w ⟨e0,_⟩ hB=>do_loadC e0 (ht.drew).c0 hB)
    |2,_=>exact obv [(4,.pointer (some ⟨w2.heap.size,0,none⟩))] rfl rfl (fun A w ⟨e0,_⟩ hB=>do_loadN e0 hi.drew hB)
    |3,_=>exact obv [(14,.agg #[int u64 (fv X)]),(15,.agg #[int u64 (fv (fi Z))])] rfl rfl (fun A w ⟨e0,e1,_⟩ hB=>do_call2 cf_times e0 e1 (tmV X (fi Z) w))
    |4,_=>exact obv [(16,.agg #[int u64 (fv (X*fi Z))])] rfl rfl (fun A w ⟨e0,_⟩ hB=>do_fld e0)
    |5,_=>exact obv [(1,.pointer (some ⟨w.heap.size,0,none⟩))] rfl rfl (fun A w ⟨e0,_⟩ hB=>do_idx (k:=1) (by decide) e0)
    |6,_=>exact obv [(18,.pointer (some ⟨w.heap.size,1,none⟩))] rfl rfl (fun A w ⟨e0,_⟩ hB=>do_loadC e0 (ht.drew).c1 hB)
    |7,_=>exact obv [(4,.pointer (some ⟨w2.heap.size,0,none⟩))] rfl rfl (fun A w ⟨e0,_⟩ hB=>do_loadN e0 hi.drew hB)
    |8,_=>exact obv [(19,.agg #[int u64 (fv Y)]),(20,.agg #[int u64 (fv (fi Z))])] rfl rfl (fun A w ⟨e0,e1,_⟩ hB=>do_call2 cf_times e0 e1 (tmV Y (fi Z) w))
    |9,_=>exact obv [(21,.agg #[int u64 (fv (Y*fi Z))])] rfl rfl (fun A w ⟨e0,_⟩ hB=>do_fld e0)
    |10,_=>exact obv [(17,int u64 (fv (X*fi Z))),(22,int u64 (fv (Y*fi Z)))] rfl rfl (fun A w ⟨e0,e1,_⟩ hB=>do_b25 e0 e1)
    |11,_=>exact obv [(23,.agg #[int u64 (fv (X*fi Z)),int u64 (fv (Y*fi Z)),.bool false])] rfl rfl (fun A w ⟨e0,_⟩ hB=>do_b60 e0)
    |ix+12,h=>exact absurd h (by simp)
  rintro f A w9 ⟨e0,e1,_⟩ hB _;replace hr:=(hr.drew).keep hB;replace hb:=keepB hb.drew hb.size hB;refine does_skip (exec_storeK e0 e1 hr) ?_;simp only [puts,List.foldl,Act.put,List.setIfInBounds_toArray,List.set_cons_zero,List.set_cons_succ];go_wp2;exact bodyPost_ret (v:= .agg #[int u64 (fv (X*fi Z)),int u64 (fv (Y*fi Z)),.bool false]) (cp_res (fn:=Tryz.f120) (p:=2) results120 _ rfl (hr.set _ _ _)) rfl ⟨rfl,set3_below hb (by omega)⟩
theorem cp_ct {W:World}{b:Nat}{x y:Int}{c:Bool}{fn:Func}{p u:Tmp}(h:fn.results=#[.cell p 101,.tmp u])(tmps:Array Value)
    (hp:tmps.getD p undef= .pointer (some ⟨b,0,none⟩))(hc:K3 W 101 b x y c):
    (results fn tmps).run prog W= .ok (.tuple #[.agg #[int u64 x,int u64 y,.bool c],tmps.getD u undef]) W:=by
  have hp':tmps[p]?.getD undef= .pointer (some ⟨b,0,none⟩):=by simpa using hp
  simp [results,h,hp',asAddr,run_loadVar_mid W b 0 101 [int u64 x,int u64 y,.bool c] _ hc.range underlying101 rfl (by kernel_rfl)]
theorem fndP_zero (w:World):
    Cr 60 #[.agg #[int u64 0,int u64 0,.bool true]] w (.tuple #[.agg #[int u64 0,int u64 0,.bool true],.bool true]):=by
  obtain⟨X,hX⟩:∃X,X=((w.alloc (Obj.cells #[int u64 0,int u64 0,.bool true] 27)).alloc (Obj.cells #[int u64 0,int u64 0,.bool false] 101)).alloc (Obj.cells #[int u64 0,int u64 0,.bool true] 101):=⟨_,rfl⟩;have hf:K3 X 101 (w.heap.size+1+1) 0 0 true:=by rw [hX];exact(K3.new _ _ _ _ _).at (by simp)
  have hr:K3 X 101 (w.heap.size+1) 0 0 false:=by rw [hX];exact((K3.new _ _ 0 0 false).at (by simp)).alloc _
  have hb:Bl w X:=by rw [hX];exact(((Below.refl _ w).alloc (Nat.le_refl _) _).alloc (by simp) _).alloc (by simp;omega) _
  rw [hX] at hf hr hb;clear hX;have c0:=hf.drew.c0;have c1:=hf.drew.c1;have c2:=hf.drew.c2;go_enter func60,ntmps60;go_wp2
  go_region_held3 (fun w'=>w'.cell? ⟨w.heap.size+1+1,0,none⟩=some (int u64 0)∧w'.cell? ⟨w.heap.size+1+1,1,none⟩=some (int u64 0)∧w'.cell? ⟨w.heap.size+1+1,2,none⟩=some (.bool true)) (first|exact ⟨c0,c1,c2⟩|exact ⟨keepC c0 b1,keepC c1 b1,keepC c2 b1⟩|go_keep) ((go_at_call 114;refine(zpP _).mono ?_;rintro e w1 ⟨rfl,b1⟩))
  replace hf:=(hf.drew).keep b1;replace hr:=(hr.drew).keep b1;replace hb:=keepB hb.drew hb.size b1;clear b1 c0 c1 c2;have c0:=hf.c0;have c1:=hf.c1;have c2:=hf.c2;have d0:=hr.c0;have d1:=hr.c1;have d2:=hr.c2;have f0:=hr.frz 0;have f1:=hr.frz 1;have f2:=hr.frz 2;go_wp2;exact bodyPost_ret (v:= .tuple #[.agg #[int u64 0,int u64 0,.bool true],.bool true]) (cp_ct (fn:=Tryz.f60) (p:=2) (u:=3) results60 _ rfl (hr.set _ _ _)) rfl ⟨rfl,set3_below hb (by omega)⟩
theorem fndP_inf1 (x y z1 z2:Int)(b1 b2:Bool)(w:World)(hx:(x==0)=false)
    (E1:Cc 115 #[int u64 x,.agg #[]] (.tuple #[.agg #[int u64 z1],.bool b1]))
    (E2:Cc 115 #[int u64 y,.agg #[]] (.tuple #[.agg #[int u64 z2],.bool b2])):
    Cr 60 #[.agg #[int u64 x,int u64 y,.bool true]] w (.tuple #[.agg #[int u64 0,int u64 0,.bool true],.bool false]):=by
  obtain⟨X,hX⟩:∃X,X=((w.alloc (Obj.cells #[int u64 x,int u64 y,.bool true] 27)).alloc (Obj.cells #[int u64 0,int u64 0,.bool false] 101)).alloc (Obj.cells #[int u64 x,int u64 y,.bool true] 101):=⟨_,rfl⟩;have hp:K3 X 27 w.heap.size x y true:=by rw [hX];exact((K3.new w _ _ _ _).alloc _).alloc _
  have hf:K3 X 101 (w.heap.size+1+1) x y true:=by rw [hX];exact(K3.new _ _ _ _ _).at (by simp)
  have hr:K3 X 101 (w.heap.size+1) 0 0 false:=by rw [hX];exact((K3.new _ _ 0 0 false).at (by simp)).alloc _
  have hb:Bl w X:=by rw [hX];exact(((Below.refl _ w).alloc (Nat.le_refl _) _).alloc (by simp) _).alloc (by simp;omega) _
  rw [hX] at hp hf hr hb;clear hX;have c0:=hf.drew.c0;have c1:=hf.drew.c1;have c2:=hf.drew.c2;go_enter func60,ntmps60;go_wp2
  go_region_held3 (fun w'=>w'.cell? ⟨w.heap.size+1+1,0,none⟩=some (int u64 x)∧w'.cell? ⟨w.heap.size+1+1,1,none⟩=some (int u64 y)∧w'.cell? ⟨w.heap.size+1+1,2,none⟩=some (.bool true)) (first|exact ⟨c0,c1,c2⟩|exact ⟨keepC c0 b3,keepC c1 b3,keepC c2 b3⟩|go_keep) ((go_at_call 114;refine(zpP _).mono ?_;rintro e w1 ⟨rfl,b3⟩))
  replace hp:=(hp.drew).keep b3;replace hr:=(hr.drew).keep b3;replace hb:=keepB hb.drew hb.size b3;clear b3 c0 c1 c2 hf;have c0:=hp.c0;go_wp2_with fail;refine(E1 _).mono ?_;rintro e w2 ⟨rfl,b4⟩;replace hp:=(hp.keep b4).alloc (Obj.cells #[int u64 z1] 167);replace hr:=(hr.keep b4).alloc (Obj.cells #[int u64 z1] 167);replace hb:=keepB hb hb.size b4;replace hb:=hb.alloc hb.size (Obj.cells #[int u64 z1] 167);have n1:=R1.new w2 z1;clear b4 c0 E1;have c1:=hp.c1;go_wp2_with fail;refine(E2 _).mono ?_;rintro e w3 ⟨rfl,b5⟩;replace hp:=(hp.keep b5).alloc (Obj.cells #[int u64 z2] 167);replace hr:=(hr.keep b5).alloc (Obj.cells #[int u64 z2] 167);replace n1:=(n1.keep b5).alloc (Obj.cells #[int u64 z2] 167);replace hb:=keepB hb hb.size b5;replace hb:=hb.alloc hb.size (Obj.cells #[int u64 z2] 167);have n2:=R1.new w3 z2;clear b5 c1 E2;have c2:=hp.drew.c2;have m1:=n1.drew.cell;have m2:=n2.drew.cell;go_wp2
  go_region
  clear c2 m1 m2;go_wp2_with fail;refine(zpP _).mono ?_;rintro e w9 ⟨rfl,b9⟩;replace hr:=(hr.drew).keep b9;replace hb:=keepB hb.drew hb.size b9;have d0:=hr.c0;have d1:=hr.c1;have d2:=hr.c2;have f0:=hr.frz 0;have f1:=hr.frz 1;have f2:=hr.frz 2;go_wp2;exact bodyPost_ret (v:= .tuple #[.agg #[int u64 0,int u64 0,.bool true],.bool false]) (cp_ct (fn:=Tryz.f60) (p:=2) (u:=3) results60 _ rfl (hr.set _ _ _)) rfl ⟨rfl,set3_below hb (by omega)⟩
theorem fndP_inf2 (y z1 z2:Int)(b1 b2:Bool)(w:World)(hy:(y==0)=false)
    (E1:Cc 115 #[int u64 0,.agg #[]] (.tuple #[.agg #[int u64 z1],.bool b1]))
    (E2:Cc 115 #[int u64 y,.agg #[]] (.tuple #[.agg #[int u64 z2],.bool b2])):
    Cr 60 #[.agg #[int u64 0,int u64 y,.bool true]] w (.tuple #[.agg #[int u64 0,int u64 0,.bool true],.bool false]):=by
  obtain⟨X,hX⟩:∃X,X=((w.alloc (Obj.cells #[int u64 0,int u64 y,.bool true] 27)).alloc (Obj.cells #[int u64 0,int u64 0,.bool false] 101)).alloc (Obj.cells #[int u64 0,int u64 y,.bool true] 101):=⟨_,rfl⟩;have hp:K3 X 27 w.heap.size 0 y true:=by rw [hX];exact((K3.new w _ _ _ _).alloc _).alloc _
  have hf:K3 X 101 (w.heap.size+1+1) 0 y true:=by rw [hX];exact(K3.new _ _ _ _ _).at (by simp)
  have hr:K3 X 101 (w.heap.size+1) 0 0 false:=by rw [hX];exact((K3.new _ _ 0 0 false).at (by simp)).alloc _
  have hb:Bl w X:=by rw [hX];exact(((Below.refl _ w).alloc (Nat.le_refl _) _).alloc (by simp) _).alloc (by simp;omega) _
  rw [hX] at hp hf hr hb;clear hX;have c0:=hf.drew.c0;have c1:=hf.drew.c1;have c2:=hf.drew.c2;go_enter func60,ntmps60;go_wp2
  go_region_held3 (fun w'=>w'.cell? ⟨w.heap.size+1+1,0,none⟩=some (int u64 0)∧w'.cell? ⟨w.heap.size+1+1,1,none⟩=some (int u64 y)∧w'.cell? ⟨w.heap.size+1+1,2,none⟩=some (.bool true)) (first|exact ⟨c0,c1,c2⟩|exact ⟨keepC c0 b3,keepC c1 b3,keepC c2 b3⟩|go_keep) ((go_at_call 114;refine(zpP _).mono ?_;rintro e w1 ⟨rfl,b3⟩))
  replace hp:=(hp.drew).keep b3;replace hr:=(hr.drew).keep b3;replace hb:=keepB hb.drew hb.size b3;clear b3 c0 c1 c2 hf;have c0:=hp.c0;go_wp2_with fail;refine(E1 _).mono ?_;rintro e w2 ⟨rfl,b4⟩;replace hp:=(hp.keep b4).alloc (Obj.cells #[int u64 z1] 167);replace hr:=(hr.keep b4).alloc (Obj.cells #[int u64 z1] 167);replace hb:=keepB hb hb.size b4;replace hb:=hb.alloc hb.size (Obj.cells #[int u64 z1] 167);have n1:=R1.new w2 z1;clear b4 c0 E1;have c1:=hp.c1;go_wp2_with fail;refine(E2 _).mono ?_;rintro e w3 ⟨rfl,b5⟩;replace hp:=(hp.keep b5).alloc (Obj.cells #[int u64 z2] 167);replace hr:=(hr.keep b5).alloc (Obj.cells #[int u64 z2] 167);replace n1:=(n1.keep b5).alloc (Obj.cells #[int u64 z2] 167);replace hb:=keepB hb hb.size b5;replace hb:=hb.alloc hb.size (Obj.cells #[int u64 z2] 167);have n2:=R1.new w3 z2;clear b5 c1 E2;have c2:=hp.drew.c2;have m1:=n1.drew.cell;have m2:=n2.drew.cell;go_wp2
  go_region
  clear c2 m1 m2;go_wp2_with fail;refine(zpP _).mono ?_;rintro e w9 ⟨rfl,b9⟩;replace hr:=(hr.drew).keep b9;replace hb:=keepB hb.drew hb.size b9;have d0:=hr.c0;have d1:=hr.c1;have d2:=hr.c2;have f0:=hr.frz 0;have f1:=hr.frz 1;have f2:=hr.frz 2;go_wp2;exact bodyPost_ret (v:= .tuple #[.agg #[int u64 0,int u64 0,.bool true],.bool false]) (cp_ct (fn:=Tryz.f60) (p:=2) (u:=3) results60 _ rfl (hr.set _ _ _)) rfl ⟨rfl,set3_below hb (by omega)⟩
theorem fndP_bigx (x y z1 z2:Int)(b2:Bool)(w:World)
    (E1:Cc 115 #[int u64 x,.agg #[]] (.tuple #[.agg #[int u64 z1],.bool false]))
    (E2:Cc 115 #[int u64 y,.agg #[]] (.tuple #[.agg #[int u64 z2],.bool b2])):
    Cr 60 #[.agg #[int u64 x,int u64 y,.bool false]] w (.tuple #[.agg #[int u64 0,int u64 0,.bool true],.bool false]):=by
  obtain⟨X,hX⟩:∃X,X=((w.alloc (Obj.cells #[int u64 x,int u64 y,.bool false] 27)).alloc (Obj.cells #[int u64 0,int u64 0,.bool false] 101)).alloc (Obj.cells #[int u64 x,int u64 y,.bool false] 101):=⟨_,rfl⟩;have hp:K3 X 27 w.heap.size x y false:=by rw [hX];exact((K3.new w _ _ _ _).alloc _).alloc _
  have hf:K3 X 101 (w.heap.size+1+1) x y false:=by rw [hX];exact(K3.new _ _ _ _ _).at (by simp)
  have hr:K3 X 101 (w.heap.size+1) 0 0 false:=by rw [hX];exact((K3.new _ _ 0 0 false).at (by simp)).alloc _
  have hb:Bl w X:=by rw [hX];exact(((Below.refl _ w).alloc (Nat.le_refl _) _).alloc (by simp) _).alloc (by simp;omega) _
  rw [hX] at hp hf hr hb;clear hX;have c0:=hf.drew.c0;have c1:=hf.drew.c1;have c2:=hf.drew.c2;go_enter func60,ntmps60;go_wp2
  go_region_held3 (fun w'=>w'.cell? ⟨w.heap.size+1+1,0,none⟩=some (int u64 x)∧w'.cell? ⟨w.heap.size+1+1,1,none⟩=some (int u64 y)∧w'.cell? ⟨w.heap.size+1+1,2,none⟩=some (.bool false)) (first|exact ⟨c0,c1,c2⟩|exact ⟨keepC c0 b3,keepC c1 b3,keepC c2 b3⟩|go_keep) ((go_at_call 114;refine(zpP _).mono ?_;rintro e w1 ⟨rfl,b3⟩))
  replace hp:=(hp.drew).keep b3;replace hr:=(hr.drew).keep b3;replace hb:=keepB hb.drew hb.size b3;clear b3 c0 c1 c2 hf;have c0:=hp.c0;go_wp2_with fail;refine(E1 _).mono ?_;rintro e w2 ⟨rfl,b4⟩;replace hp:=(hp.keep b4).alloc (Obj.cells #[int u64 z1] 167);replace hr:=(hr.keep b4).alloc (Obj.cells #[int u64 z1] 167);replace hb:=keepB hb hb.size b4;replace hb:=hb.alloc hb.size (Obj.cells #[int u64 z1] 167);have n1:=R1.new w2 z1;clear b4 c0 E1;have c1:=hp.c1;go_wp2_with fail;refine(E2 _).mono ?_;rintro e w3 ⟨rfl,b5⟩;replace hp:=(hp.keep b5).alloc (Obj.cells #[int u64 z2] 167);replace hr:=(hr.keep b5).alloc (Obj.cells #[int u64 z2] 167);replace n1:=(n1.keep b5).alloc (Obj.cells #[int u64 z2] 167);replace hb:=keepB hb hb.size b5;replace hb:=hb.alloc hb.size (Obj.cells #[int u64 z2] 167);have n2:=R1.new w3 z2;clear b5 c1 E2;have c2:=hp.drew.c2;have m1:=n1.drew.cell;have m2:=n2.drew.cell;go_wp2
  go_region
  clear c2 m1 m2;go_wp2_with fail;refine(zpP _).mono ?_;rintro e w9 ⟨rfl,b9⟩;replace hr:=(hr.drew).keep b9;replace hb:=keepB hb.drew hb.size b9;have d0:=hr.c0;have d1:=hr.c1;have d2:=hr.c2;have f0:=hr.frz 0;have f1:=hr.frz 1;have f2:=hr.frz 2;go_wp2;exact bodyPost_ret (v:= .tuple #[.agg #[int u64 0,int u64 0,.bool true],.bool false]) (cp_ct (fn:=Tryz.f60) (p:=2) (u:=3) results60 _ rfl (hr.set _ _ _)) rfl ⟨rfl,set3_below hb (by omega)⟩
theorem fndP_bigy (x y z1 z2:Int)(w:World)
    (E1:Cc 115 #[int u64 x,.agg #[]] (.tuple #[.agg #[int u64 z1],.bool true]))
    (E2:Cc 115 #[int u64 y,.agg #[]] (.tuple #[.agg #[int u64 z2],.bool false])):
    Cr 60 #[.agg #[int u64 x,int u64 y,.bool false]] w (.tuple #[.agg #[int u64 0,int u64 0,.bool true],.bool false]):=by
  obtain⟨X,hX⟩:∃X,X=((w.alloc (Obj.cells #[int u64 x,int u64 y,.bool false] 27)).alloc (Obj.cells #[int u64 0,int u64 0,.bool false] 101)).alloc (Obj.cells #[int u64 x,int u64 y,.bool false] 101):=⟨_,rfl⟩;have hp:K3 X 27 w.heap.size x y false:=by rw [hX];exact((K3.new w _ _ _ _).alloc _).alloc _
  have hf:K3 X 101 (w.heap.size+1+1) x y false:=by rw [hX];exact(K3.new _ _ _ _ _).at (by simp)
  have hr:K3 X 101 (w.heap.size+1) 0 0 false:=by rw [hX];exact((K3.new _ _ 0 0 false).at (by simp)).alloc _
  have hb:Bl w X:=by rw [hX];exact(((Below.refl _ w).alloc (Nat.le_refl _) _).alloc (by simp) _).alloc (by simp;omega) _
  rw [hX] at hp hf hr hb;clear hX;have c0:=hf.drew.c0;have c1:=hf.drew.c1;have c2:=hf.drew.c2;go_enter func60,ntmps60;go_wp2
  go_region_held3 (fun w'=>w'.cell? ⟨w.heap.size+1+1,0,none⟩=some (int u64 x)∧w'.cell? ⟨w.heap.size+1+1,1,none⟩=some (int u64 y)∧w'.cell? ⟨w.heap.size+1+1,2,none⟩=some (.bool false)) (first|exact ⟨c0,c1,c2⟩|exact ⟨keepC c0 b3,keepC c1 b3,keepC c2 b3⟩|go_keep) ((go_at_call 114;refine(zpP _).mono ?_;rintro e w1 ⟨rfl,b3⟩))
  replace hp:=(hp.drew).keep b3;replace hr:=(hr.drew).keep b3;replace hb:=keepB hb.drew hb.size b3;clear b3 c0 c1 c2 hf;have c0:=hp.c0;go_wp2_with fail;refine(E1 _).mono ?_;rintro e w2 ⟨rfl,b4⟩;replace hp:=(hp.keep b4).alloc (Obj.cells #[int u64 z1] 167);replace hr:=(hr.keep b4).alloc (Obj.cells #[int u64 z1] 167);replace hb:=keepB hb hb.size b4;replace hb:=hb.alloc hb.size (Obj.cells #[int u64 z1] 167);have n1:=R1.new w2 z1;clear b4 c0 E1;have c1:=hp.c1;go_wp2_with fail;refine(E2 _).mono ?_;rintro e w3 ⟨rfl,b5⟩;replace hp:=(hp.keep b5).alloc (Obj.cells #[int u64 z2] 167);replace hr:=(hr.keep b5).alloc (Obj.cells #[int u64 z2] 167);replace n1:=(n1.keep b5).alloc (Obj.cells #[int u64 z2] 167);replace hb:=keepB hb hb.size b5;replace hb:=hb.alloc hb.size (Obj.cells #[int u64 z2] 167);have n2:=R1.new w3 z2;clear b5 c1 E2;have c2:=hp.drew.c2;have m1:=n1.drew.cell;have m2:=n2.drew.cell;go_wp2
  go_region
  clear c2 m1 m2;go_wp2_with fail;refine(zpP _).mono ?_;rintro e w9 ⟨rfl,b9⟩;replace hr:=(hr.drew).keep b9;replace hb:=keepB hb.drew hb.size b9;have d0:=hr.c0;have d1:=hr.c1;have d2:=hr.c2;have f0:=hr.frz 0;have f1:=hr.frz 1;have f2:=hr.frz 2;go_wp2;exact bodyPost_ret (v:= .tuple #[.agg #[int u64 0,int u64 0,.bool true],.bool false]) (cp_ct (fn:=Tryz.f60) (p:=2) (u:=3) results60 _ rfl (hr.set _ _ _)) rfl ⟨rfl,set3_below hb (by omega)⟩
theorem fndP_off (x y z1 z2:Int)(w:World)(hz:(z1==z2)=false)
    (T1:Cc 116 #[.agg #[int u64 y],.agg #[int u64 y]] (.agg #[int u64 z1]))
    (T2:Cc 117 #[.agg #[int u64 x]] (.agg #[int u64 z2]))
    (E1:Cc 115 #[int u64 x,.agg #[]] (.tuple #[.agg #[int u64 x],.bool true]))
    (E2:Cc 115 #[int u64 y,.agg #[]] (.tuple #[.agg #[int u64 y],.bool true])):
    Cr 60 #[.agg #[int u64 x,int u64 y,.bool false]] w (.tuple #[.agg #[int u64 0,int u64 0,.bool true],.bool false]):=by
  obtain⟨X,hX⟩:∃X,X=((w.alloc (Obj.cells #[int u64 x,int u64 y,.bool false] 27)).alloc (Obj.cells #[int u64 0,int u64 0,.bool false] 101)).alloc (Obj.cells #[int u64 x,int u64 y,.bool false] 101):=⟨_,rfl⟩;have hp:K3 X 27 w.heap.size x y false:=by rw [hX];exact((K3.new w _ _ _ _).alloc _).alloc _
  have hf:K3 X 101 (w.heap.size+1+1) x y false:=by rw [hX];exact(K3.new _ _ _ _ _).at (by simp)
  have hr:K3 X 101 (w.heap.size+1) 0 0 false:=by rw [hX];exact((K3.new _ _ 0 0 false).at (by simp)).alloc _
  have hb:Bl w X:=by rw [hX];exact(((Below.refl _ w).alloc (Nat.le_refl _) _).alloc (by simp) _).alloc (by simp;omega) _
  rw [hX] at hp hf hr hb;clear hX;have c0:=hf.drew.c0;have c1:=hf.drew.c1;have c2:=hf.drew.c2;go_enter func60,ntmps60;go_wp2
  go_region_held3 (fun w'=>w'.cell? ⟨w.heap.size+1+1,0,none⟩=some (int u64 x)∧w'.cell? ⟨w.heap.size+1+1,1,none⟩=some (int u64 y)∧w'.cell? ⟨w.heap.size+1+1,2,none⟩=some (.bool false)) (first|exact ⟨c0,c1,c2⟩|exact ⟨keepC c0 b3,keepC c1 b3,keepC c2 b3⟩|go_keep) ((go_at_call 114;refine(zpP _).mono ?_;rintro e w1 ⟨rfl,b3⟩))
  replace hp:=(hp.drew).keep b3;replace hr:=(hr.drew).keep b3;replace hb:=keepB hb.drew hb.size b3;clear b3 c0 c1 c2 hf;have c0:=hp.c0;go_wp2_with fail;refine(E1 _).mono ?_;rintro e w2 ⟨rfl,b4⟩;replace hp:=(hp.keep b4).alloc (Obj.cells #[int u64 x] 167);replace hr:=(hr.keep b4).alloc (Obj.cells #[int u64 x] 167);replace hb:=keepB hb hb.size b4;replace hb:=hb.alloc hb.size (Obj.cells #[int u64 x] 167);have n1:=R1.new w2 x;clear b4 c0 E1;have c1:=hp.c1;go_wp2_with fail;refine(E2 _).mono ?_;rintro e w3 ⟨rfl,b5⟩;replace hp:=(hp.keep b5).alloc (Obj.cells #[int u64 y] 167);replace hr:=(hr.keep b5).alloc (Obj.cells #[int u64 y] 167);replace n1:=(n1.keep b5).alloc (Obj.cells #[int u64 y] 167);replace hb:=keepB hb hb.size b5;replace hb:=hb.alloc hb.size (Obj.cells #[int u64 y] 167);have n2:=R1.new w3 y;clear b5 c1 E2;have c2:=hp.drew.c2;have m1:=n1.drew.cell;have m2:=n2.drew.cell;go_wp2
  go_region_held3 (fun w'=>w'.cell? ⟨w.heap.size,2,none⟩=some (.bool false)∧w'.cell? ⟨w2.heap.size,0,none⟩=some (int u64 x)∧w'.cell? ⟨w3.heap.size,0,none⟩=some (int u64 y)) (first|exact ⟨c2,m1,m2⟩|exact ⟨keepC c2 b6,keepC m1 b6,keepC m2 b6⟩|exact ⟨keepC (keepC c2 b6) b7,keepC (keepC m1 b6) b7,keepC (keepC m2 b6) b7⟩|go_keep) (first
    |(go_at_call 116;refine(T1 _).mono ?_;rintro e w6 ⟨rfl,b6⟩)
    |(go_at_call 117;refine(T2 _).mono ?_;rintro e w7 ⟨rfl,b7⟩))
  clear c2 m1 m2;go_wp2_with fail;refine(zpP _).mono ?_;rintro e w9 ⟨rfl,b9⟩;replace hr:=(((hr.drew).keep b6).keep b7).keep b9;replace hb:=keepB (keepB (keepB hb.drew hb.size b6) (Nat.le_trans hb.size b6.size) b7) (Nat.le_trans hb.size (Nat.le_trans b6.size b7.size)) b9;have d0:=hr.c0;have d1:=hr.c1;have d2:=hr.c2;have f0:=hr.frz 0;have f1:=hr.frz 1;have f2:=hr.frz 2;go_wp2;exact bodyPost_ret (v:= .tuple #[.agg #[int u64 0,int u64 0,.bool true],.bool false]) (cp_ct (fn:=Tryz.f60) (p:=2) (u:=3) results60 _ rfl (hr.set _ _ _)) rfl ⟨rfl,set3_below hb (by omega)⟩
theorem fndP_on (x y z1 z2:Int)(w:World)(hz:(z1==z2)=true)
    (T1:Cc 116 #[.agg #[int u64 y],.agg #[int u64 y]] (.agg #[int u64 z1]))
    (T2:Cc 117 #[.agg #[int u64 x]] (.agg #[int u64 z2]))
    (E1:Cc 115 #[int u64 x,.agg #[]] (.tuple #[.agg #[int u64 x],.bool true]))
    (E2:Cc 115 #[int u64 y,.agg #[]] (.tuple #[.agg #[int u64 y],.bool true])):
    Cr 60 #[.agg #[int u64 x,int u64 y,.bool false]] w (.tuple #[.agg #[int u64 x,int u64 y,.bool false],.bool true]):=by
  obtain⟨X,hX⟩:∃X,X=((w.alloc (Obj.cells #[int u64 x,int u64 y,.bool false] 27)).alloc (Obj.cells #[int u64 0,int u64 0,.bool false] 101)).alloc (Obj.cells #[int u64 x,int u64 y,.bool false] 101):=⟨_,rfl⟩;have hp:K3 X 27 w.heap.size x y false:=by rw [hX];exact((K3.new w _ _ _ _).alloc _).alloc _
  have hf:K3 X 101 (w.heap.size+1+1) x y false:=by rw [hX];exact(K3.new _ _ _ _ _).at (by simp)
  have hr:K3 X 101 (w.heap.size+1) 0 0 false:=by rw [hX];exact((K3.new _ _ 0 0 false).at (by simp)).alloc _
  have hb:Bl w X:=by rw [hX];exact(((Below.refl _ w).alloc (Nat.le_refl _) _).alloc (by simp) _).alloc (by simp;omega) _
  rw [hX] at hp hf hr hb;clear hX;have c0:=hf.drew.c0;have c1:=hf.drew.c1;have c2:=hf.drew.c2;go_enter func60,ntmps60;go_wp2
  go_region_held3 (fun w'=>w'.cell? ⟨w.heap.size+1+1,0,none⟩=some (int u64 x)∧w'.cell? ⟨w.heap.size+1+1,1,none⟩=some (int u64 y)∧w'.cell? ⟨w.heap.size+1+1,2,none⟩=some (.bool false)) (first|exact ⟨c0,c1,c2⟩|exact ⟨keepC c0 b3,keepC c1 b3,keepC c2 b3⟩|go_keep) ((go_at_call 114;refine(zpP _).mono ?_;rintro e w1 ⟨rfl,b3⟩))
  replace hp:=(hp.drew).keep b3;replace hr:=(hr.drew).keep b3;replace hb:=keepB hb.drew hb.size b3;clear b3 c0 c1 c2 hf;have c0:=hp.c0;go_wp2_with fail;refine(E1 _).mono ?_;rintro e w2 ⟨rfl,b4⟩;replace hp:=(hp.keep b4).alloc (Obj.cells #[int u64 x] 167);replace hr:=(hr.keep b4).alloc (Obj.cells #[int u64 x] 167);replace hb:=keepB hb hb.size b4;replace hb:=hb.alloc hb.size (Obj.cells #[int u64 x] 167);have n1:=R1.new w2 x;clear b4 c0 E1;have c1:=hp.c1;go_wp2_with fail;refine(E2 _).mono ?_;rintro e w3 ⟨rfl,b5⟩;replace hp:=(hp.keep b5).alloc (Obj.cells #[int u64 y] 167);replace hr:=(hr.keep b5).alloc (Obj.cells #[int u64 y] 167);replace n1:=(n1.keep b5).alloc (Obj.cells #[int u64 y] 167);replace hb:=keepB hb hb.size b5;replace hb:=hb.alloc hb.size (Obj.cells #[int u64 y] 167);have n2:=R1.new w3 y;clear b5 c1 E2;have c2:=hp.drew.c2;have m1:=n1.drew.cell;have m2:=n2.drew.cell;go_wp2
  go_region_held3 (fun w'=>w'.cell? ⟨w.heap.size,2,none⟩=some (.bool false)∧w'.cell? ⟨w2.heap.size,0,none⟩=some (int u64 x)∧w'.cell? ⟨w3.heap.size,0,none⟩=some (int u64 y)) (first|exact ⟨c2,m1,m2⟩|exact ⟨keepC c2 b6,keepC m1 b6,keepC m2 b6⟩|exact ⟨keepC (keepC c2 b6) b7,keepC (keepC m1 b6) b7,keepC (keepC m2 b6) b7⟩|go_keep) (first
    |(go_at_call 116;refine(T1 _).mono ?_;rintro e w6 ⟨rfl,b6⟩)
    |(go_at_call 117;refine(T2 _).mono ?_;rintro e w7 ⟨rfl,b7⟩))
  replace hr:=((hr.drew).keep b6).keep b7;replace hp:=((hp.drew).keep b6).keep b7;replace hb:=keepB (keepB hb.drew hb.size b6) (Nat.le_trans hb.size b6.size) b7;clear c2 m1 m2;have c0:=hp.c0;have c1:=hp.c1;have c2:=hp.c2;have d0:=hr.c0;have d1:=hr.c1;have d2:=hr.c2;have f0:=hr.frz 0;have f1:=hr.frz 1;have f2:=hr.frz 2;go_wp2;exact bodyPost_ret (v:= .tuple #[.agg #[int u64 x,int u64 y,.bool false],.bool true]) (cp_ct (fn:=Tryz.f60) (p:=2) (u:=3) results60 _ rfl (hr.set _ _ _)) rfl ⟨rfl,set3_below hb (by omega)⟩
theorem fndV (x y:Nat)(c:Bool)(w:World):
    Cr 60 #[.agg #[int u64 x,int u64 y,.bool c]] w (.tuple #[ptW (asPt x y c),.bool (toPt x y c).isSome]):=by
  have E:∀n:Nat,∃(z:Int) (b:Bool),(Cc 115 #[int u64 n,.agg #[]] (.tuple #[.agg #[int u64 z],.bool b]))∧
      ((b=true∧z=n∧n<2305843009213693951)∨(b=false∧ ¬ n<2305843009213693951)):=fun n=>by
    by_cases h:n<2305843009213693951
    · exact⟨n,true,fun w=>exP_less n w (by omega),.inl ⟨rfl,rfl,h⟩⟩
    · exact⟨0,false,fun w=>exP_more n w (by omega),.inr ⟨rfl,h⟩⟩
  obtain⟨zx,bx,E1,hx⟩:=E x;obtain⟨zy,by_,E2,hy⟩:=E y
  cases c with
  | true=>
    by_cases h0:x=0∧y=0
    · obtain⟨rfl,rfl⟩:=h0;have e1:toPt 0 0 true=some none:=by unfold toPt;rw [if_pos rfl,if_pos ⟨rfl,rfl⟩]
      rw [asPt_some e1,e1];exact fndP_zero w
    · have e1:toPt x y true=none:=by unfold toPt;rw [if_pos rfl,if_neg h0]
      have e2:asPt x y true=none:=by unfold asPt;rw [e1];rfl
      rw [e1,e2];by_cases hx0:x=0
      · subst hx0;exact fndP_inf2 y zx zy bx by_ w (by simp;omega) E1 E2
      · exact fndP_inf1 x y zx zy bx by_ w (by simp;omega) E1 E2
  | false =>
    rcases hx with ⟨rfl,rfl,hx⟩|⟨rfl,hx⟩
    · rcases hy with ⟨rfl,rfl,hy⟩|⟨rfl,hy⟩
      · have T1:=tmV ⟨y,hy⟩ ⟨y,hy⟩;have T2:=csqV ⟨x,hx⟩
        have e0:toPt x y false=if (⟨y,hy⟩:Fp)*⟨y,hy⟩=crv ⟨x,hx⟩ then some (some (⟨x,hx⟩,⟨y,hy⟩)) else none:=by
          unfold toPt;rw [if_neg (by decide),dif_pos ⟨hx,hy⟩]
        by_cases h:(⟨y,hy⟩:Fp)*⟨y,hy⟩=crv ⟨x,hx⟩
        · rw [if_pos h] at e0;rw [asPt_some e0,e0];exact fndP_on x y _ _ w (by rw [fv_eq];simp [h]) T1 T2 E1 E2
        · rw [if_neg h] at e0;have e2:asPt x y false=none:=by unfold asPt;rw [e0];rfl
          rw [e0,e2];exact fndP_off x y _ _ w (by rw [fv_eq];simp [h]) T1 T2 E1 E2
      · have e0:toPt x y false=none:=by
          unfold toPt;rw [if_neg (by decide),dif_neg (fun h=>hy h.2)]
        have e2:asPt x y false=none:=by unfold asPt;rw [e0];rfl
        rw [e0,e2];exact fndP_bigy x y x zy w E1 E2
    · have e0:toPt x y false=none:=by
        unfold toPt;rw [if_neg (by decide),dif_neg (fun h=>hx h.1)]
      have e2:asPt x y false=none:=by unfold asPt;rw [e0];rfl
      rw [e0,e2];exact fndP_bigx x y zx zy by_ w E1 E2
end
end Go.Proofs.YtjhbckngdclleaaGreatDoor
