import Derived.Test.YtjhbckngdclleaaGreatDoorMrg20
set_option linter.unusedVariables false
set_option maxRecDepth 100000
set_option maxHeartbeats 16000000
namespace Go.Proofs.YtjhbckngdclleaaGreatDoor
open Go.Proofs.Tryz Go.RowKit
open Go.Value (int)
open Go.IntKind (u64)
theorem exP_less (x:Int)(w:World)(h1:x<2305843009213693951):
    Cr 115 #[int u64 x,.agg #[]] w (.tuple #[.agg #[int u64 x],.bool true]):=by
  have hm:=methP;have hbd:=foldP;go_enter func115,ntmps115;go_wp2_with fail;refine(valP _).mono ?_;rintro e w' ⟨rfl,rfl⟩;go_wp2;refine bodyPost_ret (v:= .tuple #[.agg #[int u64 x],.bool true]) (by simp [results,results115,go_sem]) rfl ⟨rfl,?_⟩;exact(((Below.refl _ w).alloc (Nat.le_refl _) _).alloc (by simp) _).alloc (by simp;omega) _
theorem exP_more (x:Int)(w:World)(h1:2305843009213693951≤x):
    Cr 115 #[int u64 x,.agg #[]] w (.tuple #[.agg #[int u64 0],.bool false]):=by
  have hm:=methP;go_enter func115,ntmps115;go_wp2_with fail;refine(valP _).mono ?_;rintro e w' ⟨rfl,rfl⟩;go_wp2;refine bodyPost_ret (v:= .tuple #[.agg #[int u64 0],.bool false]) (by simp [results,results115,go_sem]) rfl ⟨rfl,?_⟩;exact(((Below.refl _ w).alloc (Nat.le_refl _) _).alloc (by simp) _).alloc (by simp;omega) _
section
open M
def T3 (W:World)(b:Nat)(x y z:Int):Prop:=W.heap[b]? =some (.cells #[int u64 x,int u64 y,int u64 z] 172)
section
variable {W W':World}{b:Nat}{x y z:Int}
theorem T3.c0 (h:T3 W b x y z):W.cell? ⟨b,0,none⟩=some (int u64 x):=by unfold T3 at h;simp [World.cell?,h]
theorem T3.c1 (h:T3 W b x y z):W.cell? ⟨b,1,none⟩=some (int u64 y):=by unfold T3 at h;simp [World.cell?,h]
theorem T3.c2 (h:T3 W b x y z):W.cell? ⟨b,2,none⟩=some (int u64 z):=by unfold T3 at h;simp [World.cell?,h]
theorem T3.frz (h:T3 W b x y z)(i:Nat):W.frozen? ⟨b,i,none⟩=false:=by unfold T3 at h;simp [World.frozen?,h]
theorem T3.lt (h:T3 W b x y z):b<W.heap.size:=(Array.getElem?_eq_some_iff.1 h).1
theorem T3.below {N:Nat}(h:T3 W b x y z)(hb:Below N W W')(hl:b<N):T3 W' b x y z:=(hb.block b hl).trans h
theorem T3.keep (h:T3 W b x y z)(hb:Bl W W'):T3 W' b x y z:=h.below hb h.lt
theorem T3.new (w:World)(x y z:Int):T3 (w.alloc (.cells #[int u64 x,int u64 y,int u64 z] 172)) w.heap.size x y z:=heap_alloc_new w _
theorem T3.alloc (h:T3 W b x y z)(o:Obj):T3 (W.alloc o) b x y z:=(Below.heap_alloc W o b h.lt).trans h
theorem T3.drew (h:T3 W b x y z):T3 W.drew b x y z:=h
theorem T3.at {b':Nat}(h:T3 W b x y z)(e:b=b'):T3 W b' x y z:=e▸h
theorem T3.range (h:T3 W b x y z):W.rangeAt b 0 [int u64 x,int u64 y,int u64 z]:=fun j v hj=>by
  match j,hj with
  |0,hj=>cases hj;exact h.c0
  |1,hj=>cases hj;exact h.c1
  |2,hj=>cases hj;exact h.c2
def setT (W:World)(b:Nat)(x y z:Int):World:=((W.setCell ⟨b,0,none⟩ (int u64 x)).setCell ⟨b,1,none⟩ (int u64 y)).setCell ⟨b,2,none⟩ (int u64 z)
theorem T3.set (h:T3 W b x y z)(x' y' z':Int):T3 (setT W b x' y' z') b x' y' z':=by
  unfold T3 setT at*;simp [World.setCell,Array.getElem?_modify,h]
theorem T3.other {b':Nat}(h:T3 W b x y z)(hne:b≠b')(x' y' z':Int):T3 (setT W b' x' y' z') b x y z:=by
  unfold T3 setT at*;rw [←h];simp [World.setCell,Array.getElem?_modify,Ne.symm hne]
theorem setT_below {N:Nat}{w:World}(h:Below N w W)(hb:N≤b):Below N w (setT W b x y z):=
  ((h.setCell (p:=⟨b,0,none⟩) hb _).setCell (p:=⟨b,1,none⟩) hb _).setCell (p:=⟨b,2,none⟩) hb _
theorem trip_res {fn:Func}{p:Tmp}(h:fn.results=#[.cell p 172])(tmps:Array Value)(hp:tmps.getD p undef= .pointer (some ⟨b,0,none⟩))(hc:T3 W b x y z):
    (results fn tmps).run prog W= .ok (.agg #[int u64 x,int u64 y,int u64 z]) W:=
  results_mid h tmps W b 0 [int u64 x,int u64 y,int u64 z] _ hp hc.range underlying172 rfl (by kernel_rfl)
end
section
variable {ev:Operand→Value}{w:World}{dst:Option Tmp}{ty:TypeId}{ps:String}{af:Array Edge}{gd:Option (Nat×Bool)}{x y:Operand}{b i:Nat}
theorem exec_idx {k:Nat}(hk:k<3)(hx:ev x= .pointer (some ⟨b,0,none⟩))(hy:ev (.const (.int .i64 (k:Int)))= .int .i64 (k:Int)):
    (execOp ev (Opr dst (.indexAddr 172 x (.const (.int .i64 (k:Int)))) ty ps af gd)).run prog w= .ok (.value (.pointer (some ⟨b,k,none⟩))) w:=by
  have h1:(0:Int)≤(k:Int):=by omega
  have h2:(k:Int)<3:=by omega
  simp [execOp,hx,hy,h2,go_sem]
theorem exec_idxT {k:Nat}(hk:k<3)(hx:ev x= .pointer (some ⟨b,0,none⟩))(hy:ev y= .int .i64 (k:Int)):
    (execOp ev (Opr dst (.indexAddr 172 x y) ty ps af gd)).run prog w= .ok (.value (.pointer (some ⟨b,k,none⟩))) w:=by
  have h2:(k:Int)<3:=by omega
  simp [execOp,hx,hy,h2,go_sem]
theorem exec_loadT {X Y Z:Int}(hx:ev x= .pointer (some ⟨b,0,none⟩))(h0:w.cell? ⟨b,0,none⟩=some (int u64 X))(h1:w.cell? ⟨b,1,none⟩=some (int u64 Y))(h2:w.cell? ⟨b,2,none⟩=some (int u64 Z)):
    (execOp ev (Opr dst (.load 172 x) ty ps af gd)).run prog w= .ok (.value (.agg #[int u64 X,int u64 Y,int u64 Z])) w:=by
  simp [execOp,hx,h0,h1,h2,go_sem]
theorem exec_storeT {X Y Z X0 Y0 Z0:Int}(hx:ev x= .pointer (some ⟨b,0,none⟩))(hy:ev y= .agg #[int u64 X,int u64 Y,int u64 Z])(hr:T3 w b X0 Y0 Z0):
    (execOp ev (Opr dst (.store 172 x y) ty ps af gd)).run prog w= .ok .skip (setT w b X Y Z):=by
  have h1:=hr.c0;have h2:=hr.c1;have h3:=hr.c2;have h4:=hr.frz;simp [execOp,hx,hy,h1,h2,h3,h4,go_sem,setT]
theorem exec_build3 {x3:Operand}{X Y Z:Int}(hx:ev x= .agg #[int u64 X])(hy:ev y= .agg #[int u64 Y])(hz:ev x3= .agg #[int u64 Z]):
    (execOp ev (Opr dst (.build 172 #[(0,x),(1,y),(2,x3)]) ty ps af gd)).run prog w= .ok (.value (.agg #[int u64 X,int u64 Y,int u64 Z])) w:=by
  simp [execOp,hx,hy,hz,go_sem]
theorem cf_crossed (args:Array Value)(w:World):(callFunc 202 args).run prog w= .ok (.enter 202 args) w:=by kernel_rfl
end
section
variable {A:Act}{w W0:World}{dst:Option Tmp}{ty:TypeId}{ps:String}{af:Array Edge}{gd:Option (Nat×Bool)}{x y x3 x4:Operand}{b i:Nat}
theorem do_loadT {X Y Z:Int}(hx:A.eval x= .pointer (some ⟨b,0,none⟩))(hr:T3 W0 b X Y Z)(hB:Bl W0 w):
    Does prog (Opr dst (.load 172 x) ty ps af gd) A w fun v' w'=>v'= .agg #[int u64 X,int u64 Y,int u64 Z]∧Bl w w':=
  does_value (exec_loadT hx (hr.keep hB).c0 (hr.keep hB).c1 (hr.keep hB).c2) ⟨rfl,Below.refl _ _⟩
theorem do_idx {k:Nat}(hk:k<3)(hx:A.eval x= .pointer (some ⟨b,0,none⟩)):
    Does prog (Opr dst (.indexAddr 172 x (.const (.int .i64 (k:Int)))) ty ps af gd) A w fun v' w'=>v'= .pointer (some ⟨b,k,none⟩)∧Bl w w':=
  by
  have h:=exec_idx (ev:=A.eval) (w:=w) (dst:=dst) (ty:=ty) (ps:=ps) (af:=af) (gd:=gd) hk hx rfl;exact does_value h ⟨rfl,Below.refl _ _⟩
theorem do_idxT {k:Nat}(hk:k<3)(hx:A.eval x= .pointer (some ⟨b,0,none⟩))(hy:A.eval y= .int .i64 (k:Int)):
    Does prog (Opr dst (.indexAddr 172 x y) ty ps af gd) A w fun v' w'=>v'= .pointer (some ⟨b,k,none⟩)∧Bl w w':=by
  have h:=exec_idxT (ev:=A.eval) (w:=w) (dst:=dst) (ty:=ty) (ps:=ps) (af:=af) (gd:=gd) hk hx hy;exact does_value h ⟨rfl,Below.refl _ _⟩
theorem do_build {X Y Z:Int}(hx:A.eval x= .agg #[int u64 X])(hy:A.eval y= .agg #[int u64 Y])(hz:A.eval x3= .agg #[int u64 Z]):
    Does prog (Opr dst (.build 172 #[(0,x),(1,y),(2,x3)]) ty ps af gd) A w fun v' w'=>v'= .agg #[int u64 X,int u64 Y,int u64 Z]∧Bl w w':=by
  have h:=exec_build3 (w:=w) (dst:=dst) (ty:=ty) (ps:=ps) (af:=af) (gd:=gd) hx hy hz;exact does_value h ⟨rfl,Below.refl _ _⟩
end
theorem trp_of (X1 Y1 Z1 X2 Y2 Z2 c3 cb xx yy zz xy xz yz bz d1 sh ab be bx m1 z3 m2 mx s1 sl p1 p2 r0 p3 p4 r1 p5 p6 r2:Int)(w:World)
    (K_c3:CalN 167 #[int u64 3,.agg #[]] c3)
    (K_cb:CalN 167 #[int u64 111,.agg #[]] cb)
    (K_xx:CalN 116 #[.agg #[int u64 X1],.agg #[int u64 X2]] xx)
    (K_yy:CalN 116 #[.agg #[int u64 Y1],.agg #[int u64 Y2]] yy)
    (K_zz:CalN 116 #[.agg #[int u64 Z1],.agg #[int u64 Z2]] zz)
    (K_xy:CalN 202 #[.agg #[int u64 X1,int u64 Y1,int u64 Z1],.agg #[int u64 X2,int u64 Y2,int u64 Z2],.int .i64 0,.int .i64 1] xy)
    (K_xz:CalN 202 #[.agg #[int u64 X1,int u64 Y1,int u64 Z1],.agg #[int u64 X2,int u64 Y2,int u64 Z2],.int .i64 0,.int .i64 2] xz)
    (K_yz:CalN 202 #[.agg #[int u64 X1,int u64 Y1,int u64 Z1],.agg #[int u64 X2,int u64 Y2,int u64 Z2],.int .i64 1,.int .i64 2] yz)
    (K_bz:CalN 116 #[.agg #[int u64 cb],.agg #[int u64 zz]] bz)
    (K_d1:CalN 166 #[.agg #[int u64 xz],.agg #[int u64 bz]] d1)
    (K_sh:CalN 116 #[.agg #[int u64 d1],.agg #[int u64 c3]] sh)
    (K_ab:CalN 168 #[.agg #[int u64 yy],.agg #[int u64 sh]] ab)
    (K_be:CalN 166 #[.agg #[int u64 yy],.agg #[int u64 sh]] be)
    (K_bx:CalN 116 #[.agg #[int u64 cb],.agg #[int u64 xz]] bx)
    (K_m1:CalN 166 #[.agg #[int u64 bx],.agg #[int u64 xx]] m1)
    (K_z3:CalN 116 #[.agg #[int u64 zz],.agg #[int u64 c3]] z3)
    (K_m2:CalN 166 #[.agg #[int u64 m1],.agg #[int u64 z3]] m2)
    (K_mx:CalN 116 #[.agg #[int u64 m2],.agg #[int u64 c3]] mx)
    (K_s1:CalN 166 #[.agg #[int u64 xx],.agg #[int u64 zz]] s1)
    (K_sl:CalN 116 #[.agg #[int u64 s1],.agg #[int u64 c3]] sl)
    (K_p1:CalN 116 #[.agg #[int u64 xy],.agg #[int u64 ab]] p1)
    (K_p2:CalN 116 #[.agg #[int u64 yz],.agg #[int u64 mx]] p2)
    (K_r0:CalN 166 #[.agg #[int u64 p1],.agg #[int u64 p2]] r0)
    (K_p3:CalN 116 #[.agg #[int u64 sl],.agg #[int u64 mx]] p3)
    (K_p4:CalN 116 #[.agg #[int u64 ab],.agg #[int u64 be]] p4)
    (K_r1:CalN 168 #[.agg #[int u64 p3],.agg #[int u64 p4]] r1)
    (K_p5:CalN 116 #[.agg #[int u64 yz],.agg #[int u64 be]] p5)
    (K_p6:CalN 116 #[.agg #[int u64 xy],.agg #[int u64 sl]] p6)
    (K_r2:CalN 168 #[.agg #[int u64 p5],.agg #[int u64 p6]] r2):
    Cr 170 #[.agg #[int u64 X1,int u64 Y1,int u64 Z1],.agg #[int u64 X2,int u64 Y2,int u64 Z2]] w (.agg #[int u64 r0,int u64 r1,int u64 r2]):=by
  obtain⟨X,hX⟩:∃X,X=(((w.alloc (Obj.cells #[int u64 X1,int u64 Y1,int u64 Z1] 172)).alloc (Obj.cells #[int u64 X2,int u64 Y2,int u64 Z2] 172)).alloc (Obj.cells #[int u64 0,int u64 0,int u64 0] 172)).alloc (Obj.cells #[] 165):=⟨_,rfl⟩;have tt:T3 X w.heap.size X1 Y1 Z1:=by rw [hX];exact(((T3.new w X1 Y1 Z1).alloc _).alloc _).alloc _
  have tu:T3 X (w.heap.size+1) X2 Y2 Z2:=by rw [hX];exact(((T3.new _ X2 Y2 Z2).at (by simp)).alloc _).alloc _
  have tr:T3 X (w.heap.size+1+1) 0 0 0:=by rw [hX];exact((T3.new _ 0 0 0).at (by simp)).alloc _
  have hb:Bl w X:=by rw [hX];exact((((Below.refl _ w).alloc (Nat.le_refl _) _).alloc (by simp) _).alloc (by simp;omega) _).alloc (by simp;omega) _
  rw [hX] at tt tu tr hb;clear hX;go_enter func170,ntmps170;go_wp2
  refine pool_list [.val (.agg #[]),
    .val (.agg #[int u64 c3]),
    .val (.agg #[]),
    .val (.agg #[int u64 cb]),
    .new (.cells #[int u64 0] 167) (.cells #[int u64 c3] 167) 6,
    .new (.cells #[int u64 0] 167) (.cells #[int u64 cb] 167) 7,
    .put 4,
    .put 5] [[5],[20],[5],[22],[],[],[6,21],[7,23]] (fun f=> [(some 20,.agg #[]),(some 21,.agg #[int u64 c3]),(some 22,.agg #[]),(some 23,.agg #[int u64 cb]),(some 6,.pointer (some ⟨f 4,0,none⟩)),(some 7,.pointer (some ⟨f 5,0,none⟩)),(none,undef),(none,undef)]) (by kernel_rfl) (by kernel_rfl) (by kernel_rfl) (by kernel_rfl) (fun _=>by kernel_rfl) ?_ ?_
  · intro ix hix
    match ix,hix with
    |0,_=>exact obv [(5,.pointer (some ⟨w.heap.size+1+1+1,0,none⟩))] rfl rfl (fun A w ⟨e0,_⟩ hB=>do_load0 e0)
    |1,_=>exact obv [(20,.agg #[])] rfl rfl (fun A w ⟨e0,_⟩ hB=>do_call2 cf_reduced rfl e0 (K_c3 w))
    |2,_=>exact obv [(5,.pointer (some ⟨w.heap.size+1+1+1,0,none⟩))] rfl rfl (fun A w ⟨e0,_⟩ hB=>do_load0 e0)
    |3,_=>exact obv [(22,.agg #[])] rfl rfl (fun A w ⟨e0,_⟩ hB=>do_call2 cf_reduced rfl e0 (K_cb w))
    |4,_=>exact ob_new rfl rfl (fun A w=>do_new)
    |5,_=>exact ob_new rfl rfl (fun A w=>do_new)
    |6,_=>exact ob_put 6 (fun f=> [(6,.pointer (some ⟨f 4,0,none⟩)),(21,.agg #[int u64 c3])]) rfl rfl rfl (by decide) (by kernel_rfl) rfl (fun _=>by kernel_rfl) (fun f A w ⟨e0,e1,_⟩ hr=>do_put e0 e1 hr)
    |7,_=>exact ob_put 7 (fun f=> [(7,.pointer (some ⟨f 5,0,none⟩)),(23,.agg #[int u64 cb])]) rfl rfl rfl (by decide) (by kernel_rfl) rfl (fun _=>by kernel_rfl) (fun f A w ⟨e0,e1,_⟩ hr=>do_put e0 e1 hr)
    |ix+8,h=>exact absurd h (by simp)
  intro f w2 hB hN _;have n6:=(hN 4 _ _ _ rfl (by simp)).2;rw [if_pos (by simp)] at n6;have n7:=(hN 5 _ _ _ rfl (by simp)).2;rw [if_pos (by simp)] at n7;replace tt:=(tt.drew).keep hB;replace tu:=(tu.drew).keep hB;replace tr:=(tr.drew).keep hB;replace hb:=keepB hb.drew hb.size hB;clear hN hB;generalize f 4=q6 at*;replace n6:R1 w2 q6 c3:=n6;generalize f 5=q7 at*;replace n7:R1 w2 q7 cb:=n7;simp only [puts,List.foldl,Act.put,List.setIfInBounds_toArray,List.set_cons_zero,List.set_cons_succ];go_wp2
  refine pool_list [.val (.pointer (some ⟨w.heap.size,0,none⟩)),
    .val (.agg #[int u64 X1]),
    .val (.pointer (some ⟨w.heap.size+1,0,none⟩)),
    .val (.agg #[int u64 X2]),
    .val (.agg #[int u64 xx]),
    .val (.pointer (some ⟨w.heap.size,1,none⟩)),
    .val (.agg #[int u64 Y1]),
    .val (.pointer (some ⟨w.heap.size+1,1,none⟩)),
    .val (.agg #[int u64 Y2]),
    .val (.agg #[int u64 yy]),
    .val (.pointer (some ⟨w.heap.size,2,none⟩)),
    .val (.agg #[int u64 Z1]),
    .val (.pointer (some ⟨w.heap.size+1,2,none⟩)),
    .val (.agg #[int u64 Z2]),
    .val (.agg #[int u64 zz]),
    .new (.cells #[int u64 0] 167) (.cells #[int u64 xx] 167) 18,
    .new (.cells #[int u64 0] 167) (.cells #[int u64 yy] 167) 19,
    .new (.cells #[int u64 0] 167) (.cells #[int u64 zz] 167) 20,
    .put 15,
    .put 16,
    .put 17] [[2],[24],[3],[26],[25,27],[2],[29],[3],[31],[30,32],[2],[34],[3],[36],[35,37],[],[],[],[8,28],[9,33],[10,38]] (fun f=> [(some 24,.pointer (some ⟨w.heap.size,0,none⟩)),(some 25,.agg #[int u64 X1]),(some 26,.pointer (some ⟨w.heap.size+1,0,none⟩)),(some 27,.agg #[int u64 X2]),(some 28,.agg #[int u64 xx]),(some 29,.pointer (some ⟨w.heap.size,1,none⟩)),(some 30,.agg #[int u64 Y1]),(some 31,.pointer (some ⟨w.heap.size+1,1,none⟩)),(some 32,.agg #[int u64 Y2]),(some 33,.agg #[int u64 yy]),(some 34,.pointer (some ⟨w.heap.size,2,none⟩)),(some 35,.agg #[int u64 Z1]),(some 36,.pointer (some ⟨w.heap.size+1,2,none⟩)),(some 37,.agg #[int u64 Z2]),(some 38,.agg #[int u64 zz]),(some 8,.pointer (some ⟨f 15,0,none⟩)),(some 9,.pointer (some ⟨f 16,0,none⟩)),(some 10,.pointer (some ⟨f 17,0,none⟩)),(none,undef),(none,undef),(none,undef)]) (by kernel_rfl) (by kernel_rfl) (by kernel_rfl) (by kernel_rfl) (fun _=>by kernel_rfl) ?_ ?_
  · intro ix hix
    match ix,hix with
    |0,_=>exact obv [(2,.pointer (some ⟨w.heap.size,0,none⟩))] rfl rfl (fun A w ⟨e0,_⟩ hB=>do_idx (k:=0) (by decide) e0)
    |1,_=>exact obv [(24,.pointer (some ⟨w.heap.size,0,none⟩))] rfl rfl (fun A w ⟨e0,_⟩ hB=>do_loadC e0 (tt.drew).c0 hB)
    |2,_=>exact obv [(3,.pointer (some ⟨w.heap.size+1,0,none⟩))] rfl rfl (fun A w ⟨e0,_⟩ hB=>do_idx (k:=0) (by decide) e0)
    |3,_=>exact obv [(26,.pointer (some ⟨w.heap.size+1,0,none⟩))] rfl rfl (fun A w ⟨e0,_⟩ hB=>do_loadC e0 (tu.drew).c0 hB)
    |4,_=>exact obv [(25,.agg #[int u64 X1]),(27,.agg #[int u64 X2])] rfl rfl (fun A w ⟨e0,e1,_⟩ hB=>do_call2 cf_times e0 e1 (K_xx w))
    |5,_=>exact obv [(2,.pointer (some ⟨w.heap.size,0,none⟩))] rfl rfl (fun A w ⟨e0,_⟩ hB=>do_idx (k:=1) (by decide) e0)
    |6,_=>exact obv [(29,.pointer (some ⟨w.heap.size,1,none⟩))] rfl rfl (fun A w ⟨e0,_⟩ hB=>do_loadC e0 (tt.drew).c1 hB)
    |7,_=>exact obv [(3,.pointer (some ⟨w.heap.size+1,0,none⟩))] rfl rfl (fun A w ⟨e0,_⟩ hB=>do_idx (k:=1) (by decide) e0)
    |8,_=>exact obv [(31,.pointer (some ⟨w.heap.size+1,1,none⟩))] rfl rfl (fun A w ⟨e0,_⟩ hB=>do_loadC e0 (tu.drew).c1 hB)
    |9,_=>exact obv [(30,.agg #[int u64 Y1]),(32,.agg #[int u64 Y2])] rfl rfl (fun A w ⟨e0,e1,_⟩ hB=>do_call2 cf_times e0 e1 (K_yy w))
    |10,_=>exact obv [(2,.pointer (some ⟨w.heap.size,0,none⟩))] rfl rfl (fun A w ⟨e0,_⟩ hB=>do_idx (k:=2) (by decide) e0)
    |11,_=>exact obv [(34,.pointer (some ⟨w.heap.size,2,none⟩))] rfl rfl (fun A w ⟨e0,_⟩ hB=>do_loadC e0 (tt.drew).c2 hB)
    |12,_=>exact obv [(3,.pointer (some ⟨w.heap.size+1,0,none⟩))] rfl rfl (fun A w ⟨e0,_⟩ hB=>do_idx (k:=2) (by decide) e0)
    |13,_=>exact obv [(36,.pointer (some ⟨w.heap.size+1,2,none⟩))] rfl rfl (fun A w ⟨e0,_⟩ hB=>do_loadC e0 (tu.drew).c2 hB)
    |14,_=>exact obv [(35,.agg #[int u64 Z1]),(37,.agg #[int u64 Z2])] rfl rfl (fun A w ⟨e0,e1,_⟩ hB=>do_call2 cf_times e0 e1 (K_zz w))
    |15,_=>exact ob_new rfl rfl (fun A w=>do_new)
    |16,_=>exact ob_new rfl rfl (fun A w=>do_new)
    |17,_=>exact ob_new rfl rfl (fun A w=>do_new)
    |18,_=>exact ob_put 8 (fun f=> [(8,.pointer (some ⟨f 15,0,none⟩)),(28,.agg #[int u64 xx])]) rfl rfl rfl (by decide) (by kernel_rfl) rfl (fun _=>by kernel_rfl) (fun f A w ⟨e0,e1,_⟩ hr=>do_put e0 e1 hr)
    |19,_=>exact ob_put 9 (fun f=> [(9,.pointer (some ⟨f 16,0,none⟩)),(33,.agg #[int u64 yy])]) rfl rfl rfl (by decide) (by kernel_rfl) rfl (fun _=>by kernel_rfl) (fun f A w ⟨e0,e1,_⟩ hr=>do_put e0 e1 hr)
    |20,_=>exact ob_put 10 (fun f=> [(10,.pointer (some ⟨f 17,0,none⟩)),(38,.agg #[int u64 zz])]) rfl rfl rfl (by decide) (by kernel_rfl) rfl (fun _=>by kernel_rfl) (fun f A w ⟨e0,e1,_⟩ hr=>do_put e0 e1 hr)
    |ix+21,h=>exact absurd h (by simp)
  intro f w3 hB hN _;have n8:=(hN 15 _ _ _ rfl (by simp)).2;rw [if_pos (by simp)] at n8;have n9:=(hN 16 _ _ _ rfl (by simp)).2;rw [if_pos (by simp)] at n9;have n10:=(hN 17 _ _ _ rfl (by simp)).2;rw [if_pos (by simp)] at n10;replace tt:=(tt.drew).keep hB;replace tu:=(tu.drew).keep hB;replace tr:=(tr.drew).keep hB;replace n6:=(n6.drew).keep hB;replace n7:=(n7.drew).keep hB;replace hb:=keepB hb.drew hb.size hB;clear hN hB;generalize f 15=q8 at*;replace n8:R1 w3 q8 xx:=n8;generalize f 16=q9 at*;replace n9:R1 w3 q9 yy:=n9;generalize f 17=q10 at*;replace n10:R1 w3 q10 zz:=n10;simp only [puts,List.foldl,Act.put,List.setIfInBounds_toArray,List.set_cons_zero,List.set_cons_succ];go_wp2
  refine pool_list [.val (.agg #[int u64 X1,int u64 Y1,int u64 Z1]),
    .val (.agg #[int u64 X2,int u64 Y2,int u64 Z2]),
    .val (.agg #[int u64 xy]),
    .val (.agg #[int u64 X1,int u64 Y1,int u64 Z1]),
    .val (.agg #[int u64 X2,int u64 Y2,int u64 Z2]),
    .val (.agg #[int u64 xz]),
    .val (.agg #[int u64 X1,int u64 Y1,int u64 Z1]),
    .val (.agg #[int u64 X2,int u64 Y2,int u64 Z2]),
    .val (.agg #[int u64 yz]),
    .new (.cells #[int u64 0] 167) (.cells #[int u64 xy] 167) 12,
    .new (.cells #[int u64 0] 167) (.cells #[int u64 xz] 167) 13,
    .new (.cells #[int u64 0] 167) (.cells #[int u64 yz] 167) 14,
    .put 9,
    .put 10,
    .put 11] [[2],[3],[39,40],[2],[3],[42,43],[2],[3],[45,46],[],[],[],[11,41],[12,44],[13,47]] (fun f=> [(some 39,.agg #[int u64 X1,int u64 Y1,int u64 Z1]),(some 40,.agg #[int u64 X2,int u64 Y2,int u64 Z2]),(some 41,.agg #[int u64 xy]),(some 42,.agg #[int u64 X1,int u64 Y1,int u64 Z1]),(some 43,.agg #[int u64 X2,int u64 Y2,int u64 Z2]),(some 44,.agg #[int u64 xz]),(some 45,.agg #[int u64 X1,int u64 Y1,int u64 Z1]),(some 46,.agg #[int u64 X2,int u64 Y2,int u64 Z2]),(some 47,.agg #[int u64 yz]),(some 11,.pointer (some ⟨f 9,0,none⟩)),(some 12,.pointer (some ⟨f 10,0,none⟩)),(some 13,.pointer (some ⟨f 11,0,none⟩)),(none,undef),(none,undef),(none,undef)]) (by kernel_rfl) (by kernel_rfl) (by kernel_rfl) (by kernel_rfl) (fun _=>by kernel_rfl) ?_ ?_
  · intro ix hix
    match ix,hix with
    |0,_=>exact obv [(2,.pointer (some ⟨w.heap.size,0,none⟩))] rfl rfl (fun A w ⟨e0,_⟩ hB=>do_loadT e0 tt.drew hB)
    |1,_=>exact obv [(3,.pointer (some ⟨w.heap.size+1,0,none⟩))] rfl rfl (fun A w ⟨e0,_⟩ hB=>do_loadT e0 tu.drew hB)
    |2,_=>exact obv [(39,.agg #[int u64 X1,int u64 Y1,int u64 Z1]),(40,.agg #[int u64 X2,int u64 Y2,int u64 Z2])] rfl rfl (fun A w ⟨e0,e1,_⟩ hB=>do_call4 cf_crossed e0 e1 rfl rfl (K_xy w))
    |3,_=>exact obv [(2,.pointer (some ⟨w.heap.size,0,none⟩))] rfl rfl (fun A w ⟨e0,_⟩ hB=>do_loadT e0 tt.drew hB)
    |4,_=>exact obv [(3,.pointer (some ⟨w.heap.size+1,0,none⟩))] rfl rfl (fun A w ⟨e0,_⟩ hB=>do_loadT e0 tu.drew hB)
    |5,_=>exact obv [(42,.agg #[int u64 X1,int u64 Y1,int u64 Z1]),(43,.agg #[int u64 X2,int u64 Y2,int u64 Z2])] rfl rfl (fun A w ⟨e0,e1,_⟩ hB=>do_call4 cf_crossed e0 e1 rfl rfl (K_xz w))
    |6,_=>exact obv [(2,.pointer (some ⟨w.heap.size,0,none⟩))] rfl rfl (fun A w ⟨e0,_⟩ hB=>do_loadT e0 tt.drew hB)
    |7,_=>exact obv [(3,.pointer (some ⟨w.heap.size+1,0,none⟩))] rfl rfl (fun A w ⟨e0,_⟩ hB=>do_loadT e0 tu.drew hB)
    |8,_=>exact obv [(45,.agg #[int u64 X1,int u64 Y1,int u64 Z1]),(46,.agg #[int u64 X2,int u64 Y2,int u64 Z2])] rfl rfl (fun A w ⟨e0,e1,_⟩ hB=>do_call4 cf_crossed e0 e1 rfl rfl (K_yz w))
    |9,_=>exact ob_new rfl rfl (fun A w=>do_new)
    |10,_=>exact ob_new rfl rfl (fun A w=>do_new)
    |11,_=>exact ob_new rfl rfl (fun A w=>do_new)
    |12,_=>exact ob_put 11 (fun f=> [(11,.pointer (some ⟨f 9,0,none⟩)),(41,.agg #[int u64 xy])]) rfl rfl rfl (by decide) (by kernel_rfl) rfl (fun _=>by kernel_rfl) (fun f A w ⟨e0,e1,_⟩ hr=>do_put e0 e1 hr)
    |13,_=>exact ob_put 12 (fun f=> [(12,.pointer (some ⟨f 10,0,none⟩)),(44,.agg #[int u64 xz])]) rfl rfl rfl (by decide) (by kernel_rfl) rfl (fun _=>by kernel_rfl) (fun f A w ⟨e0,e1,_⟩ hr=>do_put e0 e1 hr)
    |14,_=>exact ob_put 13 (fun f=> [(13,.pointer (some ⟨f 11,0,none⟩)),(47,.agg #[int u64 yz])]) rfl rfl rfl (by decide) (by kernel_rfl) rfl (fun _=>by kernel_rfl) (fun f A w ⟨e0,e1,_⟩ hr=>do_put e0 e1 hr)
    |ix+15,h=>exact absurd h (by simp)
  intro f w4 hB hN _;have n11:=(hN 9 _ _ _ rfl (by simp)).2;rw [if_pos (by simp)] at n11;have n12:=(hN 10 _ _ _ rfl (by simp)).2;rw [if_pos (by simp)] at n12;have n13:=(hN 11 _ _ _ rfl (by simp)).2;rw [if_pos (by simp)] at n13;replace tt:=(tt.drew).keep hB;replace tu:=(tu.drew).keep hB;replace tr:=(tr.drew).keep hB;replace n6:=(n6.drew).keep hB;replace n7:=(n7.drew).keep hB;replace n8:=(n8.drew).keep hB;replace n9:=(n9.drew).keep hB;replace n10:=(n10.drew).keep hB;replace hb:=keepB hb.drew hb.size hB;clear hN hB;generalize f 9=q11 at*;replace n11:R1 w4 q11 xy:=n11;generalize f 10=q12 at*;replace n12:R1 w4 q12 xz:=n12;generalize f 11=q13 at*;replace n13:R1 w4 q13 yz:=n13;simp only [puts,List.foldl,Act.put,List.setIfInBounds_toArray,List.set_cons_zero,List.set_cons_succ];go_wp2
  refine pool_list [.val (.agg #[int u64 xz]),
    .val (.agg #[int u64 cb]),
    .val (.agg #[int u64 zz]),
    .val (.agg #[int u64 bz]),
    .val (.agg #[int u64 d1]),
    .val (.agg #[int u64 c3]),
    .val (.agg #[int u64 sh]),
    .new (.cells #[int u64 0] 167) (.cells #[int u64 sh] 167) 8,
    .put 7] [[12],[7],[10],[49,50],[48,51],[6],[52,53],[],[14,54]] (fun f=> [(some 48,.agg #[int u64 xz]),(some 49,.agg #[int u64 cb]),(some 50,.agg #[int u64 zz]),(some 51,.agg #[int u64 bz]),(some 52,.agg #[int u64 d1]),(some 53,.agg #[int u64 c3]),(some 54,.agg #[int u64 sh]),(some 14,.pointer (some ⟨f 7,0,none⟩)),(none,undef)]) (by kernel_rfl) (by kernel_rfl) (by kernel_rfl) (by kernel_rfl) (fun _=>by kernel_rfl) ?_ ?_
  · intro ix hix
    match ix,hix with
    |0,_=>exact obv [(12,.pointer (some ⟨q12,0,none⟩))] rfl rfl (fun A w ⟨e0,_⟩ hB=>do_loadN e0 n12.drew hB)
    |1,_=>exact obv [(7,.pointer (some ⟨q7,0,none⟩))] rfl rfl (fun A w ⟨e0,_⟩ hB=>do_loadN e0 n7.drew hB)
    |2,_=>exact obv [(10,.pointer (some ⟨q10,0,none⟩))] rfl rfl (fun A w ⟨e0,_⟩ hB=>do_loadN e0 n10.drew hB)
    |3,_=>exact obv [(49,.agg #[int u64 cb]),(50,.agg #[int u64 zz])] rfl rfl (fun A w ⟨e0,e1,_⟩ hB=>do_call2 cf_times e0 e1 (K_bz w))
    |4,_=>exact obv [(48,.agg #[int u64 xz]),(51,.agg #[int u64 bz])] rfl rfl (fun A w ⟨e0,e1,_⟩ hB=>do_call2 cf_minus e0 e1 (K_d1 w))
    |5,_=>exact obv [(6,.pointer (some ⟨q6,0,none⟩))] rfl rfl (fun A w ⟨e0,_⟩ hB=>do_loadN e0 n6.drew hB)
    |6,_=>exact obv [(52,.agg #[int u64 d1]),(53,.agg #[int u64 c3])] rfl rfl (fun A w ⟨e0,e1,_⟩ hB=>do_call2 cf_times e0 e1 (K_sh w))
    |7,_=>exact ob_new rfl rfl (fun A w=>do_new)
    |8,_=>exact ob_put 14 (fun f=> [(14,.pointer (some ⟨f 7,0,none⟩)),(54,.agg #[int u64 sh])]) rfl rfl rfl (by decide) (by kernel_rfl) rfl (fun _=>by kernel_rfl) (fun f A w ⟨e0,e1,_⟩ hr=>do_put e0 e1 hr)
    |ix+9,h=>exact absurd h (by simp)
  intro f w5 hB hN _;have n14:=(hN 7 _ _ _ rfl (by simp)).2;rw [if_pos (by simp)] at n14;replace tt:=(tt.drew).keep hB;replace tu:=(tu.drew).keep hB;replace tr:=(tr.drew).keep hB;replace n6:=(n6.drew).keep hB;replace n7:=(n7.drew).keep hB;replace n8:=(n8.drew).keep hB;replace n9:=(n9.drew).keep hB;replace n10:=(n10.drew).keep hB;replace n11:=(n11.drew).keep hB;replace n12:=(n12.drew).keep hB;replace n13:=(n13.drew).keep hB;replace hb:=keepB hb.drew hb.size hB;clear hN hB;generalize f 7=q14 at*;replace n14:R1 w5 q14 sh:=n14;simp only [puts,List.foldl,Act.put,List.setIfInBounds_toArray,List.set_cons_zero,List.set_cons_succ];go_wp2
  refine pool_list [.val (.agg #[int u64 yy]),
    .val (.agg #[int u64 sh]),
    .val (.agg #[int u64 ab]),
    .val (.agg #[int u64 yy]),
    .val (.agg #[int u64 sh]),
    .val (.agg #[int u64 be]),
    .new (.cells #[int u64 0] 167) (.cells #[int u64 ab] 167) 8,
    .new (.cells #[int u64 0] 167) (.cells #[int u64 be] 167) 9,
    .put 6,
    .put 7] [[9],[14],[55,56],[9],[14],[58,59],[],[],[15,57],[16,60]] (fun f=> [(some 55,.agg #[int u64 yy]),(some 56,.agg #[int u64 sh]),(some 57,.agg #[int u64 ab]),(some 58,.agg #[int u64 yy]),(some 59,.agg #[int u64 sh]),(some 60,.agg #[int u64 be]),(some 15,.pointer (some ⟨f 6,0,none⟩)),(some 16,.pointer (some ⟨f 7,0,none⟩)),(none,undef),(none,undef)]) (by kernel_rfl) (by kernel_rfl) (by kernel_rfl) (by kernel_rfl) (fun _=>by kernel_rfl) ?_ ?_
  · intro ix hix
    match ix,hix with
    |0,_=>exact obv [(9,.pointer (some ⟨q9,0,none⟩))] rfl rfl (fun A w ⟨e0,_⟩ hB=>do_loadN e0 n9.drew hB)
    |1,_=>exact obv [(14,.pointer (some ⟨q14,0,none⟩))] rfl rfl (fun A w ⟨e0,_⟩ hB=>do_loadN e0 n14.drew hB)
    |2,_=>exact obv [(55,.agg #[int u64 yy]),(56,.agg #[int u64 sh])] rfl rfl (fun A w ⟨e0,e1,_⟩ hB=>do_call2 cf_plus e0 e1 (K_ab w))
    |3,_=>exact obv [(9,.pointer (some ⟨q9,0,none⟩))] rfl rfl (fun A w ⟨e0,_⟩ hB=>do_loadN e0 n9.drew hB)
    |4,_=>exact obv [(14,.pointer (some ⟨q14,0,none⟩))] rfl rfl (fun A w ⟨e0,_⟩ hB=>do_loadN e0 n14.drew hB)
    |5,_=>exact obv [(58,.agg #[int u64 yy]),(59,.agg #[int u64 sh])] rfl rfl (fun A w ⟨e0,e1,_⟩ hB=>do_call2 cf_minus e0 e1 (K_be w))
    |6,_=>exact ob_new rfl rfl (fun A w=>do_new)
    |7,_=>exact ob_new rfl rfl (fun A w=>do_new)
    |8,_=>exact ob_put 15 (fun f=> [(15,.pointer (some ⟨f 6,0,none⟩)),(57,.agg #[int u64 ab])]) rfl rfl rfl (by decide) (by kernel_rfl) rfl (fun _=>by kernel_rfl) (fun f A w ⟨e0,e1,_⟩ hr=>do_put e0 e1 hr)
    |9,_=>exact ob_put 16 (fun f=> [(16,.pointer (some ⟨f 7,0,none⟩)),(60,.agg #[int u64 be])]) rfl rfl rfl (by decide) (by kernel_rfl) rfl (fun _=>by kernel_rfl) (fun f A w ⟨e0,e1,_⟩ hr=>do_put e0 e1 hr)
    |ix+10,h=>exact absurd h (by simp)
  intro f w6 hB hN _;have n15:=(hN 6 _ _ _ rfl (by simp)).2;rw [if_pos (by simp)] at n15;have n16:=(hN 7 _ _ _ rfl (by simp)).2;rw [if_pos (by simp)] at n16;replace tt:=(tt.drew).keep hB;replace tu:=(tu.drew).keep hB;replace tr:=(tr.drew).keep hB;replace n6:=(n6.drew).keep hB;replace n7:=(n7.drew).keep hB;replace n8:=(n8.drew).keep hB;replace n9:=(n9.drew).keep hB;replace n10:=(n10.drew).keep hB;replace n11:=(n11.drew).keep hB;replace n12:=(n12.drew).keep hB;replace n13:=(n13.drew).keep hB;replace n14:=(n14.drew).keep hB;replace hb:=keepB hb.drew hb.size hB;clear hN hB;generalize f 6=q15 at*;replace n15:R1 w6 q15 ab:=n15;generalize f 7=q16 at*;replace n16:R1 w6 q16 be:=n16;simp only [puts,List.foldl,Act.put,List.setIfInBounds_toArray,List.set_cons_zero,List.set_cons_succ];go_wp2
  refine pool_list [.val (.agg #[int u64 cb]),
    .val (.agg #[int u64 xz]),
    .val (.agg #[int u64 bx]),
    .val (.agg #[int u64 xx]),
    .val (.agg #[int u64 m1]),
    .val (.agg #[int u64 zz]),
    .val (.agg #[int u64 c3]),
    .val (.agg #[int u64 z3]),
    .val (.agg #[int u64 m2]),
    .val (.agg #[int u64 c3]),
    .val (.agg #[int u64 mx]),
    .new (.cells #[int u64 0] 167) (.cells #[int u64 mx] 167) 12,
    .put 11] [[7],[12],[61,62],[8],[63,64],[10],[6],[66,67],[65,68],[6],[69,70],[],[17,71]] (fun f=> [(some 61,.agg #[int u64 cb]),(some 62,.agg #[int u64 xz]),(some 63,.agg #[int u64 bx]),(some 64,.agg #[int u64 xx]),(some 65,.agg #[int u64 m1]),(some 66,.agg #[int u64 zz]),(some 67,.agg #[int u64 c3]),(some 68,.agg #[int u64 z3]),(some 69,.agg #[int u64 m2]),(some 70,.agg #[int u64 c3]),(some 71,.agg #[int u64 mx]),(some 17,.pointer (some ⟨f 11,0,none⟩)),(none,undef)]) (by kernel_rfl) (by kernel_rfl) (by kernel_rfl) (by kernel_rfl) (fun _=>by kernel_rfl) ?_ ?_
  · intro ix hix
    match ix,hix with
    |0,_=>exact obv [(7,.pointer (some ⟨q7,0,none⟩))] rfl rfl (fun A w ⟨e0,_⟩ hB=>do_loadN e0 n7.drew hB)
    |1,_=>exact obv [(12,.pointer (some ⟨q12,0,none⟩))] rfl rfl (fun A w ⟨e0,_⟩ hB=>do_loadN e0 n12.drew hB)
    |2,_=>exact obv [(61,.agg #[int u64 cb]),(62,.agg #[int u64 xz])] rfl rfl (fun A w ⟨e0,e1,_⟩ hB=>do_call2 cf_times e0 e1 (K_bx w))
    |3,_=>exact obv [(8,.pointer (some ⟨q8,0,none⟩))] rfl rfl (fun A w ⟨e0,_⟩ hB=>do_loadN e0 n8.drew hB)
    |4,_=>exact obv [(63,.agg #[int u64 bx]),(64,.agg #[int u64 xx])] rfl rfl (fun A w ⟨e0,e1,_⟩ hB=>do_call2 cf_minus e0 e1 (K_m1 w))
    |5,_=>exact obv [(10,.pointer (some ⟨q10,0,none⟩))] rfl rfl (fun A w ⟨e0,_⟩ hB=>do_loadN e0 n10.drew hB)
    |6,_=>exact obv [(6,.pointer (some ⟨q6,0,none⟩))] rfl rfl (fun A w ⟨e0,_⟩ hB=>do_loadN e0 n6.drew hB)
    |7,_=>exact obv [(66,.agg #[int u64 zz]),(67,.agg #[int u64 c3])] rfl rfl (fun A w ⟨e0,e1,_⟩ hB=>do_call2 cf_times e0 e1 (K_z3 w))
    |8,_=>exact obv [(65,.agg #[int u64 m1]),(68,.agg #[int u64 z3])] rfl rfl (fun A w ⟨e0,e1,_⟩ hB=>do_call2 cf_minus e0 e1 (K_m2 w))
    |9,_=>exact obv [(6,.pointer (some ⟨q6,0,none⟩))] rfl rfl (fun A w ⟨e0,_⟩ hB=>do_loadN e0 n6.drew hB)
    |10,_=>exact obv [(69,.agg #[int u64 m2]),(70,.agg #[int u64 c3])] rfl rfl (fun A w ⟨e0,e1,_⟩ hB=>do_call2 cf_times e0 e1 (K_mx w))
    |11,_=>exact ob_new rfl rfl (fun A w=>do_new)
    |12,_=>exact ob_put 17 (fun f=> [(17,.pointer (some ⟨f 11,0,none⟩)),(71,.agg #[int u64 mx])]) rfl rfl rfl (by decide) (by kernel_rfl) rfl (fun _=>by kernel_rfl) (fun f A w ⟨e0,e1,_⟩ hr=>do_put e0 e1 hr)
    |ix+13,h=>exact absurd h (by simp)
  intro f w7 hB hN _;have n17:=(hN 11 _ _ _ rfl (by simp)).2;rw [if_pos (by simp)] at n17;replace tt:=(tt.drew).keep hB;replace tu:=(tu.drew).keep hB;replace tr:=(tr.drew).keep hB;replace n6:=(n6.drew).keep hB;replace n7:=(n7.drew).keep hB;replace n8:=(n8.drew).keep hB;replace n9:=(n9.drew).keep hB;replace n10:=(n10.drew).keep hB;replace n11:=(n11.drew).keep hB;replace n12:=(n12.drew).keep hB;replace n13:=(n13.drew).keep hB;replace n14:=(n14.drew).keep hB;replace n15:=(n15.drew).keep hB;replace n16:=(n16.drew).keep hB;replace hb:=keepB hb.drew hb.size hB;clear hN hB;generalize f 11=q17 at*;replace n17:R1 w7 q17 mx:=n17;simp only [puts,List.foldl,Act.put,List.setIfInBounds_toArray,List.set_cons_zero,List.set_cons_succ];go_wp2
  refine pool_list [.val (.agg #[int u64 xx]),
    .val (.agg #[int u64 zz]),
    .val (.agg #[int u64 s1]),
    .val (.agg #[int u64 c3]),
    .val (.agg #[int u64 sl]),
    .new (.cells #[int u64 0] 167) (.cells #[int u64 sl] 167) 6,
    .put 5] [[8],[10],[72,73],[6],[74,75],[],[18,76]] (fun f=> [(some 72,.agg #[int u64 xx]),(some 73,.agg #[int u64 zz]),(some 74,.agg #[int u64 s1]),(some 75,.agg #[int u64 c3]),(some 76,.agg #[int u64 sl]),(some 18,.pointer (some ⟨f 5,0,none⟩)),(none,undef)]) (by kernel_rfl) (by kernel_rfl) (by kernel_rfl) (by kernel_rfl) (fun _=>by kernel_rfl) ?_ ?_
  · intro ix hix
    match ix,hix with
    |0,_=>exact obv [(8,.pointer (some ⟨q8,0,none⟩))] rfl rfl (fun A w ⟨e0,_⟩ hB=>do_loadN e0 n8.drew hB)
    |1,_=>exact obv [(10,.pointer (some ⟨q10,0,none⟩))] rfl rfl (fun A w ⟨e0,_⟩ hB=>do_loadN e0 n10.drew hB)
    |2,_=>exact obv [(72,.agg #[int u64 xx]),(73,.agg #[int u64 zz])] rfl rfl (fun A w ⟨e0,e1,_⟩ hB=>do_call2 cf_minus e0 e1 (K_s1 w))
    |3,_=>exact obv [(6,.pointer (some ⟨q6,0,none⟩))] rfl rfl (fun A w ⟨e0,_⟩ hB=>do_loadN e0 n6.drew hB)
    |4,_=>exact obv [(74,.agg #[int u64 s1]),(75,.agg #[int u64 c3])] rfl rfl (fun A w ⟨e0,e1,_⟩ hB=>do_call2 cf_times e0 e1 (K_sl w))
    |5,_=>exact ob_new rfl rfl (fun A w=>do_new)
    |6,_=>exact ob_put 18 (fun f=> [(18,.pointer (some ⟨f 5,0,none⟩)),(76,.agg #[int u64 sl])]) rfl rfl rfl (by decide) (by kernel_rfl) rfl (fun _=>by kernel_rfl) (fun f A w ⟨e0,e1,_⟩ hr=>do_put e0 e1 hr)
    |ix+7,h=>exact absurd h (by simp)
  intro f w8 hB hN _;have n18:=(hN 5 _ _ _ rfl (by simp)).2;rw [if_pos (by simp)] at n18;replace tt:=(tt.drew).keep hB;replace tu:=(tu.drew).keep hB;replace tr:=(tr.drew).keep hB;replace n6:=(n6.drew).keep hB;replace n7:=(n7.drew).keep hB;replace n8:=(n8.drew).keep hB;replace n9:=(n9.drew).keep hB;replace n10:=(n10.drew).keep hB;replace n11:=(n11.drew).keep hB;replace n12:=(n12.drew).keep hB;replace n13:=(n13.drew).keep hB;replace n14:=(n14.drew).keep hB;replace n15:=(n15.drew).keep hB;replace n16:=(n16.drew).keep hB;replace n17:=(n17.drew).keep hB;replace hb:=keepB hb.drew hb.size hB;clear hN hB;generalize f 5=q18 at*;replace n18:R1 w8 q18 sl:=n18;simp only [puts,List.foldl,Act.put,List.setIfInBounds_toArray,List.set_cons_zero,List.set_cons_succ];go_wp2
  refine pool_tail [.val (.agg #[int u64 xy]),
    .val (.agg #[int u64 ab]),
    .val (.agg #[int u64 p1]),
    .val (.agg #[int u64 yz]),
    .val (.agg #[int u64 mx]),
    .val (.agg #[int u64 p2]),
    .val (.agg #[int u64 r0]),
    .val (.agg #[int u64 sl]),
    .val (.agg #[int u64 mx]),
    .val (.agg #[int u64 p3]),
    .val (.agg #[int u64 ab]),
    .val (.agg #[int u64 be]),
    .val (.agg #[int u64 p4]),
    .val (.agg #[int u64 r1]),
    .val (.agg #[int u64 yz]),
    .val (.agg #[int u64 be]),
    .val (.agg #[int u64 p5]),
    .val (.agg #[int u64 xy]),
    .val (.agg #[int u64 sl]),
    .val (.agg #[int u64 p6]),
    .val (.agg #[int u64 r2]),
    .val (.agg #[int u64 r0,int u64 r1,int u64 r2]),
    .val undef] [[11],[15],[77,78],[13],[17],[80,81],[79,82],[18],[17],[84,85],[15],[16],[87,88],[86,89],[13],[16],[91,92],[11],[18],[94,95],[93,96],[83,90,97],[4,98]] (fun f=> [(some 77,.agg #[int u64 xy]),(some 78,.agg #[int u64 ab]),(some 79,.agg #[int u64 p1]),(some 80,.agg #[int u64 yz]),(some 81,.agg #[int u64 mx]),(some 82,.agg #[int u64 p2]),(some 83,.agg #[int u64 r0]),(some 84,.agg #[int u64 sl]),(some 85,.agg #[int u64 mx]),(some 86,.agg #[int u64 p3]),(some 87,.agg #[int u64 ab]),(some 88,.agg #[int u64 be]),(some 89,.agg #[int u64 p4]),(some 90,.agg #[int u64 r1]),(some 91,.agg #[int u64 yz]),(some 92,.agg #[int u64 be]),(some 93,.agg #[int u64 p5]),(some 94,.agg #[int u64 xy]),(some 95,.agg #[int u64 sl]),(some 96,.agg #[int u64 p6]),(some 97,.agg #[int u64 r2]),(some 98,.agg #[int u64 r0,int u64 r1,int u64 r2])]) (fun f=> [(4,.pointer (some ⟨w.heap.size+1+1,0,none⟩)),(98,.agg #[int u64 r0,int u64 r1,int u64 r2])]) (by kernel_rfl) (by kernel_rfl) (by kernel_rfl) (by kernel_rfl) (by kernel_rfl) (fun _=>by kernel_rfl) ?_ rfl (fun _=>by kernel_rfl) ?_
  · intro ix hix
    match ix,hix with
    |0,_=>exact obv [(11,.pointer (some ⟨q11,0,none⟩))] rfl rfl (fun A w ⟨e0,_⟩ hB=>do_loadN e0 n11.drew hB)
    |1,_=>exact obv [(15,.pointer (some ⟨q15,0,none⟩))] rfl rfl (fun A w ⟨e0,_⟩ hB=>do_loadN e0 n15.drew hB)
    |2,_=>exact obv [(77,.agg #[int u64 xy]),(78,.agg #[int u64 ab])] rfl rfl (fun A w ⟨e0,e1,_⟩ hB=>do_call2 cf_times e0 e1 (K_p1 w))
    |3,_=>exact obv [(13,.pointer (some ⟨q13,0,none⟩))] rfl rfl (fun A w ⟨e0,_⟩ hB=>do_loadN e0 n13.drew hB)
    |4,_=>exact obv [(17,.pointer (some ⟨q17,0,none⟩))] rfl rfl (fun A w ⟨e0,_⟩ hB=>do_loadN e0 n17.drew hB)
    |5,_=>exact obv [(80,.agg #[int u64 yz]),(81,.agg #[int u64 mx])] rfl rfl (fun A w ⟨e0,e1,_⟩ hB=>do_call2 cf_times e0 e1 (K_p2 w))
    |6,_=>exact obv [(79,.agg #[int u64 p1]),(82,.agg #[int u64 p2])] rfl rfl (fun A w ⟨e0,e1,_⟩ hB=>do_call2 cf_minus e0 e1 (K_r0 w))
    |7,_=>exact obv [(18,.pointer (some ⟨q18,0,none⟩))] rfl rfl (fun A w ⟨e0,_⟩ hB=>do_loadN e0 n18.drew hB)
    |8,_=>exact obv [(17,.pointer (some ⟨q17,0,none⟩))] rfl rfl (fun A w ⟨e0,_⟩ hB=>do_loadN e0 n17.drew hB)
    |9,_=>exact obv [(84,.agg #[int u64 sl]),(85,.agg #[int u64 mx])] rfl rfl (fun A w ⟨e0,e1,_⟩ hB=>do_call2 cf_times e0 e1 (K_p3 w))
    |10,_=>exact obv [(15,.pointer (some ⟨q15,0,none⟩))] rfl rfl (fun A w ⟨e0,_⟩ hB=>do_loadN e0 n15.drew hB)
    |11,_=>exact obv [(16,.pointer (some ⟨q16,0,none⟩))] rfl rfl (fun A w ⟨e0,_⟩ hB=>do_loadN e0 n16.drew hB)
    |12,_=>exact obv [(87,.agg #[int u64 ab]),(88,.agg #[int u64 be])] rfl rfl (fun A w ⟨e0,e1,_⟩ hB=>do_call2 cf_times e0 e1 (K_p4 w))
    |13,_=>exact obv [(86,.agg #[int u64 p3]),(89,.agg #[int u64 p4])] rfl rfl (fun A w ⟨e0,e1,_⟩ hB=>do_call2 cf_plus e0 e1 (K_r1 w))
    |14,_=>exact obv [(13,.pointer (some ⟨q13,0,none⟩))] rfl rfl (fun A w ⟨e0,_⟩ hB=>do_loadN e0 n13.drew hB)
    |15,_=>exact obv [(16,.pointer (some ⟨q16,0,none⟩))] rfl rfl (fun A w ⟨e0,_⟩ hB=>do_loadN e0 n16.drew hB)
    |16,_=>exact obv [(91,.agg #[int u64 yz]),(92,.agg #[int u64 be])] rfl rfl (fun A w ⟨e0,e1,_⟩ hB=>do_call2 cf_times e0 e1 (K_p5 w))
    |17,_=>exact obv [(11,.pointer (some ⟨q11,0,none⟩))] rfl rfl (fun A w ⟨e0,_⟩ hB=>do_loadN e0 n11.drew hB)
    |18,_=>exact obv [(18,.pointer (some ⟨q18,0,none⟩))] rfl rfl (fun A w ⟨e0,_⟩ hB=>do_loadN e0 n18.drew hB)
    |19,_=>exact obv [(94,.agg #[int u64 xy]),(95,.agg #[int u64 sl])] rfl rfl (fun A w ⟨e0,e1,_⟩ hB=>do_call2 cf_times e0 e1 (K_p6 w))
    |20,_=>exact obv [(93,.agg #[int u64 p5]),(96,.agg #[int u64 p6])] rfl rfl (fun A w ⟨e0,e1,_⟩ hB=>do_call2 cf_plus e0 e1 (K_r2 w))
    |21,_=>exact obv [(83,.agg #[int u64 r0]),(90,.agg #[int u64 r1]),(97,.agg #[int u64 r2])] rfl rfl (fun A w ⟨e0,e1,e2,_⟩ hB=>do_build e0 e1 e2)
    |ix+22,h=>exact absurd h (by simp)
  rintro f A w9 ⟨e0,e1,_⟩ hB _;replace tr:=(tr.drew).keep hB;replace hb:=keepB hb.drew hb.size hB;refine does_skip (exec_storeT e0 e1 tr) ?_;simp only [puts,List.foldl,Act.put,List.setIfInBounds_toArray,List.set_cons_zero,List.set_cons_succ];go_wp2;exact bodyPost_ret (v:= .agg #[int u64 r0,int u64 r1,int u64 r2]) (trip_res (fn:=Tryz.f170) (p:=4) results170 _ rfl (tr.set r0 r1 r2)) rfl ⟨rfl,setT_below hb (by omega)⟩
def nth3 (x y z:Int):Nat→Int
  |0=>x
  |1=>y
  |_=>z
theorem T3.nth {W:World}{b:Nat}{x y z:Int}(h:T3 W b x y z){i:Nat}(hi:i<3):W.cell? ⟨b,i,none⟩=some (int u64 (nth3 x y z i)):=by
  match i,hi with
  |0,_=>exact h.c0
  |1,_=>exact h.c1
  |2,_=>exact h.c2
theorem crs_of (X1 Y1 Z1 X2 Y2 Z2 ti tj ui uj a b c:Int)(i j:Nat)(hi:i<3)(hj:j<3)(w:World)
    (eti:nth3 X1 Y1 Z1 i=ti)(etj:nth3 X1 Y1 Z1 j=tj)(eui:nth3 X2 Y2 Z2 i=ui)(euj:nth3 X2 Y2 Z2 j=uj)
    (Ka:CalN 116 #[.agg #[int u64 ti],.agg #[int u64 uj]] a)(Kb:CalN 116 #[.agg #[int u64 tj],.agg #[int u64 ui]] b)(Kc:CalN 168 #[.agg #[int u64 a],.agg #[int u64 b]] c):
    Cr 202 #[.agg #[int u64 X1,int u64 Y1,int u64 Z1],.agg #[int u64 X2,int u64 Y2,int u64 Z2],.int .i64 (i:Int),.int .i64 (j:Int)] w (.agg #[int u64 c]):=by
  obtain⟨X,hX⟩:∃X,X=((w.alloc (Obj.cells #[int u64 X1,int u64 Y1,int u64 Z1] 172)).alloc (Obj.cells #[int u64 X2,int u64 Y2,int u64 Z2] 172)).alloc (Obj.cells #[int u64 0] 167):=⟨_,rfl⟩;have tt:T3 X w.heap.size X1 Y1 Z1:=by rw [hX];exact((T3.new w X1 Y1 Z1).alloc _).alloc _
  have tu:T3 X (w.heap.size+1) X2 Y2 Z2:=by rw [hX];exact((T3.new _ X2 Y2 Z2).at (by simp)).alloc _
  have tr:R1 X (w.heap.size+1+1) 0:=by rw [hX];exact(R1.new _ 0).at (by simp)
  have hb:Bl w X:=by rw [hX];exact(((Below.refl _ w).alloc (Nat.le_refl _) _).alloc (by simp) _).alloc (by simp;omega) _
  have h1:X.drew.cell? ⟨w.heap.size,i,none⟩=some (int u64 ti):=eti▸tt.drew.nth hi;have h2:X.drew.cell? ⟨w.heap.size,j,none⟩=some (int u64 tj):=etj▸tt.drew.nth hj;have h3:X.drew.cell? ⟨w.heap.size+1,i,none⟩=some (int u64 ui):=eui▸tu.drew.nth hi;have h4:X.drew.cell? ⟨w.heap.size+1,j,none⟩=some (int u64 uj):=euj▸tu.drew.nth hj;rw [hX] at tr hb h1 h2 h3 h4;clear hX tt tu eti etj eui euj;go_enter func202,ntmps202;go_wp2
  refine pool_tail [.val (.int .i64 (i:Int)),
    .val (.pointer (some ⟨w.heap.size,i,none⟩)),
    .val (.agg #[int u64 ti]),
    .val (.int .i64 (j:Int)),
    .val (.pointer (some ⟨w.heap.size+1,j,none⟩)),
    .val (.agg #[int u64 uj]),
    .val (.agg #[int u64 a]),
    .val (.int .i64 (j:Int)),
    .val (.pointer (some ⟨w.heap.size,j,none⟩)),
    .val (.agg #[int u64 tj]),
    .val (.int .i64 (i:Int)),
    .val (.pointer (some ⟨w.heap.size+1,i,none⟩)),
    .val (.agg #[int u64 ui]),
    .val (.agg #[int u64 b]),
    .val (.agg #[int u64 c]),
    .val undef] [[2],[4,9],[10],[3],[5,12],[13],[11,14],[3],[4,16],[17],[2],[5,19],[20],[18,21],[15,22],[8,23]] (fun f=> [(some 9,.int .i64 (i:Int)),(some 10,.pointer (some ⟨w.heap.size,i,none⟩)),(some 11,.agg #[int u64 ti]),(some 12,.int .i64 (j:Int)),(some 13,.pointer (some ⟨w.heap.size+1,j,none⟩)),(some 14,.agg #[int u64 uj]),(some 15,.agg #[int u64 a]),(some 16,.int .i64 (j:Int)),(some 17,.pointer (some ⟨w.heap.size,j,none⟩)),(some 18,.agg #[int u64 tj]),(some 19,.int .i64 (i:Int)),(some 20,.pointer (some ⟨w.heap.size+1,i,none⟩)),(some 21,.agg #[int u64 ui]),(some 22,.agg #[int u64 b]),(some 23,.agg #[int u64 c])]) (fun f=> [(8,.pointer (some ⟨w.heap.size+1+1,0,none⟩)),(23,.agg #[int u64 c])]) (by kernel_rfl) (by kernel_rfl) (by kernel_rfl) (by kernel_rfl) (by kernel_rfl) (fun _=>by kernel_rfl) ?_ rfl (fun _=>by kernel_rfl) ?_
  · intro ix hix
    match ix,hix with
    |0,_=>exact obv [(2,.int .i64 (i:Int))] rfl rfl (fun A w ⟨e0,_⟩ hB=>do_move e0)
    |1,_=>exact obv [(4,.pointer (some ⟨w.heap.size,0,none⟩)),(9,.int .i64 (i:Int))] rfl rfl (fun A w ⟨e0,e1,_⟩ hB=>do_idxT hi e0 e1)
    |2,_=>exact obv [(10,.pointer (some ⟨w.heap.size,i,none⟩))] rfl rfl (fun A w ⟨e0,_⟩ hB=>do_loadC e0 h1 hB)
    |3,_=>exact obv [(3,.int .i64 (j:Int))] rfl rfl (fun A w ⟨e0,_⟩ hB=>do_move e0)
    |4,_=>exact obv [(5,.pointer (some ⟨w.heap.size+1,0,none⟩)),(12,.int .i64 (j:Int))] rfl rfl (fun A w ⟨e0,e1,_⟩ hB=>do_idxT hj e0 e1)
    |5,_=>exact obv [(13,.pointer (some ⟨w.heap.size+1,j,none⟩))] rfl rfl (fun A w ⟨e0,_⟩ hB=>do_loadC e0 h4 hB)
    |6,_=>exact obv [(11,.agg #[int u64 ti]),(14,.agg #[int u64 uj])] rfl rfl (fun A w ⟨e0,e1,_⟩ hB=>do_call2 cf_times e0 e1 (Ka w))
    |7,_=>exact obv [(3,.int .i64 (j:Int))] rfl rfl (fun A w ⟨e0,_⟩ hB=>do_move e0)
    |8,_=>exact obv [(4,.pointer (some ⟨w.heap.size,0,none⟩)),(16,.int .i64 (j:Int))] rfl rfl (fun A w ⟨e0,e1,_⟩ hB=>do_idxT hj e0 e1)
    |9,_=>exact obv [(17,.pointer (some ⟨w.heap.size,j,none⟩))] rfl rfl (fun A w ⟨e0,_⟩ hB=>do_loadC e0 h2 hB)
    |10,_=>exact obv [(2,.int .i64 (i:Int))] rfl rfl (fun A w ⟨e0,_⟩ hB=>do_move e0)
    |11,_=>exact obv [(5,.pointer (some ⟨w.heap.size+1,0,none⟩)),(19,.int .i64 (i:Int))] rfl rfl (fun A w ⟨e0,e1,_⟩ hB=>do_idxT hi e0 e1)
    |12,_=>exact obv [(20,.pointer (some ⟨w.heap.size+1,i,none⟩))] rfl rfl (fun A w ⟨e0,_⟩ hB=>do_loadC e0 h3 hB)
    |13,_=>exact obv [(18,.agg #[int u64 tj]),(21,.agg #[int u64 ui])] rfl rfl (fun A w ⟨e0,e1,_⟩ hB=>do_call2 cf_times e0 e1 (Kb w))
    |14,_=>exact obv [(15,.agg #[int u64 a]),(22,.agg #[int u64 b])] rfl rfl (fun A w ⟨e0,e1,_⟩ hB=>do_call2 cf_plus e0 e1 (Kc w))
    |ix+15,h=>exact absurd h (by simp)
  rintro f A w9 ⟨e0,e1,_⟩ hB _;replace tr:=(tr.drew).keep hB;replace hb:=keepB hb.drew hb.size hB;refine does_skip (exec_store e0 e1 tr) ?_;simp only [puts,List.foldl,Act.put,List.setIfInBounds_toArray,List.set_cons_zero,List.set_cons_succ];go_wp2;exact bodyPost_ret (v:= .agg #[int u64 c]) (num_res (fn:=Tryz.f202) (p:=8) results202 _ rfl (tr.set c)) rfl ⟨rfl,hb.setCell (p:=⟨w.heap.size+1+1,0,none⟩) (by simp;omega) _⟩
theorem crV (X1 Y1 Z1 X2 Y2 Z2 a b c d:Fp)(i j:Nat)(hi:i<3)(hj:j<3)(h1:nth3 (fv X1) (fv Y1) (fv Z1) i=fv a)(h2:nth3 (fv X1) (fv Y1) (fv Z1) j=fv b)(h3:nth3 (fv X2) (fv Y2) (fv Z2) i=fv c)(h4:nth3 (fv X2) (fv Y2) (fv Z2) j=fv d):
    CalN 202 #[.agg #[int u64 (fv X1),int u64 (fv Y1),int u64 (fv Z1)],.agg #[int u64 (fv X2),int u64 (fv Y2),int u64 (fv Z2)],.int .i64 (i:Int),.int .i64 (j:Int)] (fv (a*d+b*c)):=fun w=>
  crs_of _ _ _ _ _ _ (fv a) (fv b) (fv c) (fv d) (fv (a*d)) (fv (b*c)) (fv (a*d+b*c)) i j hi hj w h1 h2 h3 h4 (tmV a d) (tmV b c) (plV _ _)
end
end Go.Proofs.YtjhbckngdclleaaGreatDoor
