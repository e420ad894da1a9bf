import Derived.Test.YtjhbckngdclleaaGreatDoorMrg31
set_option linter.unusedVariables false
set_option maxRecDepth 100000
set_option maxHeartbeats 16000000
namespace Go.Proofs.YtjhbckngdclleaaGreatDoor
open Go.Proofs.Tryz Go.RowKit
open Go.Value (int)
open Go.IntKind (u64)
section
open M
theorem elT_on {t:Tri}(h:elT t=true):onT t=true:=by unfold elT at h;simp at h;exact h.1
theorem triW_px {t:Tri}(h:onT t=true):(t.1:Int)=px (asT t)∧(t.2.1:Int)=py (asT t)∧t.2.2=pb (asT t):=by
  have e:=triW_of h;rw [ptW_eq] at e;unfold triW at e;simpa using e
theorem elT_nz {t:Tri}(h:elT t=true):asT t≠none:=by
  intro e;have h2:=(triW_px (elT_on h)).2.2;rw [e] at h2;unfold elT at h;simp at h;rw [h.2] at h2;cases h2
end
theorem exP_less (x:Int)(w:World)(h1:x<2305843009213693951):
    Cr 115 #[int u64 x,.agg #[]] w (.tuple #[.agg #[int u64 x],.bool true]):=by
  have hm:=methP;have hbd:=foldP;go_enter func115,ntmps115;go_wp2_with fail;refine(valP _).mono ?_;rintro e w' ⟨rfl,rfl⟩;go_wp2;refine bodyPost_ret (v:= .tuple #[.agg #[int u64 x],.bool true]) (by simp [results,results115,go_sem]) rfl ⟨rfl,?_⟩;exact(((Below.refl _ w).alloc (Nat.le_refl _) _).alloc (by simp) _).alloc (by simp;omega) _
theorem exP_more (x:Int)(w:World)(h1:2305843009213693951≤x):
    Cr 115 #[int u64 x,.agg #[]] w (.tuple #[.agg #[int u64 0],.bool false]):=by
  have hm:=methP;go_enter func115,ntmps115;go_wp2_with fail;refine(valP _).mono ?_;rintro e w' ⟨rfl,rfl⟩;go_wp2;refine bodyPost_ret (v:= .tuple #[.agg #[int u64 0],.bool false]) (by simp [results,results115,go_sem]) rfl ⟨rfl,?_⟩;exact(((Below.refl _ w).alloc (Nat.le_refl _) _).alloc (by simp) _).alloc (by simp;omega) _
section
open M
def T3 (W:World)(b:Nat)(x y z:Int):Prop:=W.heap[b]? =some (.cells #[int u64 x,int u64 y,int u64 z] 172)
section
variable {W W':World}{b:Nat}{x y z:Int}
theorem T3.c0 (h:T3 W b x y z):W.cell? ⟨b,0,none⟩=some (int u64 x):=by unfold T3 at h;simp [World.cell?,h]
theorem T3.c1 (h:T3 W b x y z):W.cell? ⟨b,1,none⟩=some (int u64 y):=by unfold T3 at h;simp [World.cell?,h]
theorem T3.c2 (h:T3 W b x y z):W.cell? ⟨b,2,none⟩=some (int u64 z):=by unfold T3 at h;simp [World.cell?,h]
theorem T3.frz (h:T3 W b x y z)(i:Nat):W.frozen? ⟨b,i,none⟩=false:=by unfold T3 at h;simp [World.frozen?,h]
theorem T3.lt (h:T3 W b x y z):b<W.heap.size:=(Array.getElem?_eq_some_iff.1 h).1
theorem T3.below {N:Nat}(h:T3 W b x y z)(hb:Below N W W')(hl:b<N):T3 W' b x y z:=(hb.block b hl).trans h
theorem T3.keep (h:T3 W b x y z)(hb:Bl W W'):T3 W' b x y z:=h.below hb h.lt
theorem T3.new (w:World)(x y z:Int):T3 (w.alloc (.cells #[int u64 x,int u64 y,int u64 z] 172)) w.heap.size x y z:=heap_alloc_new w _
theorem T3.alloc (h:T3 W b x y z)(o:Obj):T3 (W.alloc o) b x y z:=(Below.heap_alloc W o b h.lt).trans h
theorem T3.drew (h:T3 W b x y z):T3 W.drew b x y z:=h
theorem T3.at {b':Nat}(h:T3 W b x y z)(e:b=b'):T3 W b' x y z:=e▸h
theorem T3.range (h:T3 W b x y z):W.rangeAt b 0 [int u64 x,int u64 y,int u64 z]:=fun j v hj=>by
  match j,hj with
  |0,hj=>cases hj;exact h.c0
  |1,hj=>cases hj;exact h.c1
  |2,hj=>cases hj;exact h.c2
def setT (W:World)(b:Nat)(x y z:Int):World:=((W.setCell ⟨b,0,none⟩ (int u64 x)).setCell ⟨b,1,none⟩ (int u64 y)).setCell ⟨b,2,none⟩ (int u64 z)
theorem T3.set (h:T3 W b x y z)(x' y' z':Int):T3 (setT W b x' y' z') b x' y' z':=by
  unfold T3 setT at*;simp [World.setCell,Array.getElem?_modify,h]
theorem T3.other {b':Nat}(h:T3 W b x y z)(hne:b≠b')(x' y' z':Int):T3 (setT W b' x' y' z') b x y z:=by
  unfold T3 setT at*;rw [←h];simp [World.setCell,Array.getElem?_modify,Ne.symm hne]
theorem setT_below {N:Nat}{w:World}(h:Below N w W)(hb:N≤b):Below N w (setT W b x y z):=
  ((h.setCell (p:=⟨b,0,none⟩) hb _).setCell (p:=⟨b,1,none⟩) hb _).setCell (p:=⟨b,2,none⟩) hb _
theorem trip_res {fn:Func}{p:Tmp}(h:fn.results=#[.cell p 172])(tmps:Array Value)(hp:tmps.getD p undef= .pointer (some ⟨b,0,none⟩))(hc:T3 W b x y z):
    (results fn tmps).run prog W= .ok (.agg #[int u64 x,int u64 y,int u64 z]) W:=
  results_mid h tmps W b 0 [int u64 x,int u64 y,int u64 z] _ hp hc.range underlying172 rfl (by kernel_rfl)
end
section
variable {ev:Operand→Value}{w:World}{dst:Option Tmp}{ty:TypeId}{ps:String}{af:Array Edge}{gd:Option (Nat×Bool)}{x y:Operand}{b i:Nat}
theorem exec_idx {k:Nat}(hk:k<3)(hx:ev x= .pointer (some ⟨b,0,none⟩))(hy:ev (.const (.int .i64 (k:Int)))= .int .i64 (k:Int)):
    (execOp ev (Opr dst (.indexAddr 172 x (.const (.int .i64 (k:Int)))) ty ps af gd)).run prog w= .ok (.value (.pointer (some ⟨b,k,none⟩))) w:=by
  have h1:(0:Int)≤(k:Int):=by omega
  have h2:(k:Int)<3:=by omega
  simp [execOp,hx,hy,h2,go_sem]
theorem exec_idxT {k:Nat}(hk:k<3)(hx:ev x= .pointer (some ⟨b,0,none⟩))(hy:ev y= .int .i64 (k:Int)):
    (execOp ev (Opr dst (.indexAddr 172 x y) ty ps af gd)).run prog w= .ok (.value (.pointer (some ⟨b,k,none⟩))) w:=by
  have h2:(k:Int)<3:=by omega
  simp [execOp,hx,hy,h2,go_sem]
theorem exec_loadT {X Y Z:Int}(hx:ev x= .pointer (some ⟨b,0,none⟩))(h0:w.cell? ⟨b,0,none⟩=some (int u64 X))(h1:w.cell? ⟨b,1,none⟩=some (int u64 Y))(h2:w.cell? ⟨b,2,none⟩=some (int u64 Z)):
    (execOp ev (Opr dst (.load 172 x) ty ps af gd)).run prog w= .ok (.value (.agg #[int u64 X,int u64 Y,int u64 Z])) w:=by
  simp [execOp,hx,h0,h1,h2,go_sem]
theorem exec_storeT {X Y Z X0 Y0 Z0:Int}(hx:ev x= .pointer (some ⟨b,0,none⟩))(hy:ev y= .agg #[int u64 X,int u64 Y,int u64 Z])(hr:T3 w b X0 Y0 Z0):
    (execOp ev (Opr dst (.store 172 x y) ty ps af gd)).run prog w= .ok .skip (setT w b X Y Z):=by
  have h1:=hr.c0;have h2:=hr.c1;have h3:=hr.c2;have h4:=hr.frz;simp [execOp,hx,hy,h1,h2,h3,h4,go_sem,setT]
theorem exec_build3 {x3:Operand}{X Y Z:Int}(hx:ev x= .agg #[int u64 X])(hy:ev y= .agg #[int u64 Y])(hz:ev x3= .agg #[int u64 Z]):
    (execOp ev (Opr dst (.build 172 #[(0,x),(1,y),(2,x3)]) ty ps af gd)).run prog w= .ok (.value (.agg #[int u64 X,int u64 Y,int u64 Z])) w:=by
  simp [execOp,hx,hy,hz,go_sem]
theorem cf_crossed (args:Array Value)(w:World):(callFunc 202 args).run prog w= .ok (.enter 202 args) w:=by kernel_rfl
end
section
variable {A:Act}{w W0:World}{dst:Option Tmp}{ty:TypeId}{ps:String}{af:Array Edge}{gd:Option (Nat×Bool)}{x y x3 x4:Operand}{b i:Nat}
theorem do_loadT {X Y Z:Int}(hx:A.eval x= .pointer (some ⟨b,0,none⟩))(hr:T3 W0 b X Y Z)(hB:Bl W0 w):
    Does prog (Opr dst (.load 172 x) ty ps af gd) A w fun v' w'=>v'= .agg #[int u64 X,int u64 Y,int u64 Z]∧Bl w w':=
  does_value (exec_loadT hx (hr.keep hB).c0 (hr.keep hB).c1 (hr.keep hB).c2) ⟨rfl,Below.refl _ _⟩
theorem do_idx {k:Nat}(hk:k<3)(hx:A.eval x= .pointer (some ⟨b,0,none⟩)):
    Does prog (Opr dst (.indexAddr 172 x (.const (.int .i64 (k:Int)))) ty ps af gd) A w fun v' w'=>v'= .pointer (some ⟨b,k,none⟩)∧Bl w w':=
  by
  have h:=exec_idx (ev:=A.eval) (w:=w) (dst:=dst) (ty:=ty) (ps:=ps) (af:=af) (gd:=gd) hk hx rfl;exact does_value h ⟨rfl,Below.refl _ _⟩
theorem do_idxT {k:Nat}(hk:k<3)(hx:A.eval x= .pointer (some ⟨b,0,none⟩))(hy:A.eval y= .int .i64 (k:Int)):
    Does prog (Opr dst (.indexAddr 172 x y) ty ps af gd) A w fun v' w'=>v'= .pointer (some ⟨b,k,none⟩)∧Bl w w':=by
  have h:=exec_idxT (ev:=A.eval) (w:=w) (dst:=dst) (ty:=ty) (ps:=ps) (af:=af) (gd:=gd) hk hx hy;exact does_value h ⟨rfl,Below.refl _ _⟩
theorem do_build {X Y Z:Int}(hx:A.eval x= .agg #[int u64 X])(hy:A.eval y= .agg #[int u64 Y])(hz:A.eval x3= .agg #[int u64 Z]):
    Does prog (Opr dst (.build 172 #[(0,x),(1,y),(2,x3)]) ty ps af gd) A w fun v' w'=>v'= .agg #[int u64 X,int u64 Y,int u64 Z]∧Bl w w':=by
  have h:=exec_build3 (w:=w) (dst:=dst) (ty:=ty) (ps:=ps) (af:=af) (gd:=gd) hx hy hz;exact does_value h ⟨rfl,Below.refl _ _⟩
end
end
end Go.Proofs.YtjhbckngdclleaaGreatDoor
