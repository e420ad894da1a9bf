import Derived.Test.YtjhbckngdclleaaGreatDoorMrg28
set_option linter.unusedVariables false
set_option maxRecDepth 100000
set_option maxHeartbeats 16000000
namespace Go.Proofs.YtjhbckngdclleaaGreatDoor
open Go.Proofs.Tryz Go.RowKit
open Go.Value (int)
open Go.IntKind (u64)
theorem nmI (s:ByteArray)(w:World):Calls prog 103 #[.string s] w fun e w'=>e= .returned (.bool (nameB s))∧w=w':=by
  by_cases h1:(1:Int)≤(s.size:Int)
  · by_cases h2:(s.size:Int)≤32
    · have e:nameB s=true:=decide_eq_true (by omega);rw [e];go_enter func103,ntmps103;go_wp2;go_ret;exact⟨rfl,rfl⟩
    · have e:nameB s=false:=decide_eq_false (by omega);rw [e];go_enter func103,ntmps103;go_wp2;go_ret;exact⟨rfl,rfl⟩
  · have e:nameB s=false:=decide_eq_false (by omega);rw [e];go_enter func103,ntmps103;go_wp2;go_ret;exact⟨rfl,rfl⟩
section
variable {A:Act}{w:World}{dst:Option Tmp}{ty:TypeId}{ps:String}{af:Array Edge}{gd:Option (Nat×Bool)}{x y:Operand}{b i:Nat}
theorem doV_move {u:Value}(hx:A.eval x=u):
    Does prog (Opr dst (.move x) ty ps af gd) A w fun v' w'=>v'=u∧Bl w w':=dv (by generalize A.eval=ev at*;simp [execOp,hx,go_sem])
theorem doV_assign {u:Value}(hx:A.eval x=u):
    Does prog (Opr dst (.assign x) ty ps af gd) A w fun v' w'=>v'=u∧Bl w w':=dv (by generalize A.eval=ev at*;simp [execOp,hx,go_sem])
theorem ld_cp {v0 v1 v2:Value}(hx:A.eval x= .pointer (some ⟨b,i,none⟩))(h0:w.cell? ⟨b,i,none⟩=some v0)(h1:w.cell? ⟨b,i+1,none⟩=some v1)(h2:w.cell? ⟨b,i+2,none⟩=some v2):
    Does prog (Opr dst (.load 101 x) ty ps af gd) A w fun v' w'=>v'= .agg #[v0,v1,v2]∧Bl w w':=dv (by generalize A.eval=ev at*;simp [execOp,hx,h0,h1,h2,go_sem])
theorem cl0 {F:FuncId}{at_:Array TypeId}{r:Value}(hcf:∀(args:Array Value) (w:World),(callFunc F args).run prog w= .ok (.enter F args) w)
    (hc:Cr F #[] w r):
    Does prog (Opr dst (.call {callee:= .value (.func F),args:=#[],argTypes:=at_}) ty ps af gd) A w fun v' w'=>v'=r∧Bl w w':=by
  have hF:A.eval (.func F)= .func (.func F) #[] #[]:=rfl;have h:(execOp A.eval (Opr dst (.call {callee:= .value (.func F),args:=#[],argTypes:=at_}) ty ps af gd)).run prog w= .ok (.enter F #[]) w:=by generalize A.eval=ev at*;simp [execOp,hF,hcf,go_sem]
  exact does_call h (hc.mono fun _ _ ⟨h,h'⟩=>⟨r,h,rfl,h'⟩)
theorem cl1 {F:FuncId}{at_:Array TypeId}{r:Value}{x0:Operand}{u0:Value}(hcf:∀(args:Array Value) (w:World),(callFunc F args).run prog w= .ok (.enter F args) w)(h0:A.eval x0=u0)
    (hc:Cr F #[u0] w r):
    Does prog (Opr dst (.call {callee:= .value (.func F),args:=#[x0],argTypes:=at_}) ty ps af gd) A w fun v' w'=>v'=r∧Bl w w':=by
  have hF:A.eval (.func F)= .func (.func F) #[] #[]:=rfl;have h:(execOp A.eval (Opr dst (.call {callee:= .value (.func F),args:=#[x0],argTypes:=at_}) ty ps af gd)).run prog w= .ok (.enter F #[u0]) w:=by generalize A.eval=ev at*;simp [execOp,hF,hcf,h0,go_sem]
  exact does_call h (hc.mono fun _ _ ⟨h,h'⟩=>⟨r,h,rfl,h'⟩)
theorem cl2 {F:FuncId}{at_:Array TypeId}{r:Value}{x0 x1:Operand}{u0 u1:Value}(hcf:∀(args:Array Value) (w:World),(callFunc F args).run prog w= .ok (.enter F args) w)(h0:A.eval x0=u0)(h1:A.eval x1=u1)
    (hc:Cr F #[u0,u1] w r):
    Does prog (Opr dst (.call {callee:= .value (.func F),args:=#[x0,x1],argTypes:=at_}) ty ps af gd) A w fun v' w'=>v'=r∧Bl w w':=by
  have hF:A.eval (.func F)= .func (.func F) #[] #[]:=rfl;have h:(execOp A.eval (Opr dst (.call {callee:= .value (.func F),args:=#[x0,x1],argTypes:=at_}) ty ps af gd)).run prog w= .ok (.enter F #[u0,u1]) w:=by generalize A.eval=ev at*;simp [execOp,hF,hcf,h0,h1,go_sem]
  exact does_call h (hc.mono fun _ _ ⟨h,h'⟩=>⟨r,h,rfl,h'⟩)
theorem cl3 {F:FuncId}{at_:Array TypeId}{r:Value}{x0 x1 x2:Operand}{u0 u1 u2:Value}(hcf:∀(args:Array Value) (w:World),(callFunc F args).run prog w= .ok (.enter F args) w)(h0:A.eval x0=u0)(h1:A.eval x1=u1)(h2:A.eval x2=u2)
    (hc:Cr F #[u0,u1,u2] w r):
    Does prog (Opr dst (.call {callee:= .value (.func F),args:=#[x0,x1,x2],argTypes:=at_}) ty ps af gd) A w fun v' w'=>v'=r∧Bl w w':=by
  have hF:A.eval (.func F)= .func (.func F) #[] #[]:=rfl;have h:(execOp A.eval (Opr dst (.call {callee:= .value (.func F),args:=#[x0,x1,x2],argTypes:=at_}) ty ps af gd)).run prog w= .ok (.enter F #[u0,u1,u2]) w:=by generalize A.eval=ev at*;simp [execOp,hF,hcf,h0,h1,h2,go_sem]
  exact does_call h (hc.mono fun _ _ ⟨h,h'⟩=>⟨r,h,rfl,h'⟩)
theorem cl4 {F:FuncId}{at_:Array TypeId}{r:Value}{x0 x1 x2 x3:Operand}{u0 u1 u2 u3:Value}(hcf:∀(args:Array Value) (w:World),(callFunc F args).run prog w= .ok (.enter F args) w)(h0:A.eval x0=u0)(h1:A.eval x1=u1)(h2:A.eval x2=u2)(h3:A.eval x3=u3)
    (hc:Cr F #[u0,u1,u2,u3] w r):
    Does prog (Opr dst (.call {callee:= .value (.func F),args:=#[x0,x1,x2,x3],argTypes:=at_}) ty ps af gd) A w fun v' w'=>v'=r∧Bl w w':=by
  have hF:A.eval (.func F)= .func (.func F) #[] #[]:=rfl;have h:(execOp A.eval (Opr dst (.call {callee:= .value (.func F),args:=#[x0,x1,x2,x3],argTypes:=at_}) ty ps af gd)).run prog w= .ok (.enter F #[u0,u1,u2,u3]) w:=by generalize A.eval=ev at*;simp [execOp,hF,hcf,h0,h1,h2,h3,go_sem]
  exact does_call h (hc.mono fun _ _ ⟨h,h'⟩=>⟨r,h,rfl,h'⟩)
theorem pu_cp {z0:Int}{z1:Int}{z2:Bool}(hx:A.eval x= .pointer (some ⟨b,0,none⟩))(hy:A.eval y= .agg #[int u64 z0,int u64 z1,.bool z2])(hr:w.heap[b]? =some (.cells #[int u64 0,int u64 0,.bool false] 101)):
    Does prog (Opr dst (.store 101 x y) ty ps af gd) A w fun _ w'=>Turned b (.cells #[int u64 z0,int u64 z1,.bool z2] 101) w w':=by
  have c0:w.cell? ⟨b,0,none⟩=some (int u64 0):=by simp [World.cell?,hr]
  have c1:w.cell? ⟨b,1,none⟩=some (int u64 0):=by simp [World.cell?,hr]
  have c2:w.cell? ⟨b,2,none⟩=some (.bool false):=by simp [World.cell?,hr]
  have hf:∀k,w.frozen? ⟨b,k,none⟩=false:=fun k=>by simp [World.frozen?,hr]
  have h:(execOp A.eval (Opr dst (.store 101 x y) ty ps af gd)).run prog w= .ok .skip (((w.setCell ⟨b,0,none⟩ (int u64 z0)).setCell ⟨b,1,none⟩ (int u64 z1)).setCell ⟨b,2,none⟩ (.bool z2)):=by generalize A.eval=ev at*;simp [execOp,hx,hy,hf,c0,c1,c2,go_sem]
  refine does_skip h ⟨rfl,rfl,rfl,by simp [World.setCell],by simp [World.setCell,Array.getElem?_modify,hr],fun k hk=> ?_⟩;simp [World.setCell,Array.getElem?_modify,Ne.symm hk]
end
end Go.Proofs.YtjhbckngdclleaaGreatDoor
