import Derived.Test.YtjhbckngdclleaaGreatDoorMrg35
import Derived.Test.YtjhbckngdclleaaGreatDoorMrg28
set_option linter.unusedVariables false
set_option maxRecDepth 100000
set_option maxHeartbeats 16000000
namespace Go.Proofs.YtjhbckngdclleaaGreatDoor
open Go.Proofs.Tryz Go.RowKit
open Go.Value (int)
open Go.IntKind (u64)
section
open M
theorem fndW (x y:Nat)(c:Bool)(w:World):
    Cr 60 #[.agg #[int u64 x,int u64 y,.bool c]] w (.tuple #[.agg #[int u64 (px (asPt x y c)),int u64 (py (asPt x y c)),.bool (pb (asPt x y c))],.bool (toPt x y c).isSome]):=by
  have:=fndV x y c w;rwa [ptW_eq] at this
end
section
variable {A:Act}{w:World}{dst:Option Tmp}{ty:TypeId}{ps:String}{af:Array Edge}{gd:Option (Nat×Bool)}{x y:Operand}{b i:Nat}
theorem Z.notT (hx:A.eval x= .bool true):
    Does prog (Opr dst (.unOp .not 4 x) ty ps af gd) A w fun v' w'=>v'= .bool false∧Bl w w':=dv (by generalize A.eval=ev at*;simp [execOp,hx,go_sem])
theorem Z.pkF {u:Value}{z:Operand}(hx:A.eval x= .bool false)(hz:A.eval z=u):
    Does prog (Opr dst (.pick x y z) ty ps af gd) A w fun v' w'=>v'=u∧Bl w w':=dv (by generalize A.eval=ev at*;simp [execOp,hx,hz,go_sem])
end
section
open M
theorem rep_point {X Y Z:Fp}:∀{p:Pt},rep X Y Z p→(p=none∧Z=0)∨(Z≠0∧p=some (X*fi Z,Y*fi Z))
  |none,⟨l,_,_,_,hZ⟩=> .inl ⟨rfl,by rw [hZ];show l*0=0;grobner⟩
  | some (x,y),⟨l,hl,hX,hY,hZ⟩=>by
    have e:Z=l:=by rw [hZ];show l*1=l;grobner
    subst e;have hf:=fi_mul hl;refine .inr ⟨hl,?_⟩
    have h1:X*fi Z=x:=by
      have:X=Z*x:=hX
      grobner
    have h2:Y*fi Z=y:=by
      have:Y=Z*y:=hY
      grobner
    rw [h1,h2]
theorem pntV {X Y Z:Fp}{p:Pt}(h:rep X Y Z p)(w:World):
    Cr 120 #[.agg #[int u64 (fv X),int u64 (fv Y),int u64 (fv Z)]] w (ptW p):=by
  rcases rep_point h with ⟨rfl,hz⟩|⟨hz,rfl⟩
  · exact pntP_no X Y Z w (by rw [fv_zero];simp [hz])
  · exact pntP_yes X Y Z w (by rw [fv_zero];simp [hz])
end
end Go.Proofs.YtjhbckngdclleaaGreatDoor
