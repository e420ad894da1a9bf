import Derived.Test.YtmjniccfjffclaaGreatDoorMrg23
set_option linter.unusedVariables false
set_option maxRecDepth 100000
set_option maxHeartbeats 16000000
namespace Go.Proofs.YtmjniccfjffclaaGreatDoor
open Go.Proofs.Tryz Go.RowKit
open Go.Value (int)
open Go.IntKind (u64)
namespace M
def mS (u:Fp):Fp:=2305843009213693949*(u*u)
def mT (u:Fp):Fp:=mS u*mS u+mS u
def mX (u:Fp):Fp:=if mT u=0 then 111*fi (2305843009213693949*2305843009213693948) else (2305843009213693840*fi 2305843009213693948)*(1+fi (mT u))
theorem c2:(2305843009213693949:Fp)= -2:=by decide
theorem c3:(2305843009213693948:Fp)= -3:=by decide
theorem c111:(2305843009213693840:Fp)= -111:=by decide
theorem c6:(2305843009213693949*2305843009213693948:Fp)=6:=by decide
theorem six_ne:(6:Fp)≠0:=by decide
theorem mthree_ne:(2305843009213693948:Fp)≠0:=by decide
theorem q31:(2147483648:Fp)*2147483648=2:=by decide
theorem sqn_sq:∀k (x:Fp),sqn k (x*x)=sqn k x*sqn k x
  |0,_=>rfl
  |k+1,x=>by simp only [sqn];exact sqn_sq k (x*x)
theorem sq_or (a:Fp):∃r:Fp,r*r=a∨r*r= -a:=by
  refine⟨sqn 59 a,?_⟩;have h:=sqn61 a;rw [show sqn 61 a=sqn 59 ((a*a)*(a*a)) from rfl,sqn_sq 59,sqn_sq 59] at h;generalize sqn 59 a=r at*;have:(r*r-a)*(r*r+a)=0:=by grobner
  rcases noz this with e|e
  · exact Or.inl (by grobner)
  · exact Or.inr (by grobner)
theorem mX_zero (u:Fp)(h:mT u=0):mX u=1152921504606846994:=by
  rw [mX,if_pos h,c6];have:=fi_mul six_ne;generalize fi 6=f at*
  grobner
theorem mX_eq (u:Fp)(h:mT u≠0):crv (mS u*mX u)=mS u*mS u*mS u*crv (mX u):=by
  rw [mX,if_neg h];have h1:=fi_mul mthree_ne;have h2:=fi_mul h;unfold crv;generalize fi 2305843009213693948=g at*;rw [c3] at h1;rw [c111];unfold mT at h2⊢;generalize mS u=s at*;generalize fi (s*s+s)=f at*;clear h
  grobner
theorem has_one (u:Fp):(∃y:Fp,y*y=crv (mX u))∨∃y:Fp,y*y=crv (mS u*mX u):=by
  by_cases h:mT u=0
  · refine Or.inl ⟨301486360056512641,?_⟩;rw [mX_zero u h];decide+kernel
  · obtain⟨r,hr|hr⟩:=sq_or (crv (mX u))
    · exact Or.inl ⟨r,hr⟩
    · refine Or.inr ⟨2147483648*(2*(u*u*u))*r,?_⟩;rw [mX_eq u h];unfold mS;rw [c2];have:=q31;generalize crv (mX u)=c at*;generalize (2147483648:Fp)=q at*
      grobner
end M
section
open M
end
end Go.Proofs.YtmjniccfjffclaaGreatDoor
