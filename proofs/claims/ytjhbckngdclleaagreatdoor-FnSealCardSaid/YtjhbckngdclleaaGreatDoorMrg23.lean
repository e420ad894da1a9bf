import Derived.Test.YtjhbckngdclleaaGreatDoorMrg22
set_option linter.unusedVariables false
set_option maxRecDepth 100000
set_option maxHeartbeats 16000000
namespace Go.Proofs.YtjhbckngdclleaaGreatDoor
open Go.Proofs.Tryz Go.RowKit
open Go.Value (int)
open Go.IntKind (u64)
section
open M
theorem rt_ex (x:Fp):∃rb:Fp×Bool,
    (∀w,Calls prog 205 #[int u64 (fv x)] w fun e w'=>e= .returned (.tuple #[int u64 (fv rb.1),.bool rb.2])∧w=w')∧
    (Cc 232 #[.agg #[int u64 (fv x)]] (.tuple #[.agg #[int u64 (fv rb.1)],.bool rb.2]))∧
    (rb.2=false→∀y:Fp,y*y≠x)∧(rb.2=true→rb.1*rb.1=x):=by
  obtain⟨r,b,h1,h2,h3,h4,h5⟩:=ev_both x.val (val_lt x);refine⟨(⟨r,h3⟩,b),h1,h2,fun hb y hy=>(h4 hb).2 y.val ?_,fun hb=> ?_⟩
  · rw [←hy,Fin.val_mul]
  · apply Fin.ext;rw [Fin.val_mul];exact(h5 hb).2
noncomputable def rtV (x:Fp):Fp:=(Classical.choose (rt_ex x)).1
noncomputable def rtB (x:Fp):Bool:=(Classical.choose (rt_ex x)).2
noncomputable def mXX (u:Fp):Fp:=if rtB (crv (mX u)) then mX u else mS u*mX u
noncomputable def mYY (u:Fp):Fp:=rtV (crv (mXX u))
noncomputable def mYo (u:Fp):Fp:=if (fv u%2==1) then 0-mYY u else mYY u
def toF (v:Nat):Fp:=Fin.ofNat _ v
end
section
open M
noncomputable def mapP (u:Nat):Pt:=some (mXX (toF u),mYo (toF u))
noncomputable def hPt (msg tag:ByteArray):Pt:=ad (mapP (hNum msg tag 2305843009213693951 2 0)) (mapP (hNum msg tag 2305843009213693951 2 1))
end
end Go.Proofs.YtjhbckngdclleaaGreatDoor
