import Derived.Test.YtjhbckngdclleaaGreatDoorMrg21
set_option linter.unusedVariables false
set_option maxRecDepth 100000
set_option maxHeartbeats 16000000
namespace Go.Proofs.YtjhbckngdclleaaGreatDoor
open Go.Proofs.Tryz Go.RowKit
open Go.Value (int)
open Go.IntKind (u64)
namespace M
def mS (u:Fp):Fp:=2305843009213693949*(u*u)
def mT (u:Fp):Fp:=mS u*mS u+mS u
def mX (u:Fp):Fp:=if mT u=0 then 111*fi (2305843009213693949*2305843009213693948) else (2305843009213693840*fi 2305843009213693948)*(1+fi (mT u))
theorem c2:(2305843009213693949:Fp)= -2:=by decide
theorem c3:(2305843009213693948:Fp)= -3:=by decide
theorem c6:(2305843009213693949*2305843009213693948:Fp)=6:=by decide
end M
section
open M
end
end Go.Proofs.YtjhbckngdclleaaGreatDoor
