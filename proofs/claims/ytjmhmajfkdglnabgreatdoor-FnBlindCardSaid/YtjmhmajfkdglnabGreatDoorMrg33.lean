import Derived.Test.YtjmhmajfkdglnabGreatDoorMrg32
set_option linter.unusedVariables false
set_option maxRecDepth 100000
set_option maxHeartbeats 16000000
namespace Go.Proofs.YtjmhmajfkdglnabGreatDoor
open Go.Proofs.Tryz Go.RowKit
open Go.Value (int)
open Go.IntKind (u64)
section
open M
noncomputable def comM (k:Nat) (b:Tri) (cs ds ps:List Tri):Pt:=mixTo (wgts k (asT b) (cs.map asT) (ds.map asT) cs.length) (ps.map asT) cs.length
theorem asT_list (ps:List Tri):∀p∈ps.map asT,on p:=fun p hp=>by obtain⟨t,-,rfl⟩:=List.mem_map.1 hp;exact asT_on t
theorem comM_on (k:Nat)(b:Tri)(cs ds ps:List Tri):on (comM k b cs ds ps):=mixTo_on (asT_list ps) _
end
end Go.Proofs.YtjmhmajfkdglnabGreatDoor
