import Derived.Test.YtjhbckngdclleaaGreatDoorMrg23
set_option linter.unusedVariables false
set_option maxRecDepth 100000
set_option maxHeartbeats 16000000
namespace Go.Proofs.YtjhbckngdclleaaGreatDoor
open Go.Proofs.Tryz Go.RowKit
open Go.Value (int)
open Go.IntKind (u64)
theorem modS_yes (mode:Int)(w:World)(h1:0≤mode)(h2:mode≤2):
    Calls prog 53 #[.int .i64 mode] w fun e w'=>e= .returned (.bool true)∧w=w':=by
  go_enter func53,ntmps53;go_wp2;go_ret;exact⟨rfl,rfl⟩
theorem modS_no (mode:Int)(w:World)(h: ¬ (0≤mode∧mode≤2)):
    Calls prog 53 #[.int .i64 mode] w fun e w'=>e= .returned (.bool false)∧w=w':=by
  by_cases h1:0≤mode
  · have h2: ¬ mode≤2:=fun h'=>h ⟨h1,h'⟩
    clear h;go_enter func53,ntmps53;go_wp2;go_ret;exact⟨rfl,rfl⟩
  · clear h;go_enter func53,ntmps53;go_wp2;go_ret;exact⟨rfl,rfl⟩
section
open M
theorem pt_nat {p:Pt}(hp:on p):∃t:Tri,asT t=p∧px p=(t.1:Int)∧py p=(t.2.1:Int)∧pb p=t.2.2∧onT t=true:=by
  rcases p with _|⟨X,Y⟩
  · refine⟨(0,0,true),?_,rfl,rfl,rfl,?_⟩
    · unfold asT asPt toPt;rw [if_pos rfl];rfl
    · unfold onT toPt;rw [if_pos rfl];rfl
  · have h:=toPt_self hp;refine⟨(X.val,Y.val,false),asPt_some h,rfl,rfl,rfl,?_⟩;unfold onT;rw [h];rfl
end
end Go.Proofs.YtjhbckngdclleaaGreatDoor
