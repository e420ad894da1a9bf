import Derived.Test.YtjhbckngdclleaaGreatDoorMrg23
set_option linter.unusedVariables false
set_option maxRecDepth 100000
set_option maxHeartbeats 16000000
namespace Go.Proofs.YtjhbckngdclleaaGreatDoor
open Go.Proofs.Tryz Go.RowKit
open Go.Value (int)
open Go.IntKind (u64)
section
open M
noncomputable def elT (t:Tri):Bool:=onT t&& !t.2.2
def grpW:ByteArray:=⟨#[72,97,115,104,84,111,71,114,111,117,112,45]⟩
noncomputable def hsh (mode:Int) (input:ByteArray):Pt:=hPt input (tagB grpW mode.toNat)
theorem pb_none (p:Pt):pb p=true↔p=none:=by
  rcases p with _|⟨x,y⟩<;>simp [pb]
end
theorem modS_yes (mode:Int)(w:World)(h1:0≤mode)(h2:mode≤2):
    Calls prog 53 #[.int .i64 mode] w fun e w'=>e= .returned (.bool true)∧w=w':=by
  go_enter func53,ntmps53;go_wp2;go_ret;exact⟨rfl,rfl⟩
theorem modS_no (mode:Int)(w:World)(h: ¬ (0≤mode∧mode≤2)):
    Calls prog 53 #[.int .i64 mode] w fun e w'=>e= .returned (.bool false)∧w=w':=by
  by_cases h1:0≤mode
  · have h2: ¬ mode≤2:=fun h'=>h ⟨h1,h'⟩
    clear h;go_enter func53,ntmps53;go_wp2;go_ret;exact⟨rfl,rfl⟩
  · clear h;go_enter func53,ntmps53;go_wp2;go_ret;exact⟨rfl,rfl⟩
section
open M
theorem pt_nat {p:Pt}(hp:on p):∃t:Tri,asT t=p∧px p=(t.1:Int)∧py p=(t.2.1:Int)∧pb p=t.2.2∧onT t=true:=by
  rcases p with _|⟨X,Y⟩
  · refine⟨(0,0,true),?_,rfl,rfl,rfl,?_⟩
    · unfold asT asPt toPt;rw [if_pos rfl];rfl
    · unfold onT toPt;rw [if_pos rfl];rfl
  · have h:=toPt_self hp;refine⟨(X.val,Y.val,false),asPt_some h,rfl,rfl,rfl,?_⟩;unfold onT;rw [h];rfl
theorem onS_tri (t:Tri)(w:World):Cr 70 #[.agg #[int u64 (t.1:Int),int u64 (t.2.1:Int),.bool t.2.2]] w (.bool (onT t)):=onS_any t.1 t.2.1 t.2.2 w
theorem elS_any (t:Tri)(w:World):
    Cr 41 #[.agg #[int u64 (t.1:Int),int u64 (t.2.1:Int),.bool t.2.2]] w (.bool (elT t)):=by
  have O:=onS_tri t;unfold elT;obtain⟨x,y,c⟩:=t;simp only at O⊢;have hr:=K3.new w 27 (x:Int) (y:Int) c;have hb:=balc w (Obj.cells #[int u64 (x:Int),int u64 (y:Int),.bool c] 27);generalize onT (x,y,c)=o at*;have c0:=hr.c0;have c1:=hr.c1;have c2:=hr.c2;go_enter func41,ntmps41;go_wp2_with fail;refine(O _).mono ?_;rintro e w1 ⟨rfl,b1⟩;replace hr:=hr.keep b1;replace hb:=hb.tr b1;clear O b1 c0 c1 c2;have c2:=hr.c2;cases o
  · go_wp2;go_ret;exact⟨rfl,hb⟩
  · go_wp2;go_ret;exact⟨rfl,hb⟩
end
end Go.Proofs.YtjhbckngdclleaaGreatDoor
