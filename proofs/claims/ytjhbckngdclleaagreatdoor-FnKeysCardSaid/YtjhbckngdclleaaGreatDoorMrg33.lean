import Derived.Test.YtjhbckngdclleaaGreatDoorMrg32
set_option linter.unusedVariables false
set_option maxRecDepth 100000
set_option maxHeartbeats 16000000
namespace Go.Proofs.YtjhbckngdclleaaGreatDoor
open Go.Proofs.Tryz Go.RowKit
open Go.Value (int)
open Go.IntKind (u64)
section
open M
theorem exB_size (x i:ByteArray):(exB x i).size=32:=by
  unfold exB;rw [strOfNums_size,expF,List.length_take,outTo_length];omega
theorem asG:asPt 1 509478702933351334 false=gG:=asPt_some (toPt_self gG_on)
end
section
open M
end
theorem exP_less (x:Int)(w:World)(h1:x<2305843009213693951):
    Cr 115 #[int u64 x,.agg #[]] w (.tuple #[.agg #[int u64 x],.bool true]):=by
  have hm:=methP;have hbd:=foldP;go_enter func115,ntmps115;go_wp2_with fail;refine(valP _).mono ?_;rintro e w' ⟨rfl,rfl⟩;go_wp2;refine bodyPost_ret (v:= .tuple #[.agg #[int u64 x],.bool true]) (by simp [results,results115,go_sem]) rfl ⟨rfl,?_⟩;exact(((Below.refl _ w).alloc (Nat.le_refl _) _).alloc (by simp) _).alloc (by simp;omega) _
theorem exP_more (x:Int)(w:World)(h1:2305843009213693951≤x):
    Cr 115 #[int u64 x,.agg #[]] w (.tuple #[.agg #[int u64 0],.bool false]):=by
  have hm:=methP;go_enter func115,ntmps115;go_wp2_with fail;refine(valP _).mono ?_;rintro e w' ⟨rfl,rfl⟩;go_wp2;refine bodyPost_ret (v:= .tuple #[.agg #[int u64 0],.bool false]) (by simp [results,results115,go_sem]) rfl ⟨rfl,?_⟩;exact(((Below.refl _ w).alloc (Nat.le_refl _) _).alloc (by simp) _).alloc (by simp;omega) _
end Go.Proofs.YtjhbckngdclleaaGreatDoor
