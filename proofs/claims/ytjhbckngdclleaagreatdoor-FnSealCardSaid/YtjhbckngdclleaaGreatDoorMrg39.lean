import Derived.Test.YtjhbckngdclleaaGreatDoorMrg38
set_option linter.unusedVariables false
set_option maxRecDepth 100000
set_option maxHeartbeats 16000000
namespace Go.Proofs.YtjhbckngdclleaaGreatDoor
open Go.Proofs.Tryz Go.RowKit
open Go.Value (int)
open Go.IntKind (u64)
section
open M
theorem wrdP_none (w:World):
    Cr 122 #[.agg #[int u64 0,int u64 0,.bool true]] w (int u64 0):=by
  have hp:=K3.new w 101 0 0 true;have hb:=balc w (Obj.cells #[int u64 0,int u64 0,.bool true] 101);have c0:=hp.drew.c0;have c1:=hp.drew.c1;have c2:=hp.drew.c2;go_enter func122,ntmps122;go_wp2
  go_region_held3 (fun w'=>w'.cell? ⟨w.heap.size,0,none⟩=some (int u64 0)∧w'.cell? ⟨w.heap.size,1,none⟩=some (int u64 0)∧w'.cell? ⟨w.heap.size,2,none⟩=some (.bool true)) (first|exact ⟨c0,c1,c2⟩|exact ⟨keepC c0 b1,keepC c1 b1,keepC c2 b1⟩|go_keep) ((go_at_call 114;refine(zpP _).mono ?_;rintro e w1 ⟨rfl,b1⟩))
  replace hb:=keepB hb.drew hb.size b1;go_wp2;go_ret;exact⟨rfl,hb⟩
theorem wrdP_some (x y a b c n:Int)(w:World)(h1:IntKind.u64.wrap (x+4611686018427387904)=a)(h2:y.tmod 2=b)(h3:IntKind.u64.wrap (2305843009213693952*b)=c)(h4:IntKind.u64.wrap (a+c)=n):
    Cr 122 #[.agg #[int u64 x,int u64 y,.bool false]] w (int u64 n):=by
  have hp:=K3.new w 101 x y false;have hb:=balc w (Obj.cells #[int u64 x,int u64 y,.bool false] 101);have c0:=hp.drew.c0;have c1:=hp.drew.c1;have c2:=hp.drew.c2;go_enter func122,ntmps122;go_wp2
  go_region_held3 (fun w'=>w'.cell? ⟨w.heap.size,0,none⟩=some (int u64 x)∧w'.cell? ⟨w.heap.size,1,none⟩=some (int u64 y)∧w'.cell? ⟨w.heap.size,2,none⟩=some (.bool false)) (first|exact ⟨c0,c1,c2⟩|exact ⟨keepC c0 b1,keepC c1 b1,keepC c2 b1⟩|go_keep) ((go_at_call 114;refine(zpP _).mono ?_;rintro e w1 ⟨rfl,b1⟩))
  replace hb:=keepB hb.drew hb.size b1;replace hp:=(hp.drew).keep b1;clear c0 c1 c2;have c0:=hp.c0;have c1:=hp.c1;go_wp2;go_ret;exact⟨rfl,hb⟩
theorem wrdV:∀(p:Pt) (w:World),Cr 122 #[ptW p] w (int u64 (putN p:Nat))
  |none,w=>wrdP_none w
  | some (x,y),w=>by
    have hx:=val_lt x
    have hy:(fv y).tmod 2=((y.val%2:Nat):Int):=by
      unfold fv;rw [Int.tmod_eq_emod_of_nonneg (by omega)];omega
    have hz:y.val%2<2:=Nat.mod_lt _ (by decide);refine wrdP_some (fv x) (fv y) (fv x+4611686018427387904) _ (2305843009213693952*((y.val%2:Nat):Int)) _ w ?_ hy ?_ ?_
    · unfold fv;rw [IntKind.wrap_u64];omega
    · rw [IntKind.wrap_u64];omega
    · rw [putN_some];unfold fv;rw [IntKind.wrap_u64];generalize x.val=X at*;generalize y.val%2=Z at*;omega
end
section
open Go.Shelf
section
attribute [local go_sem] Oper.semAt_some
end
end
end Go.Proofs.YtjhbckngdclleaaGreatDoor
