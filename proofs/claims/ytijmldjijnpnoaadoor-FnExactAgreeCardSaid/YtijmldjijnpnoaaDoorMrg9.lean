import Derived.Test.YtijmldjijnpnoaaDoorMrg8
import Derived.Lib.BitFns
import Derived.Lib.Mul64
set_option linter.unusedVariables false
set_option maxRecDepth 100000
set_option maxHeartbeats 16000000
namespace Go.Proofs.YtijmldjijnpnoaaDoor
open Go.Proofs.Tryd Go.RowKit
open Go.Value (int)
open Go.IntKind (u64)
section
open M
def putN:Pt→Nat
  |none=>0
  |some (x,y)=>x.val+4611686018427387904+2305843009213693952*(y.val%2)
theorem putN_some (x y:Fp):putN (some (x,y))=x.val+4611686018427387904+2305843009213693952*(y.val%2):=rfl
theorem putN_lt:∀p,putN p<18446744073709551616
  |none=>by decide
  | some (x,y)=>by
    have hx:=val_lt x;have hy:y.val%2<2:=Nat.mod_lt _ (by decide);rw [putN_some];generalize x.val=X at*;generalize y.val%2=Z at*;omega
theorem putS_inf (x y:Int)(w:World):
    Cr 13 #[.agg #[int u64 x,int u64 y,.bool true]] w (.string (strOfNums (be8 (0:Nat)))):=by
  have L:=fun w=>wordS_any 0 w (by decide)
  go_enter func13,ntmps13;go_wp2_with fail;refine(L _).mono ?_;rintro e w' ⟨rfl,hb⟩;clear L;go_wp2;go_ret;exact⟨rfl,((Below.refl _ w).alloc (Nat.le_refl _) _).trans (hb.mono (by simp))⟩
theorem putS_no (x y:Int)(w:World)(O:Cc 25 #[.agg #[int u64 x,int u64 y,.bool false]] (.bool false)):
    Cr 13 #[.agg #[int u64 x,int u64 y,.bool false]] w (.string (strOfNums (be8 (0:Nat)))):=by
  have L:=fun w=>wordS_any 0 w (by decide)
  go_enter func13,ntmps13;go_wp2_with fail;refine(O _).mono ?_;rintro e w1 ⟨rfl,b1⟩;go_wp2_with fail;refine(L _).mono ?_;rintro e w' ⟨rfl,hb⟩;clear L;go_wp2;go_ret;have b0:=(balc w (Obj.cells #[int u64 x,int u64 y,.bool false] 28)).trans (b1.mono (by simp));exact⟨rfl,b0.tr hb⟩
theorem putS_yes (x y:Int)(n:Nat)(w:World)(hx0:0≤x)(hx:x<2305843009213693951)(hy0:0≤y)(hn:(n:Int)=x+4611686018427387904+2305843009213693952*(y%2))
    (O:Cc 25 #[.agg #[int u64 x,int u64 y,.bool false]] (.bool true)):
    Cr 13 #[.agg #[int u64 x,int u64 y,.bool false]] w (.string (strOfNums (be8 n))):=by
  have L:=fun w=>wordS_any n w (by omega)
  rw [hn] at L⊢;clear hn;go_enter func13,ntmps13;go_wp2_with fail;refine(O _).mono ?_;rintro e w1 ⟨rfl,b1⟩;have r0:=(R3.new w x y false).below b1 (by simp);have c0:=r0.c0;have c1:=r0.c1;go_wp2_with fail;refine(L _).mono ?_;rintro e w' ⟨rfl,hb⟩;clear L;go_wp2;go_ret;have b0:=(balc w (Obj.cells #[int u64 x,int u64 y,.bool false] 28)).trans (b1.mono (by simp));exact⟨rfl,b0.tr hb⟩
theorem putS_any (x y:Nat)(b:Bool)(w:World):
    Cr 13 #[.agg #[int u64 x,int u64 y,.bool b]] w (.string (strOfNums (be8 (putN (asPt x y b):Nat)))):=by
  have O:=onS_any x y b
  cases b with
  | true=>
    have e:asPt x y true=none:=by
      unfold asPt toPt;rw [if_pos rfl];split<;>rfl
    rw [e];exact putS_inf x y w
  | false =>
    cases h:toPt x y false with
    | none=>
      rw [h] at O;have e:asPt x y false=none:=by unfold asPt;rw [h];rfl
      rw [e];exact putS_no x y w O
    | some p=>
      rw [h] at O;have e:=toPt_W h;rw [asPt_some h];rcases p with _|⟨X,Y⟩
      · cases e
      · have e1:(x:Int)=fv X∧(y:Int)=fv Y:=by
          simp only [ptW] at e;injection e with e;injection e with e;simpa using e
        have hX:=val_lt X;refine putS_yes x y (putN (some (X,Y))) w (by omega) ?_ (by omega) ?_ O
        · rw [e1.1];unfold fv;omega
        · rw [e1.1,e1.2,putN_some];unfold fv;generalize X.val=A;generalize Y.val=B;omega
end
namespace Dv
theorem or_add (h t s:Nat)(ht:t<2^s):h*2^s|||t=h*2^s+t:=by
  rw [Nat.mul_comm,Nat.two_pow_add_eq_or_of_lt ht]
end Dv
theorem orN (a b:Nat)(ha:a<18446744073709551616)(hb:b<18446744073709551616):bits .or .u64 (a:Int) (b:Int)=((a|||b:Nat):Int):=bits_or_u64_nat a b ha hb
end Go.Proofs.YtijmldjijnpnoaaDoor
