import Derived.Test.YtijmldjijnpnoaaDoorChecked
import Derived.Test.YtijmldjijnpnoaaDoorMrg0
import Derived.ProofKit
import Derived.WalkSpells
import Derived.WalkLawsBesides
set_option linter.unusedVariables false
set_option maxRecDepth 100000
set_option maxHeartbeats 16000000
namespace Go.Proofs.YtijmldjijnpnoaaDoor
open Go.Proofs.Tryd Go.RowKit
open Go.Value (int)
open Go.IntKind (u64)
theorem ret_u64 {a b:Int}(h:a=b):Ending.returned (int u64 a)= .returned (int u64 b):=by rw [h]
theorem l2add_any (a b m:Nat)(w:World)(ha:a<m)(hb:b<m)(hm:m<18446744073709551616):
    Calls prog 40 #[int u64 a,int u64 b,int u64 m] w fun e w'=>e= .returned (int u64 ((a+b)%m:Nat))∧w=w':=by
  by_cases h:m-b≤a
  · have e:((a+b)%m:Nat)=a-(m-b):=by
      have:a+b=(a-(m-b))+m:=by omega
      rw [this,Nat.add_mod_right,Nat.mod_eq_of_lt (by omega)]
    rw [e];clear e;go_enter func40,ntmps40;go_wp2;go_ret;exact⟨ret_u64 (by omega),rfl⟩
  · have e:((a+b)%m:Nat)=a+b:=Nat.mod_eq_of_lt (by omega);rw [e];clear e;go_enter func40,ntmps40;go_wp2;go_ret;exact⟨ret_u64 (by omega),rfl⟩
theorem l2add_int (x y:Int)(a b m:Nat)(hx:x=a)(hy:y=b)(w:World)(ha:a<m)(hb:b<m)(hm:m<18446744073709551616):
    Calls prog 40 #[int u64 x,int u64 y,int u64 m] w fun e w'=>e= .returned (int u64 ((a+b)%m:Nat))∧w=w':=by
  subst hx hy;exact l2add_any a b m w ha hb hm
namespace M
def ivn (p a:Nat):Nat:=a^(p-2)%p
end M
theorem wrap_tdiv (x c:Int):(IntKind.u64.wrap x).tdiv c=IntKind.u64.wrap x/c:=by
  rw [Int.tdiv_eq_ediv_of_nonneg];rw [IntKind.wrap_u64];omega
theorem wrap_tmod (x c:Int):(IntKind.u64.wrap x).tmod c=IntKind.u64.wrap x%c:=by
  rw [Int.tmod_eq_emod_of_nonneg];rw [IntKind.wrap_u64];omega
theorem mod61_tmod (x c:Int):(x%2305843009213693952).tmod c=x%2305843009213693952%c:=by
  rw [Int.tmod_eq_emod_of_nonneg];omega
theorem halves (a b:Nat):a*b=18446744073709551616*(a/4294967296*(b/4294967296))+4294967296*(a/4294967296*(b%4294967296))+4294967296*(a%4294967296*(b/4294967296))+a%4294967296*(b%4294967296):=by
  have h1:=Nat.div_add_mod a 4294967296;have h2:=Nat.div_add_mod b 4294967296;generalize a/4294967296=ah at*;generalize a%4294967296=al at*;generalize b/4294967296=bh at*;generalize b%4294967296=bl at*;subst h1 h2
  grobner
theorem fold61 (q:Nat):(q/2305843009213693952+q%2305843009213693952%2305843009213693951)%2305843009213693951=q%2305843009213693951:=by omega
theorem prod_lt {a b c d:Nat}(ha:a≤c)(hb:b≤d):a*b≤c*d:=Nat.mul_le_mul ha hb
theorem l2times_any (a b:Nat)(w:World)(ha:a<2305843009213693951)(hb:b<2305843009213693951):
    Calls prog 41 #[int u64 a,int u64 b] w fun e w'=>e= .returned (int u64 (a*b%2305843009213693951:Nat))∧w=w':=by
  go_enter func41,ntmps41;go_wp2_with fail;have hq:=halves a b;have c0:a%4294967296*(b%4294967296)≤4294967295*4294967295:=prod_lt (by omega) (by omega);have c1:a/4294967296*(b%4294967296)≤536870911*4294967295:=prod_lt (by omega) (by omega);have c2:a%4294967296*(b/4294967296)≤4294967295*536870911:=prod_lt (by omega) (by omega);have c3:a/4294967296*(b/4294967296)≤536870911*536870911:=prod_lt (by omega) (by omega);have cq:a*b≤2305843009213693950*2305843009213693950:=prod_lt (by omega) (by omega);have d0:(a:Int)%4294967296*((b:Int)%4294967296)=((a%4294967296*(b%4294967296):Nat):Int):=by simp
  have d1:(a:Int)/4294967296*((b:Int)%4294967296)=((a/4294967296*(b%4294967296):Nat):Int):=by simp
  have d2:(a:Int)%4294967296*((b:Int)/4294967296)=((a%4294967296*(b/4294967296):Nat):Int):=by simp
  have d3:(a:Int)/4294967296*((b:Int)/4294967296)=((a/4294967296*(b/4294967296):Nat):Int):=by simp
  refine(l2add_int _ _ (a*b/2305843009213693952) (a*b%2305843009213693952%2305843009213693951) 2305843009213693951 ?_ ?_ w (by omega) (by omega) (by omega)).mono ?_
  · rw [d0,d1,d2,d3];simp only [wrap_tdiv,wrap_tmod];simp only [IntKind.wrap_u64];generalize a*b=q at*;generalize a%4294967296*(b%4294967296)=p0 at*;generalize a/4294967296*(b%4294967296)=p1 at*;generalize a%4294967296*(b/4294967296)=p2 at*;generalize a/4294967296*(b/4294967296)=p3 at*;omega
  · rw [d0,d1,d2];simp only [wrap_tdiv,wrap_tmod,mod61_tmod];simp only [IntKind.wrap_u64];generalize a*b=q at*;generalize a%4294967296*(b%4294967296)=p0 at*;generalize a/4294967296*(b%4294967296)=p1 at*;generalize a%4294967296*(b/4294967296)=p2 at*;generalize a/4294967296*(b/4294967296)=p3 at*;omega
  · rintro e w' ⟨rfl,rfl⟩;have e:=fold61 (a*b);generalize (a*b/2305843009213693952+a*b%2305843009213693952%2305843009213693951)%2305843009213693951=z at*;clear d0 d1 d2 d3 c0 c1 c2 c3 hq cq;go_wp2;go_ret;exact⟨ret_u64 (by omega),rfl⟩
end Go.Proofs.YtijmldjijnpnoaaDoor
