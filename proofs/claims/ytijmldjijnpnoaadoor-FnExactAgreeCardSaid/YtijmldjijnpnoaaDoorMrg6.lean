import Derived.Test.YtijmldjijnpnoaaDoorMrg5
import Derived.Deep.RegionHeld3
set_option linter.unusedVariables false
set_option maxRecDepth 100000
set_option maxHeartbeats 16000000
namespace Go.Proofs.YtijmldjijnpnoaaDoor
open Go.Proofs.Tryd Go.RowKit
open Go.Value (int)
open Go.IntKind (u64)
namespace M
abbrev Fp:=Fin 2305843009213693951
structure Ops (α:Type) where
  cst:Nat→α
  add:α→α→α
  sub:α→α→α
  mul:α→α→α
  isz:α→Bool
theorem of_mod (n:Nat):(Fin.ofNat 2305843009213693951 (n%2305843009213693951))=Fin.ofNat 2305843009213693951 n:=by
  apply Fin.ext;simp [Fin.ofNat]
theorem of_add (a b:Nat):(Fin.ofNat 2305843009213693951 (a+b))=Fin.ofNat 2305843009213693951 a+Fin.ofNat 2305843009213693951 b:=by
  apply Fin.ext;simp [Fin.ofNat,Fin.val_add]
theorem of_P:(Fin.ofNat 2305843009213693951 2305843009213693951)=0:=by decide
theorem of_sub (a b:Nat):(Fin.ofNat 2305843009213693951 ((a+(2305843009213693951-b%2305843009213693951))))=Fin.ofNat 2305843009213693951 a-Fin.ofNat 2305843009213693951 b:=by
  have h:Fin.ofNat 2305843009213693951 (2305843009213693951-b%2305843009213693951)+Fin.ofNat 2305843009213693951 b=0:=by
    rw [←of_mod b,←of_add,Nat.sub_add_cancel (Nat.le_of_lt (Nat.mod_lt _ (by decide)))];exact of_P
  rw [of_add]
  grobner
def base:Ops Nat where
  cst n:=n
  add a b:=(a+b)%2305843009213693951
  sub a b:=(a+(2305843009213693951-b%2305843009213693951))%2305843009213693951
  mul a b:=a*b%2305843009213693951
  isz a:=a%2305843009213693951==0
section lists
variable {α:Type}(A:Ops α)(ev:α→Fp)
def lev (x:Fp):List α→Fp
  | []=>0
  |a::l=>ev a+x*lev x l
def ladd:List α→List α→List α
  | [],q=>q
  |p,[]=>p
  |a::p,b::q=>A.add a b::ladd p q
def lsub:List α→List α→List α
  |p,[]=>p
  | [],b::q=>A.sub (A.cst 0) b::lsub [] q
  |a::p,b::q=>A.sub a b::lsub p q
def lscale (a:α):List α→List α
  | []=> []
  |b::q=>A.mul a b::lscale a q
def lmul:List α→List α→List α
  | [],_=> []
  |a::p,q=>ladd A (lscale A a q) (A.cst 0::lmul p q)
def lisz:List α→Bool
  | []=>true
  |a::l=>A.isz a&&lisz l
def lst:Ops (List α) where
  cst n:= [A.cst n]
  add:=ladd A
  sub:=lsub A
  mul:=lmul A
  isz:=lisz A
end lists
def pr {α:Type}(A:Ops α)(r:α):Ops (α×α) where
  cst n:=(A.cst n,A.cst 0)
  add a b:=(A.add a.1 b.1,A.add a.2 b.2)
  sub a b:=(A.sub a.1 b.1,A.sub a.2 b.2)
  mul a b:=(A.add (A.mul a.1 b.1) (A.mul r (A.mul a.2 b.2)),A.add (A.mul a.1 b.2) (A.mul a.2 b.1))
  isz a:=A.isz a.1&&A.isz a.2
def pev {α:Type}(ev:α→Fp)(y:Fp)(a:α×α):Fp:=ev a.1+ev a.2*y
section terms
variable {α:Type}(A:Ops α)(ev:α→Fp)
theorem n3:Fin.ofNat 2305843009213693951 3=3:=rfl
theorem n9:Fin.ofNat 2305843009213693951 9=9:=rfl
end terms
def O1:Ops (List Nat×List Nat):=pr (lst base) [111,2305843009213693948,0,1]
def O2:Ops (List (List Nat×List Nat)×List (List Nat×List Nat)):=pr (lst O1) [([111],[]),([2305843009213693948],[]),([],[]),([1],[])]
abbrev Tm:=List (List Nat×List Nat)×List (List Nat×List Nat)
def v1:Tm:=O2.cst 1
end M
namespace M
def fi (a:Fp):Fp:=Fin.ofNat _ (ivn 2305843009213693951 a.val)
theorem n2:Fin.ofNat 2305843009213693951 2=2:=rfl
abbrev Pt:=Option (Fp×Fp)
def crv (x:Fp):Fp:=x*x*x-3*x+111
def on:Pt→Prop
  |none=>True
  |some (x,y)=>y*y=crv x
def third (x1 y1 x2 s:Fp):Pt:=some ((s*s-x1-x2),(s*(x1-(s*s-x1-x2))-y1))
end M
namespace M
def ad:Pt→Pt→Pt
  |none,q=>q
  |some (x,y),none=>some (x,y)
  | some (x1,y1),some (x2,y2)=>
    if x1=x2 then
      if y1+y2=0 then none else third x1 y1 x1 ((3*(x1*x1)-3)*fi (y1+y1))
    else third x1 y1 x2 ((y2-y1)*fi (x2-x1))
end M
namespace M
section check
variable {x1 y1 x2 y2:Fp}
def e1 (x1 y1:Fp):List Nat×List Nat→Fp:=pev (lev (fun a=>Fin.ofNat _ a) x1) y1
def e2 (x1 y1 x2 y2:Fp):Tm→Fp:=pev (lev (e1 x1 y1) x2) y2
end check
end M
namespace M
def finx (x1 x2 s:Nat):Nat:=(s*s+(2305843009213693951-x1)+(2305843009213693951-x2))%2305843009213693951
def finN (x1 y1 x2 s:Nat):Nat×Nat×Nat:=
  (finx x1 x2 s,(s*(x1+(2305843009213693951-finx x1 x2 s))+(2305843009213693951-y1))%2305843009213693951,1)
def adn (iv:Nat→Nat)(p q:Nat×Nat×Nat):Nat×Nat×Nat:=
  bif p.2.2==0 then q else bif q.2.2==0 then p else
    bif p.1==q.1 then
      bif (p.2.1+q.2.1)%2305843009213693951==0 then (0,0,0) else
        finN p.1 p.2.1 q.1 ((3*(p.1*p.1)+(2305843009213693951-3))%2305843009213693951*iv ((p.2.1+p.2.1)%2305843009213693951)%2305843009213693951)
    else finN p.1 p.2.1 q.1 ((q.2.1+(2305843009213693951-p.2.1))%2305843009213693951*iv ((q.1+(2305843009213693951-p.1))%2305843009213693951)%2305843009213693951)
end M
namespace M
end M
section
open M
theorem val_lt (a:Fp):a.val<2305843009213693951:=a.isLt
theorem fadd (x y:Int)(a b:Fp)(hx:x=a.val)(hy:y=b.val)(w:World):
    Calls prog 40 #[int u64 x,int u64 y,int u64 2305843009213693951] w fun e w'=>e= .returned (int u64 ((a+b).val:Nat))∧w=w':=by
  have:=l2add_int x y a.val b.val 2305843009213693951 hx hy w a.isLt b.isLt (by decide);rw [Fin.val_add];exact this
theorem fmul (x y:Int)(a b:Fp)(hx:x=a.val)(hy:y=b.val)(w:World):
    Calls prog 41 #[int u64 x,int u64 y] w fun e w'=>e= .returned (int u64 ((a*b).val:Nat))∧w=w':=by
  subst hx hy;rw [Fin.val_mul];exact l2times_any a.val b.val w a.isLt b.isLt
theorem fsub (x y:Int)(a b:Fp)(hx:x=a.val)(hy:y=b.val)(w:World):
    Calls prog 39 #[int u64 x,int u64 y] w fun e w'=>e= .returned (int u64 ((a-b).val:Nat))∧w=w':=by
  subst hx hy;have ha:=val_lt a;have hb:=val_lt b;have e:a-b=a+(0-b):=by grobner
  have e2:(0-b).val=(2305843009213693951-b.val)%2305843009213693951:=by
    rw [Fin.val_sub];rfl
  have L:=fun w x hx=>fadd (a.val:Int) x a (0-b) rfl hx w
  rw [←e] at L;have hx:Hid ((2305843009213693951-(b.val:Int))%2305843009213693951=((0-b).val:Nat)):=by simp only [Hid];rw [e2];omega
  clear e e2;generalize (a-b).val=c at*;generalize (0-b).val=d at*;generalize a.val=A at*;generalize b.val=B at*;go_enter func39,ntmps39;go_wp2_with fail;refine(L _ _ (by have:=hx.out;omega)).mono ?_;rintro e w' ⟨rfl,rfl⟩;clear L hx;go_wp2;go_ret;exact⟨rfl,rfl⟩
theorem fmul_v (a b:Fp)(w:World):
    Calls prog 41 #[int u64 (a.val:Nat),int u64 (b.val:Nat)] w fun e w'=>e= .returned (int u64 ((a*b).val:Nat))∧w=w':=fmul _ _ a b rfl rfl w
theorem fsub_v (a b:Fp)(w:World):
    Calls prog 39 #[int u64 (a.val:Nat),int u64 (b.val:Nat)] w fun e w'=>e= .returned (int u64 ((a-b).val:Nat))∧w=w':=fsub _ _ a b rfl rfl w
theorem rightS (x:Fp)(w:World):
    Calls prog 44 #[int u64 (x.val:Nat)] w fun e w'=>e= .returned (int u64 ((crv x).val:Nat))∧w=w':=by
  have e:crv x=x*x*x-3*x+111:=rfl;have L1:=fmul_v (w:=w) x x;have L2:=fmul_v (w:=w) (x*x) x;have L3:=fmul (w:=w) 3 (x.val:Nat) 3 x rfl rfl;have L4:=fsub_v (w:=w) (x*x*x) (3*x);have L5:=fadd (w:=w) ((x*x*x-3*x).val:Nat) 111 (x*x*x-3*x) 111 rfl rfl;rw [←e] at L5;clear e;have hx:=val_lt x;generalize (crv x).val=r at*;generalize (x*x*x-3*x).val=r4 at*;generalize (3*x).val=r3 at*;generalize (x*x*x).val=r2 at*;generalize (x*x).val=r1 at*;generalize x.val=X at*;go_enter func44,ntmps44;go_wp2_with fail;refine L1.mono ?_;rintro e w' ⟨rfl,rfl⟩;clear L1;go_wp2_with fail;refine L2.mono ?_;rintro e w' ⟨rfl,rfl⟩;clear L2;go_wp2_with fail;refine L3.mono ?_;rintro e w' ⟨rfl,rfl⟩;clear L3;go_wp2_with fail;refine L4.mono ?_;rintro e w' ⟨rfl,rfl⟩;clear L4;go_wp2_with fail;refine L5.mono ?_;rintro e w' ⟨rfl,rfl⟩;clear L5;go_wp2;go_ret;exact⟨rfl,rfl⟩
def fv (a:Fp):Int:=(a.val:Int)
theorem fv_eq (a b:Fp):(fv a==fv b)=decide (a=b):=by
  rw [Bool.eq_iff_iff];simp [fv,Fin.ext_iff];omega
def ptW:Pt→Value
  |none=> .agg #[int u64 0,int u64 0,.bool true]
  |some (x,y)=> .agg #[int u64 (fv x),int u64 (fv y),.bool false]
end
end Go.Proofs.YtijmldjijnpnoaaDoor
