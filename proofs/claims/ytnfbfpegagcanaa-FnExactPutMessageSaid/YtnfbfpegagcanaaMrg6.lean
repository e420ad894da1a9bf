import Derived.Test.YtnfbfpegagcanaaMrg5
import Derived.Deep.RegionHeld3
set_option linter.unusedVariables false
set_option maxRecDepth 100000
set_option maxHeartbeats 16000000
namespace Go.Proofs.Ytnfbfpegagcanaa
open Go.Proofs.Try Go.RowKit
open Go.Value (int)
open Go.IntKind (u64)
namespace M
abbrev Fp:=Fin 2305843009213693951
structure Ops (α:Type) where
  cst:Nat→α
  add:α→α→α
  sub:α→α→α
  mul:α→α→α
  isz:α→Bool
theorem of_mod (n:Nat):(Fin.ofNat 2305843009213693951 (n%2305843009213693951))=Fin.ofNat 2305843009213693951 n:=by
  apply Fin.ext;simp [Fin.ofNat]
theorem of_add (a b:Nat):(Fin.ofNat 2305843009213693951 (a+b))=Fin.ofNat 2305843009213693951 a+Fin.ofNat 2305843009213693951 b:=by
  apply Fin.ext;simp [Fin.ofNat,Fin.val_add]
theorem of_mul (a b:Nat):(Fin.ofNat 2305843009213693951 (a*b))=Fin.ofNat 2305843009213693951 a*Fin.ofNat 2305843009213693951 b:=by
  apply Fin.ext;simp [Fin.ofNat,Fin.val_mul,Nat.mul_mod]
theorem of_P:(Fin.ofNat 2305843009213693951 2305843009213693951)=0:=by decide
theorem of_sub (a b:Nat):(Fin.ofNat 2305843009213693951 ((a+(2305843009213693951-b%2305843009213693951))))=Fin.ofNat 2305843009213693951 a-Fin.ofNat 2305843009213693951 b:=by
  have h:Fin.ofNat 2305843009213693951 (2305843009213693951-b%2305843009213693951)+Fin.ofNat 2305843009213693951 b=0:=by
    rw [←of_mod b,←of_add,Nat.sub_add_cancel (Nat.le_of_lt (Nat.mod_lt _ (by decide)))];exact of_P
  rw [of_add]
  grobner
def base:Ops Nat where
  cst n:=n
  add a b:=(a+b)%2305843009213693951
  sub a b:=(a+(2305843009213693951-b%2305843009213693951))%2305843009213693951
  mul a b:=a*b%2305843009213693951
  isz a:=a%2305843009213693951==0
section lists
variable {α:Type}(A:Ops α)(ev:α→Fp)
def lev (x:Fp):List α→Fp
  | []=>0
  |a::l=>ev a+x*lev x l
def ladd:List α→List α→List α
  | [],q=>q
  |p,[]=>p
  |a::p,b::q=>A.add a b::ladd p q
def lsub:List α→List α→List α
  |p,[]=>p
  | [],b::q=>A.sub (A.cst 0) b::lsub [] q
  |a::p,b::q=>A.sub a b::lsub p q
def lscale (a:α):List α→List α
  | []=> []
  |b::q=>A.mul a b::lscale a q
def lmul:List α→List α→List α
  | [],_=> []
  |a::p,q=>ladd A (lscale A a q) (A.cst 0::lmul p q)
def lisz:List α→Bool
  | []=>true
  |a::l=>A.isz a&&lisz l
def lst:Ops (List α) where
  cst n:= [A.cst n]
  add:=ladd A
  sub:=lsub A
  mul:=lmul A
  isz:=lisz A
end lists
def pr {α:Type}(A:Ops α)(r:α):Ops (α×α) where
  cst n:=(A.cst n,A.cst 0)
  add a b:=(A.add a.1 b.1,A.add a.2 b.2)
  sub a b:=(A.sub a.1 b.1,A.sub a.2 b.2)
  mul a b:=(A.add (A.mul a.1 b.1) (A.mul r (A.mul a.2 b.2)),A.add (A.mul a.1 b.2) (A.mul a.2 b.1))
  isz a:=A.isz a.1&&A.isz a.2
def pev {α:Type}(ev:α→Fp)(y:Fp)(a:α×α):Fp:=ev a.1+ev a.2*y
def cX (X1 Y1 Z1 X2 Y2 Z2:Fp):Fp:=(X1*Y2+X2*Y1)*(Y1*Y2+3*(X1*Z2+X2*Z1)-333*(Z1*Z2))-(Y1*Z2+Y2*Z1)*(333*(X1*Z2+X2*Z1)-3*(X1*X2)-9*(Z1*Z2))
section terms
variable {α:Type}(A:Ops α)(ev:α→Fp)
theorem n3:Fin.ofNat 2305843009213693951 3=3:=rfl
theorem n9:Fin.ofNat 2305843009213693951 9=9:=rfl
end terms
def O1:Ops (List Nat×List Nat):=pr (lst base) [111,2305843009213693948,0,1]
def O2:Ops (List (List Nat×List Nat)×List (List Nat×List Nat)):=pr (lst O1) [([111],[]),([2305843009213693948],[]),([],[]),([1],[])]
abbrev Tm:=List (List Nat×List Nat)×List (List Nat×List Nat)
def v1:Tm:=O2.cst 1
def rX:Tm:=([([1885856899149449528,1909709102757962122,1593858225802100086,243519128968615194,428576832198421864,866199093984228832,118906679111610262],[28807278858,2305843004056669165,36169470,2305843009180791211,5589738]),([1909709102757962122,97266234467640796,1998080156948799645,373775007098140957,583946597567261357,1734188305297737051,1680014725033269484],[2305842994132013809,206492652,2305843008918493393,67959756,2305843009213470283]),([1593858225802100086,1998080156948799645,1535907099398001512,249259866794213647,287576852150544193,33210040806213884,112084484616800685],[167692140,2305843009109582383,202578462,2305843009212079225,2305843009213478131]),([243519128968615194,373775007098140957,249259866794213647,1632972742955594436,1610187031593315929,1492544642706835073,1093939204740350701],[30201066,177152904,2305843009210790191,2305843009211378791,32046]),([428576832198421864,583946597567261357,287576852150544193,1610187031593315929,310041413814451143,1365066268907849491,1951949210014716304],[16339536,2305843009212404917,2305843009211094301,2305843009213646863]),([866199093984228832,1734188305297737051,33210040806213884,1492544642706835073,1365066268907849491,129724829965376277,1528436108800054002],[2305843009213627243,2305843009212826747,2305843009213487941,1308,2305843009213691989]),([118906679111610262,1680014725033269484,112084484616800685,1093939204740350701,1951949210014716304,1528436108800054002,509478702933351334],[2305843009213621357,2305843009213671715,654,2305843009213693297,2305843009213693733])],[([28807278858,2305842994132013809,167692140,30201066,16339536,2305843009213627243,2305843009213621357],[1692325662910389505,1142064771415803324,243032987670592724,1791840577378979282,677921060269776323]),([2305843004056669165,206492652,2305843009109582383,177152904,2305843009212404917,2305843009212826747,2305843009213671715],[1142064771415803324,181419997249559900,1031939894323315310,223361017845583272,1598055410815738657]),([36169470,2305843008918493393,202578462,2305843009210790191,2305843009211094301,2305843009213487941,654],[243032987670592724,1031939894323315310,356831734460793307,336419105841677039,1033140075398953842]),([2305843009180791211,67959756,2305843009212079225,2305843009211378791,2305843009213646863,1308,2305843009213693297],[1791840577378979282,223361017845583272,336419105841677039,439683417784189928,1588541636749745624]),([5589738,2305843009213470283,2305843009213478131,32046,0,2305843009213691989,2305843009213693733],[677921060269776323,1598055410815738657,1033140075398953842,1588541636749745624,751029208386414053])])
end M
namespace M
def fi (a:Fp):Fp:=Fin.ofNat _ (ivn 2305843009213693951 a.val)
theorem val_ne {a:Fp}(h:a≠0):a.val%2305843009213693951≠0:=by
  intro e;rw [Nat.mod_eq_of_lt a.isLt] at e;exact h (Fin.ext e)
theorem fi_mul {a:Fp}(h:a≠0):a*fi a=1:=by
  apply Fin.ext;rw [Fin.val_mul];exact rootP.iv a.val (val_ne h) (by decide)
theorem noz {a b:Fp}(h:a*b=0):a=0∨b=0:=by
  by_cases c:a=0
  · exact Or.inl c
  · refine Or.inr ?_;have:=fi_mul c
    grobner
def sqn:Nat→Fp→Fp
  |0,x=>x
  |k+1,x=>sqn k (x*x)
theorem sqn_val:∀k (x:Fp),(sqn k x).val=x.val^(2^k)%2305843009213693951
  |0,x=>by simp only [sqn];rw [Nat.pow_zero,Nat.pow_one,Nat.mod_eq_of_lt x.isLt]
  | k+1,x=>by
    simp only [sqn];rw [sqn_val k (x*x),Fin.val_mul,←Nat.pow_mod,←Nat.pow_two,←Nat.pow_mul,Nat.pow_succ,Nat.mul_comm 2]
theorem sqn61 (x:Fp):sqn 61 x=x*x:=by
  apply Fin.ext;rw [sqn_val 61 x,rootP.two 61 x.val (by decide),Fin.val_mul]
def tsq (t:Nat×Nat×Nat):Nat×Nat×Nat:=
  let m:=2305843009213693951
  let c3:=2*t.2.1*t.2.2
  let c4:=t.2.2*t.2.2
  ((t.1*t.1+(m-111)*c3)%m,(2*t.1*t.2.1+3*c3+(m-111)*c4)%m,(2*t.1*t.2.2+t.2.1*t.2.1+3*c4)%m)
def tsn:Nat→Nat×Nat×Nat→Nat×Nat×Nat
  |0,t=>t
  |k+1,t=>tsn k (tsq t)
def tev (r:Fp)(t:Nat×Nat×Nat):Fp:=Fin.ofNat _ t.1+Fin.ofNat _ t.2.1*r+Fin.ofNat _ t.2.2*(r*r)
theorem nm111:Fin.ofNat 2305843009213693951 (2305843009213693951-111)= -111:=by decide
theorem n2:Fin.ofNat 2305843009213693951 2=2:=rfl
theorem tsq_ev (r:Fp)(h:r*r*r=3*r-111)(t:Nat×Nat×Nat):tev r (tsq t)=tev r t*tev r t:=by
  simp only [tev,tsq,of_mod,of_add,of_mul,nm111,n2,n3]
  grobner
theorem tsn_ev (r:Fp)(h:r*r*r=3*r-111):∀k t,tev r (tsn k t)=sqn k (tev r t)
  |0,t=>rfl
  |k+1,t=>by simp only [tsn,sqn];rw [tsn_ev r h k,tsq_ev r h]
theorem no_root (r:Fp):r*r*r-3*r+111≠0:=by
  intro h0;have h:r*r*r=3*r-111:=by grobner
  have e:tsn 61 (0,1,0)=(311388172664779689,246475026467563493,2150148922881304106):=by decide+kernel
  have a:=tsn_ev r h 61 (0,1,0)
  have b:tev r (0,1,0)=r:=by
    show(0:Fp)+1*r+0*(r*r)=r
    grobner
  rw [e,b,sqn61] at a;have c:(311388172664779689:Fp)+246475026467563493*r+2150148922881304106*(r*r)=r*r:=a;clear a b e h0
  grobner
abbrev Pt:=Option (Fp×Fp)
def crv (x:Fp):Fp:=x*x*x-3*x+111
def on:Pt→Prop
  |none=>True
  |some (x,y)=>y*y=crv x
theorem y_ne {x y:Fp}(h:on (some (x,y))):y≠0:=by
  intro e;have h':y*y=x*x*x-3*x+111:=h;subst e;exact no_root x (by grobner)
theorem same_x {x y z:Fp}(h1:on (some (x,y)))(h2:on (some (x,z))):y=z∨y+z=0:=by
  have h1':y*y=x*x*x-3*x+111:=h1;have h2':z*z=x*x*x-3*x+111:=h2;have:(y-z)*(y+z)=0:=by grobner
  rcases noz this with e|e
  · exact Or.inl (by grobner)
  · exact Or.inr e
def third (x1 y1 x2 s:Fp):Pt:=some ((s*s-x1-x2),(s*(x1-(s*s-x1-x2))-y1))
end M
namespace M
def ad:Pt→Pt→Pt
  |none,q=>q
  |some (x,y),none=>some (x,y)
  | some (x1,y1),some (x2,y2)=>
    if x1=x2 then
      if y1+y2=0 then none else third x1 y1 x1 ((3*(x1*x1)-3)*fi (y1+y1))
    else third x1 y1 x2 ((y2-y1)*fi (x2-x1))
def ng:Pt→Pt
  |none=>none
  |some (x,y)=>some (x,(-y))
theorem ng_on:∀{p:Pt},on p→on (ng p)
  |none,_=>trivial
  | some (x,y),h=>by
    have h':y*y=crv x:=h;show(-y)*(-y)=crv x
    grobner
end M
namespace M
section check
variable {x1 y1 x2 y2:Fp}
def e1 (x1 y1:Fp):List Nat×List Nat→Fp:=pev (lev (fun a=>Fin.ofNat _ a) x1) y1
def e2 (x1 y1 x2 y2:Fp):Tm→Fp:=pev (lev (e1 x1 y1) x2) y2
end check
end M
namespace M
def finx (x1 x2 s:Nat):Nat:=(s*s+(2305843009213693951-x1)+(2305843009213693951-x2))%2305843009213693951
def finN (x1 y1 x2 s:Nat):Nat×Nat×Nat:=
  (finx x1 x2 s,(s*(x1+(2305843009213693951-finx x1 x2 s))+(2305843009213693951-y1))%2305843009213693951,1)
def adn (iv:Nat→Nat)(p q:Nat×Nat×Nat):Nat×Nat×Nat:=
  bif p.2.2==0 then q else bif q.2.2==0 then p else
    bif p.1==q.1 then
      bif (p.2.1+q.2.1)%2305843009213693951==0 then (0,0,0) else
        finN p.1 p.2.1 q.1 ((3*(p.1*p.1)+(2305843009213693951-3))%2305843009213693951*iv ((p.2.1+p.2.1)%2305843009213693951)%2305843009213693951)
    else finN p.1 p.2.1 q.1 ((q.2.1+(2305843009213693951-p.2.1))%2305843009213693951*iv ((q.1+(2305843009213693951-p.1))%2305843009213693951)%2305843009213693951)
end M
namespace M
def code:Pt→Nat
  |none=>4611686018427387902
  |some (x,y)=>2*x.val+y.val%2
theorem neg_val {y z:Fp}(h:y+z=0)(hy:y≠0):z.val=2305843009213693951-y.val:=by
  have e:=congrArg Fin.val h;rw [Fin.val_add] at e;have e':(y.val+z.val)%2305843009213693951=0:=e;have h1:=y.isLt;have h2:=z.isLt;have h3:y.val≠0:=fun c=>hy (Fin.ext c)
  omega
end M
section
open M
theorem val_lt (a:Fp):a.val<2305843009213693951:=a.isLt
theorem fadd (x y:Int)(a b:Fp)(hx:x=a.val)(hy:y=b.val)(w:World):
    Calls prog 43 #[int u64 x,int u64 y,int u64 2305843009213693951] w fun e w'=>e= .returned (int u64 ((a+b).val:Nat))∧w=w':=by
  have:=l2add_int x y a.val b.val 2305843009213693951 hx hy w a.isLt b.isLt (by decide);rw [Fin.val_add];exact this
theorem fmul (x y:Int)(a b:Fp)(hx:x=a.val)(hy:y=b.val)(w:World):
    Calls prog 26 #[int u64 x,int u64 y] w fun e w'=>e= .returned (int u64 ((a*b).val:Nat))∧w=w':=by
  subst hx hy;rw [Fin.val_mul];exact l2times_any a.val b.val w a.isLt b.isLt
theorem fsub (x y:Int)(a b:Fp)(hx:x=a.val)(hy:y=b.val)(w:World):
    Calls prog 44 #[int u64 x,int u64 y] w fun e w'=>e= .returned (int u64 ((a-b).val:Nat))∧w=w':=by
  subst hx hy;have ha:=val_lt a;have hb:=val_lt b;have e:a-b=a+(0-b):=by grobner
  have e2:(0-b).val=(2305843009213693951-b.val)%2305843009213693951:=by
    rw [Fin.val_sub];rfl
  have L:=fun w x hx=>fadd (a.val:Int) x a (0-b) rfl hx w
  rw [←e] at L;have hx:Hid ((2305843009213693951-(b.val:Int))%2305843009213693951=((0-b).val:Nat)):=by simp only [Hid];rw [e2];omega
  clear e e2;generalize (a-b).val=c at*;generalize (0-b).val=d at*;generalize a.val=A at*;generalize b.val=B at*;go_enter func44,ntmps44;go_wp2_with fail;refine(L _ _ (by have:=hx.out;omega)).mono ?_;rintro e w' ⟨rfl,rfl⟩;clear L hx;go_wp2;go_ret;exact⟨rfl,rfl⟩
theorem fmul_v (a b:Fp)(w:World):
    Calls prog 26 #[int u64 (a.val:Nat),int u64 (b.val:Nat)] w fun e w'=>e= .returned (int u64 ((a*b).val:Nat))∧w=w':=fmul _ _ a b rfl rfl w
theorem fsub_v (a b:Fp)(w:World):
    Calls prog 44 #[int u64 (a.val:Nat),int u64 (b.val:Nat)] w fun e w'=>e= .returned (int u64 ((a-b).val:Nat))∧w=w':=fsub _ _ a b rfl rfl w
theorem rightS (x:Fp)(w:World):
    Calls prog 27 #[int u64 (x.val:Nat)] w fun e w'=>e= .returned (int u64 ((crv x).val:Nat))∧w=w':=by
  have e:crv x=x*x*x-3*x+111:=rfl;have L1:=fmul_v (w:=w) x x;have L2:=fmul_v (w:=w) (x*x) x;have L3:=fmul (w:=w) 3 (x.val:Nat) 3 x rfl rfl;have L4:=fsub_v (w:=w) (x*x*x) (3*x);have L5:=fadd (w:=w) ((x*x*x-3*x).val:Nat) 111 (x*x*x-3*x) 111 rfl rfl;rw [←e] at L5;clear e;have hx:=val_lt x;generalize (crv x).val=r at*;generalize (x*x*x-3*x).val=r4 at*;generalize (3*x).val=r3 at*;generalize (x*x*x).val=r2 at*;generalize (x*x).val=r1 at*;generalize x.val=X at*;go_enter func27,ntmps27;go_wp2_with fail;refine L1.mono ?_;rintro e w' ⟨rfl,rfl⟩;clear L1;go_wp2_with fail;refine L2.mono ?_;rintro e w' ⟨rfl,rfl⟩;clear L2;go_wp2_with fail;refine L3.mono ?_;rintro e w' ⟨rfl,rfl⟩;clear L3;go_wp2_with fail;refine L4.mono ?_;rintro e w' ⟨rfl,rfl⟩;clear L4;go_wp2_with fail;refine L5.mono ?_;rintro e w' ⟨rfl,rfl⟩;clear L5;go_wp2;go_ret;exact⟨rfl,rfl⟩
def fv (a:Fp):Int:=(a.val:Int)
theorem fv_eq (a b:Fp):(fv a==fv b)=decide (a=b):=by
  rw [Bool.eq_iff_iff];simp [fv,Fin.ext_iff];omega
def ptW:Pt→Value
  |none=> .agg #[int u64 0,int u64 0,.bool true]
  |some (x,y)=> .agg #[int u64 (fv x),int u64 (fv y),.bool false]
theorem zeroS (w:World):Calls prog 29 #[] w fun e w'=>e= .returned (.agg #[int u64 0,int u64 0,.bool true])∧w'=w.alloc (.cells #[int u64 0,int u64 0,.bool true] 26):=by
  go_enter func29,ntmps29;go_wp2;refine bodyPost_ret (v:= .agg #[int u64 0,int u64 0,.bool true]) (by simp [results,results29,go_sem]) rfl ⟨rfl,by simp⟩
end
end Go.Proofs.Ytnfbfpegagcanaa
