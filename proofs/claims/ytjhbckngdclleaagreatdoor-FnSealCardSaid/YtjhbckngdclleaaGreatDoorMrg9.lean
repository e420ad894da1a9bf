import Derived.Test.YtjhbckngdclleaaGreatDoorMrg8
set_option linter.unusedVariables false
set_option maxRecDepth 100000
set_option maxHeartbeats 16000000
namespace Go.Proofs.YtjhbckngdclleaaGreatDoor
open Go.Proofs.Tryz Go.RowKit
open Go.Value (int)
open Go.IntKind (u64)
section
open M
def putN:Pt→Nat
  |none=>0
  |some (x,y)=>x.val+4611686018427387904+2305843009213693952*(y.val%2)
theorem putN_some (x y:Fp):putN (some (x,y))=x.val+4611686018427387904+2305843009213693952*(y.val%2):=rfl
theorem putN_lt:∀p,putN p<18446744073709551616
  |none=>by decide
  | some (x,y)=>by
    have hx:=val_lt x;have hy:y.val%2<2:=Nat.mod_lt _ (by decide);rw [putN_some];generalize x.val=X at*;generalize y.val%2=Z at*;omega
theorem putS_inf (x y:Int)(w:World):
    Cr 45 #[.agg #[int u64 x,int u64 y,.bool true]] w (.string (strOfNums (be8 (0:Nat)))):=by
  have L:=fun w=>wordS_any 0 w (by decide)
  go_enter func45,ntmps45;go_wp2_with fail;refine(L _).mono ?_;rintro e w' ⟨rfl,hb⟩;clear L;go_wp2;go_ret;exact⟨rfl,((Below.refl _ w).alloc (Nat.le_refl _) _).trans (hb.mono (by simp))⟩
theorem putS_no (x y:Int)(w:World)(O:Cc 70 #[.agg #[int u64 x,int u64 y,.bool false]] (.bool false)):
    Cr 45 #[.agg #[int u64 x,int u64 y,.bool false]] w (.string (strOfNums (be8 (0:Nat)))):=by
  have L:=fun w=>wordS_any 0 w (by decide)
  go_enter func45,ntmps45;go_wp2_with fail;refine(O _).mono ?_;rintro e w1 ⟨rfl,b1⟩;go_wp2_with fail;refine(L _).mono ?_;rintro e w' ⟨rfl,hb⟩;clear L;go_wp2;go_ret;have b0:=(balc w (Obj.cells #[int u64 x,int u64 y,.bool false] 27)).trans (b1.mono (by simp));exact⟨rfl,b0.tr hb⟩
theorem putS_yes (x y:Int)(n:Nat)(w:World)(hx0:0≤x)(hx:x<2305843009213693951)(hy0:0≤y)(hn:(n:Int)=x+4611686018427387904+2305843009213693952*(y%2))
    (O:Cc 70 #[.agg #[int u64 x,int u64 y,.bool false]] (.bool true)):
    Cr 45 #[.agg #[int u64 x,int u64 y,.bool false]] w (.string (strOfNums (be8 n))):=by
  have L:=fun w=>wordS_any n w (by omega)
  rw [hn] at L⊢;clear hn;go_enter func45,ntmps45;go_wp2_with fail;refine(O _).mono ?_;rintro e w1 ⟨rfl,b1⟩;have r0:=(R3.new w x y false).below b1 (by simp);have c0:=r0.c0;have c1:=r0.c1;go_wp2_with fail;refine(L _).mono ?_;rintro e w' ⟨rfl,hb⟩;clear L;go_wp2;go_ret;have b0:=(balc w (Obj.cells #[int u64 x,int u64 y,.bool false] 27)).trans (b1.mono (by simp));exact⟨rfl,b0.tr hb⟩
theorem putS_any (x y:Nat)(b:Bool)(w:World):
    Cr 45 #[.agg #[int u64 x,int u64 y,.bool b]] w (.string (strOfNums (be8 (putN (asPt x y b):Nat)))):=by
  have O:=onS_any x y b
  cases b with
  | true=>
    have e:asPt x y true=none:=by
      unfold asPt toPt;rw [if_pos rfl];split<;>rfl
    rw [e];exact putS_inf x y w
  | false =>
    cases h:toPt x y false with
    | none=>
      rw [h] at O;have e:asPt x y false=none:=by unfold asPt;rw [h];rfl
      rw [e];exact putS_no x y w O
    | some p=>
      rw [h] at O;have e:=toPt_W h;rw [asPt_some h];rcases p with _|⟨X,Y⟩
      · cases e
      · have e1:(x:Int)=fv X∧(y:Int)=fv Y:=by
          simp only [ptW] at e;injection e with e;injection e with e;simpa using e
        have hX:=val_lt X;refine putS_yes x y (putN (some (X,Y))) w (by omega) ?_ (by omega) ?_ O
        · rw [e1.1];unfold fv;omega
        · rw [e1.1,e1.2,putN_some];unfold fv;generalize X.val=A;generalize Y.val=B;omega
theorem timS_no (k:Nat)(x y:Int)(c:Bool)(w:World)
    (O:Cc 70 #[.agg #[int u64 x,int u64 y,.bool c]] (.bool false)):
    Cr 24 #[int u64 k,.agg #[int u64 x,int u64 y,.bool c]] w (.agg #[int u64 0,int u64 0,.bool true]):=by
  go_enter func24,ntmps24;go_wp2_with fail;refine(zeroS _).mono ?_;rintro e w' ⟨rfl,rfl⟩;go_wp2_with fail
  have b0:Bl w ((((w.alloc (Obj.cells #[Value.int IntKind.u64 x,Value.int IntKind.u64 y,Value.bool c] 27)).alloc (Obj.cells #[Value.int IntKind.u64 0,Value.int IntKind.u64 0,Value.bool false] 27)).alloc (Obj.cells #[Value.int IntKind.u64 0,Value.int IntKind.u64 0,Value.bool true] 27)).alloc (Obj.cells #[Value.int IntKind.u64 0,Value.int IntKind.u64 0,Value.bool true] 27)):=
    ((((Below.refl _ w).alloc (Nat.le_refl _) _).alloc (by simp) _).alloc (by simp;omega) _).alloc (by simp;omega) _
  have r0:R3 ((((w.alloc (Obj.cells #[Value.int IntKind.u64 x,Value.int IntKind.u64 y,Value.bool c] 27)).alloc (Obj.cells #[Value.int IntKind.u64 0,Value.int IntKind.u64 0,Value.bool false] 27)).alloc (Obj.cells #[Value.int IntKind.u64 0,Value.int IntKind.u64 0,Value.bool true] 27)).alloc (Obj.cells #[Value.int IntKind.u64 0,Value.int IntKind.u64 0,Value.bool true] 27)) w.heap.size x y c:=
    (((R3.new w x y c).alloc _).alloc _).alloc _
  have r1:R3 ((((w.alloc (Obj.cells #[Value.int IntKind.u64 x,Value.int IntKind.u64 y,Value.bool c] 27)).alloc (Obj.cells #[Value.int IntKind.u64 0,Value.int IntKind.u64 0,Value.bool false] 27)).alloc (Obj.cells #[Value.int IntKind.u64 0,Value.int IntKind.u64 0,Value.bool true] 27)).alloc (Obj.cells #[Value.int IntKind.u64 0,Value.int IntKind.u64 0,Value.bool true] 27)) (w.heap.size+1) 0 0 false:=
    (((R3.new _ 0 0 false).alloc _).alloc _).at (by simp)
  have r3:R3 ((((w.alloc (Obj.cells #[Value.int IntKind.u64 x,Value.int IntKind.u64 y,Value.bool c] 27)).alloc (Obj.cells #[Value.int IntKind.u64 0,Value.int IntKind.u64 0,Value.bool false] 27)).alloc (Obj.cells #[Value.int IntKind.u64 0,Value.int IntKind.u64 0,Value.bool true] 27)).alloc (Obj.cells #[Value.int IntKind.u64 0,Value.int IntKind.u64 0,Value.bool true] 27)) (w.heap.size+1+1+1) 0 0 true:=
    (R3.new _ 0 0 true).at (by simp)
  refine(O _).mono ?_;rintro e w1 ⟨rfl,b1⟩;replace r0:=r0.below b1 r0.lt;replace r1:=r1.below b1 r1.lt;replace r3:=r3.below b1 r3.lt;have b2:=b0.tr b1;clear b0 b1;have c0:=r3.c0;have c1:=r3.c1;have c2:=r3.c2;have d0:=r1.c0;have d1:=r1.c1;have d2:=r1.c2;have f0:=r1.frz 0;have f1:=r1.frz 1;have f2:=r1.frz 2;go_wp2;have rF:=r1.set 0 0 true;refine bodyPost_ret (v:= .agg #[int u64 0,int u64 0,.bool true]) (point_res (fn:=Tryz.f24) (p:=4) results24 _ rfl rF) rfl ⟨rfl,?_⟩;exact set3_below b2 (by omega)
theorem nt_bit0 (p:Pt)(hp:on p)(k j:Nat)(h:k/2^j%2=0):ad (nt (k/2^(j+1)) p) (nt (k/2^(j+1)) p)=nt (k/2^j) p:=by
  have e:=shr_succ k j;rw [h] at e;rw [←nt_add hp,←Nat.two_mul,e];rfl
theorem nt_bit1 (p:Pt)(hp:on p)(k j:Nat)(h:k/2^j%2=1):ad (ad (nt (k/2^(j+1)) p) (nt (k/2^(j+1)) p)) p=nt (k/2^j) p:=by
  have e:=shr_succ k j;rw [h] at e;rw [←nt_add hp,←Nat.two_mul,e];rfl
theorem timS_yes (k:Nat)(p:Pt)(w:World)(hk:k<18446744073709551616)(hp:on p)
    (O:Cc 70 #[.agg #[int u64 (px p),int u64 (py p),.bool (pb p)]] (.bool true)):
    Cr 24 #[int u64 k,.agg #[int u64 (px p),int u64 (py p),.bool (pb p)]] w (.agg #[int u64 (px (nt k p)),int u64 (py (nt k p)),.bool (pb (nt k p))]):=by
  have hN:Hid (∀j,(k/2^j%2=0→ad (nt (k/2^(j+1)) p) (nt (k/2^(j+1)) p)=nt (k/2^j) p)∧(k/2^j%2=1→ad (ad (nt (k/2^(j+1)) p) (nt (k/2^(j+1)) p)) p=nt (k/2^j) p)):=fun j=>⟨nt_bit0 p hp k j,nt_bit1 p hp k j⟩
  have h64:k/2^64=0:=Nat.div_eq_of_lt (by omega);clear hk hp;go_enter func24,ntmps24;go_wp2_with fail;refine(zeroS _).mono ?_;rintro e w' ⟨rfl,rfl⟩;go_wp2_with fail
  have b0:Bl w ((((w.alloc (Obj.cells #[Value.int IntKind.u64 (px p),Value.int IntKind.u64 (py p),Value.bool (pb p)] 27)).alloc (Obj.cells #[Value.int IntKind.u64 0,Value.int IntKind.u64 0,Value.bool false] 27)).alloc (Obj.cells #[Value.int IntKind.u64 0,Value.int IntKind.u64 0,Value.bool true] 27)).alloc (Obj.cells #[Value.int IntKind.u64 0,Value.int IntKind.u64 0,Value.bool true] 27)):=
    ((((Below.refl _ w).alloc (Nat.le_refl _) _).alloc (by simp) _).alloc (by simp;omega) _).alloc (by simp;omega) _
  have r0:R3 ((((w.alloc (Obj.cells #[Value.int IntKind.u64 (px p),Value.int IntKind.u64 (py p),Value.bool (pb p)] 27)).alloc (Obj.cells #[Value.int IntKind.u64 0,Value.int IntKind.u64 0,Value.bool false] 27)).alloc (Obj.cells #[Value.int IntKind.u64 0,Value.int IntKind.u64 0,Value.bool true] 27)).alloc (Obj.cells #[Value.int IntKind.u64 0,Value.int IntKind.u64 0,Value.bool true] 27)) w.heap.size (px p) (py p) (pb p):=
    (((R3.new w (px p) (py p) (pb p)).alloc _).alloc _).alloc _
  have r1:R3 ((((w.alloc (Obj.cells #[Value.int IntKind.u64 (px p),Value.int IntKind.u64 (py p),Value.bool (pb p)] 27)).alloc (Obj.cells #[Value.int IntKind.u64 0,Value.int IntKind.u64 0,Value.bool false] 27)).alloc (Obj.cells #[Value.int IntKind.u64 0,Value.int IntKind.u64 0,Value.bool true] 27)).alloc (Obj.cells #[Value.int IntKind.u64 0,Value.int IntKind.u64 0,Value.bool true] 27)) (w.heap.size+1) 0 0 false:=
    (((R3.new _ 0 0 false).alloc _).alloc _).at (by simp)
  have r3:R3 ((((w.alloc (Obj.cells #[Value.int IntKind.u64 (px p),Value.int IntKind.u64 (py p),Value.bool (pb p)] 27)).alloc (Obj.cells #[Value.int IntKind.u64 0,Value.int IntKind.u64 0,Value.bool false] 27)).alloc (Obj.cells #[Value.int IntKind.u64 0,Value.int IntKind.u64 0,Value.bool true] 27)).alloc (Obj.cells #[Value.int IntKind.u64 0,Value.int IntKind.u64 0,Value.bool true] 27)) (w.heap.size+1+1+1) 0 0 true:=
    (R3.new _ 0 0 true).at (by simp)
  refine(O _).mono ?_;rintro e w1 ⟨rfl,b1⟩;replace r0:=r0.below b1 r0.lt;replace r1:=r1.below b1 r1.lt;replace r3:=r3.below b1 r3.lt;have b2:=b0.tr b1;clear b0 b1;clear O;go_wp2
  go_loopw [6] (fun i wr=>∃(j:Nat) (x:Int) (q:Pt),x=(j:Int)-1∧j≤64∧i= .int .i64 x∧Hid (q=nt (k/2^j) p)∧R3 wr (w.heap.size+1+1+1) (px q) (py q) (pb q)∧R3 wr w.heap.size (px p) (py p) (pb p)∧R3 wr (w.heap.size+1) 0 0 false∧Bl w wr) (fun i _=>(intOf i+1).toNat)
  case atStart=>exact ⟨64,63,none,rfl,by omega,rfl,by rw [h64];rfl,r3,r0,r1,b2⟩
  case round=>
    clear r0 r1 r3 b2 h64;obtain⟨j,x,q,hx,hj,rfl,hq,r3,r0,r1,b2⟩:=hrel;rcases j with _|j
    · have hneg: ¬ ((0:Int)≤x):=by omega
      clear hx;have hq':q=nt k p:=by rw [hq.out,Nat.pow_zero,Nat.div_one]
      subst hq';have c0:=r3.c0;have c1:=r3.c1;have c2:=r3.c2;have d0:=r1.c0;have d1:=r1.c1;have d2:=r1.c2;have f0:=r1.frz 0;have f1:=r1.frz 1;have f2:=r1.frz 2;go_wp2;have rF:=r1.set (px (nt k p)) (py (nt k p)) (pb (nt k p));refine bodyPost_ret (v:= .agg #[int u64 (px (nt k p)),int u64 (py (nt k p)),.bool (pb (nt k p))]) (point_res (fn:=Tryz.f24) (p:=4) results24 _ rfl rF) rfl ⟨rfl,?_⟩;exact set3_below b2 (by omega)
    · obtain rfl:x=(j:Int):=by omega
      clear hx;have hN0:=(hN.out j).1;have hN1:=(hN.out j).2;rw [←hq.out] at hN0 hN1;have S1:=sumS_xyz q q;have S2:=sumS_xyz (ad q q) p;obtain⟨q2,hq2⟩:∃q2,q2=ad q q:=⟨_,rfl⟩;rw [←hq2] at hN0 hN1 S1 S2;obtain⟨q3,hq3⟩:∃q3,q3=ad q2 p:=⟨_,rfl⟩;rw [←hq3] at hN1 S2;clear hq2 hq3 hq;have c0:=r3.c0;have c1:=r3.c1;have c2:=r3.c2;by_cases hbit:k/2^j%2=1
      · have ht:=bit1 _ k j rfl hbit;have hR:Hid (q3=nt (k/2^j) p):=hN1 hbit;clear hN0 hN1 hbit;go_wp2_with fail;refine(S1 _).mono ?_;rintro e w2 ⟨rfl,B⟩;replace r3:=r3.below B r3.lt;replace r0:=r0.below B r0.lt;replace r1:=r1.below B r1.lt;replace b2:=b2.tr B;clear c0 c1 c2 B;have c0:=r3.c0;have c1:=r3.c1;have c2:=r3.c2;have f0:=r3.frz 0;have f1:=r3.frz 1;have f2:=r3.frz 2;have t3:=r3.set (px q2) (py q2) (pb q2);have t0:=r0.other (b':=w.heap.size+1+1+1) (by omega) (px q2) (py q2) (pb q2);have t1:=r1.other (b':=w.heap.size+1+1+1) (by omega) (px q2) (py q2) (pb q2);have tb:=set3_below (b:=w.heap.size+1+1+1) (x:=px q2) (y:=py q2) (c:=pb q2) b2 (by omega);unfold set3 at t3 t0 t1 tb;have e0:=t3.c0;have e1:=t3.c1;have e2:=t3.c2;have g0:=t0.c0;have g1:=t0.c1;have g2:=t0.c2;go_wp2_with fail;refine(S2 _).mono ?_;rintro e w3 ⟨rfl,B⟩;replace t3:=t3.below B t3.lt;replace t0:=t0.below B t0.lt;replace t1:=t1.below B t1.lt;replace tb:=tb.tr B;clear c0 c1 c2 f0 f1 f2 e0 e1 e2 g0 g1 g2 r0 r1 r3 b2 B;have c0:=t3.c0;have c1:=t3.c1;have c2:=t3.c2;have f0:=t3.frz 0;have f1:=t3.frz 1;have f2:=t3.frz 2;go_wp2;go_roundw
        case rel=>exact ⟨j,(j:Int)-1,q3,rfl,by omega,rfl,hR,t3.set (px q3) (py q3) (pb q3),t0.other (by omega) _ _ _,t1.other (by omega) _ _ _,set3_below tb (by omega)⟩
        case measure=>simp [intOf]
      · have hb0:k/2^j%2=0:=by omega
        have ht:=bit0 _ k j rfl hb0;have hR:Hid (q2=nt (k/2^j) p):=hN0 hb0;clear hN0 hN1 hbit hb0;go_wp2_with fail;refine(S1 _).mono ?_;rintro e w2 ⟨rfl,B⟩;replace r3:=r3.below B r3.lt;replace r0:=r0.below B r0.lt;replace r1:=r1.below B r1.lt;replace b2:=b2.tr B;clear c0 c1 c2 B;have c0:=r3.c0;have c1:=r3.c1;have c2:=r3.c2;have f0:=r3.frz 0;have f1:=r3.frz 1;have f2:=r3.frz 2;go_wp2;go_roundw
        case rel=>exact ⟨j,(j:Int)-1,q2,rfl,by omega,rfl,hR,r3.set (px q2) (py q2) (pb q2),r0.other (by omega) _ _ _,r1.other (by omega) _ _ _,set3_below b2 (by omega)⟩
        case measure=>simp [intOf]
theorem nt_none:∀k,nt k none=none
  |0=>rfl
  |k+1=>by rw [nt,nt_none k];rfl
theorem timS_any (k x y:Nat)(b:Bool)(w:World)(hk:k<18446744073709551616):
    Cr 24 #[int u64 k,.agg #[int u64 x,int u64 y,.bool b]] w (ptW (nt k (asPt x y b))):=by
  have O:=onS_any x y b
  cases h:toPt x y b with
  | none=>
    rw [h] at O;have:=timS_no k x y b w O;have e:asPt x y b=none:=by unfold asPt;rw [h];rfl
    rw [e,nt_none];exact this
  | some p=>
    rw [h] at O;have e:=toPt_W h;rw [ptW_eq] at e;rw [e] at O⊢;rw [asPt_some h,ptW_eq];exact timS_yes k p w hk (toPt_on h) O
theorem R3.keep {W W':World}{b:Nat}{x y:Int}{c:Bool}(h:R3 W b x y c)(hb:Bl W W'):R3 W' b x y c:=h.below hb h.lt
theorem kpB {n:Nat}{w0 w1 w2:World}(h:Below n w0 w1)(hn:n≤w1.heap.size)(b:Bl w1 w2):Below n w0 w2:=h.trans (b.mono hn)
theorem negS_no (x y:Int)(c o1:Bool)(w:World)(hok:o1=false∨(o1=true∧c=true))
    (F1:Cc 70 #[.agg #[int u64 x,int u64 y,.bool c]] (.bool o1)):
    Cr 74 #[.agg #[int u64 x,int u64 y,.bool c]] w (.agg #[int u64 0,int u64 0,.bool true]):=by
  obtain⟨X,hX⟩:∃X,X=(w.alloc (Obj.cells #[int u64 x,int u64 y,.bool c] 27)).alloc (Obj.cells #[int u64 0,int u64 0,.bool false] 27):=⟨_,rfl⟩;have hp:R3 X w.heap.size x y c:=by rw [hX];exact(R3.new w x y c).alloc _
  have hr:R3 X (w.heap.size+1) 0 0 false:=by rw [hX];exact(R3.new _ 0 0 false).at (by simp)
  have hb:Bl w X:=by rw [hX];exact((Below.refl _ w).alloc (Nat.le_refl _) _).alloc (by simp) _
  rw [hX] at hp hr hb;clear hX;rcases hok with rfl|⟨rfl,rfl⟩
  · go_enter func74,ntmps74;go_wp2_with fail;refine(F1 _).mono ?_;rintro e w1 ⟨rfl,b1⟩;replace hr:=hr.keep b1;replace hb:=kpB hb hb.size b1;clear b1 F1 hp;go_wp2_with fail;refine(zeroS _).mono ?_;rintro e w3 ⟨rfl,rfl⟩;replace hr:=hr.alloc (Obj.cells #[int u64 0,int u64 0,.bool true] 27);replace hb:=hb.alloc hb.size (Obj.cells #[int u64 0,int u64 0,.bool true] 27);have c0:=hr.c0;have c1:=hr.c1;have c2:=hr.c2;have f0:=hr.frz 0;have f1:=hr.frz 1;have f2:=hr.frz 2;go_wp2;exact bodyPost_ret (v:= .agg #[int u64 0,int u64 0,.bool true]) (point_res (fn:=Tryz.f74) (p:=2) results74 _ rfl (hr.set _ _ _)) rfl ⟨rfl,set3_below hb (by omega)⟩
  · go_enter func74,ntmps74;go_wp2_with fail;refine(F1 _).mono ?_;rintro e w1 ⟨rfl,b1⟩;replace hp:=hp.keep b1;replace hr:=hr.keep b1;replace hb:=kpB hb hb.size b1;clear b1 F1;have d2:=hp.c2;go_wp2_with fail;refine(zeroS _).mono ?_;rintro e w3 ⟨rfl,rfl⟩;replace hr:=hr.alloc (Obj.cells #[int u64 0,int u64 0,.bool true] 27);replace hb:=hb.alloc hb.size (Obj.cells #[int u64 0,int u64 0,.bool true] 27);clear d2;have c0:=hr.c0;have c1:=hr.c1;have c2:=hr.c2;have f0:=hr.frz 0;have f1:=hr.frz 1;have f2:=hr.frz 2;go_wp2;exact bodyPost_ret (v:= .agg #[int u64 0,int u64 0,.bool true]) (point_res (fn:=Tryz.f74) (p:=2) results74 _ rfl (hr.set _ _ _)) rfl ⟨rfl,set3_below hb (by omega)⟩
theorem negS_yes (x y z:Int)(w:World)(hy:IntKind.u64.wrap (2305843009213693951-y)=2305843009213693951-y)(hz:(2305843009213693951-y).tmod 2305843009213693951=z)
    (F1:Cc 70 #[.agg #[int u64 x,int u64 y,.bool false]] (.bool true)):
    Cr 74 #[.agg #[int u64 x,int u64 y,.bool false]] w (.agg #[int u64 x,int u64 z,.bool false]):=by
  obtain⟨X,hX⟩:∃X,X=(w.alloc (Obj.cells #[int u64 x,int u64 y,.bool false] 27)).alloc (Obj.cells #[int u64 0,int u64 0,.bool false] 27):=⟨_,rfl⟩;have hp:R3 X w.heap.size x y false:=by rw [hX];exact(R3.new w x y false).alloc _
  have hr:R3 X (w.heap.size+1) 0 0 false:=by rw [hX];exact(R3.new _ 0 0 false).at (by simp)
  have hb:Bl w X:=by rw [hX];exact((Below.refl _ w).alloc (Nat.le_refl _) _).alloc (by simp) _
  rw [hX] at hp hr hb;clear hX;go_enter func74,ntmps74;go_wp2_with fail;refine(F1 _).mono ?_;rintro e w1 ⟨rfl,b1⟩;replace hp:=hp.keep b1;replace hr:=hr.keep b1;replace hb:=kpB hb hb.size b1;clear b1 F1;have d0:=hp.c0;have d1:=hp.c1;have d2:=hp.c2;have c0:=hr.c0;have c1:=hr.c1;have c2:=hr.c2;have f0:=hr.frz 0;have f1:=hr.frz 1;have f2:=hr.frz 2;go_wp2;exact bodyPost_ret (v:= .agg #[int u64 x,int u64 z,.bool false]) (point_res (fn:=Tryz.f74) (p:=2) results74 _ rfl (hr.set _ _ _)) rfl ⟨rfl,set3_below hb (by omega)⟩
theorem fv_neg (y:Fp):(2305843009213693951-fv y).tmod 2305843009213693951=fv (-y):=by
  have hy:=val_lt y
  have e:(-y).val=(2305843009213693951-y.val)%2305843009213693951:=by
    rw [Fin.val_neg];split
    · rename_i h;subst h;rfl
    · rename_i h
      have:y.val≠0:=fun e=>h (Fin.ext e)
      omega
  unfold fv;rw [e,Int.tmod_eq_emod_of_nonneg (by omega)];generalize y.val=Y at*;omega
theorem negS_any (x y:Nat)(c:Bool)(w:World):
    Cr 74 #[.agg #[int u64 x,int u64 y,.bool c]] w (ptW (ng (asPt x y c))):=by
  have F1:=onS_any x y c
  cases h1:toPt x y c with
  | none=>
    rw [h1] at F1;have e:asPt x y c=none:=by unfold asPt;rw [h1];rfl
    rw [e];exact negS_no _ _ _ _ w (.inl rfl) F1
  | some p=>
    rw [h1] at F1;rw [asPt_some h1];obtain⟨e1,e2,e3⟩:=fields_of h1;rcases p with _|⟨X,Y⟩
    · subst e3;exact negS_no _ _ _ _ w (.inr ⟨rfl,rfl⟩) F1
    · subst e3;have hY:=val_lt Y;have hy:(y:Int)=fv Y:=e2;have hx:(x:Int)=fv X:=e1;have:=negS_yes x y (fv (-Y)) w (by rw [IntKind.wrap_u64,hy];unfold fv;omega) (by rw [hy];exact fv_neg Y) F1;rw [hx] at this⊢;exact this
end
end Go.Proofs.YtjhbckngdclleaaGreatDoor
