import Derived.Test.YtmjniccfjffclaaGreatDoorMrg24
set_option linter.unusedVariables false
set_option maxRecDepth 100000
set_option maxHeartbeats 16000000
namespace Go.Proofs.YtmjniccfjffclaaGreatDoor
open Go.Proofs.Tryz Go.RowKit
open Go.Value (int)
open Go.IntKind (u64)
section
open M
theorem mapS_of (V U u2 s s2 t za iz x0 ia m1 it p1 x1 x g1 y1 x2 g2 y2 n1 n2:Int)(fd fd2 od tz:Bool)(w:World)
    (hV:V.tmod 2305843009213693951=U)(hU:0≤U)(ho:(U%2==1)=od)(ht:(t==0)=tz)(hx:x=if tz then x0 else x1)
    (hn1:(2305843009213693951-y1)%2305843009213693951=n1)(hn2:(2305843009213693951-y2)%2305843009213693951=n2)(hy1:0≤y1)(hy1':y1<2305843009213693951)(hy2:0≤y2)(hy2':y2<2305843009213693951)
    (L1:∀w,Calls prog 89 #[int u64 U,int u64 U] w fun e w'=>e= .returned (int u64 u2)∧w=w')
    (L2:∀w,Calls prog 89 #[int u64 2305843009213693949,int u64 u2] w fun e w'=>e= .returned (int u64 s)∧w=w')
    (L3:∀w,Calls prog 89 #[int u64 s,int u64 s] w fun e w'=>e= .returned (int u64 s2)∧w=w')
    (L4:∀w,Calls prog 64 #[int u64 s2,int u64 s,int u64 2305843009213693951] w fun e w'=>e= .returned (int u64 t)∧w=w')
    (L5:∀w,Calls prog 89 #[int u64 2305843009213693949,int u64 2305843009213693948] w fun e w'=>e= .returned (int u64 za)∧w=w')
    (L6:∀w,Calls prog 58 #[int u64 za,int u64 2305843009213693951] w fun e w'=>e= .returned (int u64 iz)∧w=w')
    (L7:∀w,Calls prog 89 #[int u64 111,int u64 iz] w fun e w'=>e= .returned (int u64 x0)∧w=w')
    (L8:∀w,Calls prog 58 #[int u64 2305843009213693948,int u64 2305843009213693951] w fun e w'=>e= .returned (int u64 ia)∧w=w')
    (L9:∀w,Calls prog 89 #[int u64 2305843009213693840,int u64 ia] w fun e w'=>e= .returned (int u64 m1)∧w=w')
    (L10:∀w,Calls prog 58 #[int u64 t,int u64 2305843009213693951] w fun e w'=>e= .returned (int u64 it)∧w=w')
    (L11:∀w,Calls prog 64 #[int u64 1,int u64 it,int u64 2305843009213693951] w fun e w'=>e= .returned (int u64 p1)∧w=w')
    (L12:∀w,Calls prog 89 #[int u64 m1,int u64 p1] w fun e w'=>e= .returned (int u64 x1)∧w=w')
    (L13:∀w,Calls prog 89 #[int u64 s,int u64 x] w fun e w'=>e= .returned (int u64 x2)∧w=w')
    (R1:∀w,Calls prog 90 #[int u64 x] w fun e w'=>e= .returned (int u64 g1)∧w=w')
    (R2:∀w,Calls prog 90 #[int u64 x2] w fun e w'=>e= .returned (int u64 g2)∧w=w')
    (Q1:∀w,Calls prog 164 #[int u64 g1] w fun e w'=>e= .returned (.tuple #[int u64 y1,.bool fd])∧w=w')
    (Q2:∀w,Calls prog 164 #[int u64 g2] w fun e w'=>e= .returned (.tuple #[int u64 y2,.bool fd2])∧w=w'):
    Cr 125 #[int u64 V] w (.agg #[int u64 (if fd then x else x2),int u64 (if od then (if fd then n1 else n2) else (if fd then y1 else y2)),.bool false]):=by
  have z1:0≤2305843009213693951-y1:=by omega
  have z2:2305843009213693951-y1<18446744073709551616:=by omega
  have z3:0≤2305843009213693951-y2:=by omega
  have z4:2305843009213693951-y2<18446744073709551616:=by omega
  go_enter func125,ntmps125;go_wp2_with fail;refine(L1 _).mono ?_;rintro e w' ⟨rfl,rfl⟩;go_wp2_with fail;refine(L2 _).mono ?_;rintro e w' ⟨rfl,rfl⟩;go_wp2_with fail;refine(L3 _).mono ?_;rintro e w' ⟨rfl,rfl⟩;go_wp2_with fail;refine(L4 _).mono ?_;rintro e w' ⟨rfl,rfl⟩;go_wp2_with fail;refine(L5 _).mono ?_;rintro e w' ⟨rfl,rfl⟩;go_wp2_with fail;refine(L6 _).mono ?_;rintro e w' ⟨rfl,rfl⟩;go_wp2_with fail;refine(L7 _).mono ?_;rintro e w' ⟨rfl,rfl⟩;clear L1 L2 L3 L4 L5 L6 L7
  cases tz with
  | true=>
    simp only [if_true] at hx;subst hx;go_wp2_with fail;refine(R1 _).mono ?_;rintro e w' ⟨rfl,rfl⟩;go_wp2_with fail;refine(Q1 _).mono ?_;rintro e w' ⟨rfl,rfl⟩
    cases fd with
    | true=>
      cases od with
      | true=>
        go_wp2;exact bodyPost_ret (by simp [results,results125,go_sem]) rfl ⟨rfl,(Below.refl _ _).alloc (Nat.le_refl _) _⟩
      | false=>
        go_wp2;exact bodyPost_ret (by simp [results,results125,go_sem]) rfl ⟨rfl,(Below.refl _ _).alloc (Nat.le_refl _) _⟩
    | false=>
      go_wp2_with fail;refine(L13 _).mono ?_;rintro e w' ⟨rfl,rfl⟩;go_wp2_with fail;refine(R2 _).mono ?_;rintro e w' ⟨rfl,rfl⟩;go_wp2_with fail;refine(Q2 _).mono ?_;rintro e w' ⟨rfl,rfl⟩
      cases od with
      | true=>
        go_wp2;exact bodyPost_ret (by simp [results,results125,go_sem]) rfl ⟨rfl,(Below.refl _ _).alloc (Nat.le_refl _) _⟩
      | false=>
        go_wp2;exact bodyPost_ret (by simp [results,results125,go_sem]) rfl ⟨rfl,(Below.refl _ _).alloc (Nat.le_refl _) _⟩
  | false=>
    simp only [if_false,Bool.false_eq_true] at hx;subst hx;go_wp2_with fail;refine(L8 _).mono ?_;rintro e w' ⟨rfl,rfl⟩;go_wp2_with fail;refine(L9 _).mono ?_;rintro e w' ⟨rfl,rfl⟩;go_wp2_with fail;refine(L10 _).mono ?_;rintro e w' ⟨rfl,rfl⟩;go_wp2_with fail;refine(L11 _).mono ?_;rintro e w' ⟨rfl,rfl⟩;go_wp2_with fail;refine(L12 _).mono ?_;rintro e w' ⟨rfl,rfl⟩;go_wp2_with fail;refine(R1 _).mono ?_;rintro e w' ⟨rfl,rfl⟩;go_wp2_with fail;refine(Q1 _).mono ?_;rintro e w' ⟨rfl,rfl⟩
    cases fd with
    | true=>
      cases od with
      | true=>
        go_wp2;exact bodyPost_ret (by simp [results,results125,go_sem]) rfl ⟨rfl,(Below.refl _ _).alloc (Nat.le_refl _) _⟩
      | false=>
        go_wp2;exact bodyPost_ret (by simp [results,results125,go_sem]) rfl ⟨rfl,(Below.refl _ _).alloc (Nat.le_refl _) _⟩
    | false=>
      go_wp2_with fail;refine(L13 _).mono ?_;rintro e w' ⟨rfl,rfl⟩;go_wp2_with fail;refine(R2 _).mono ?_;rintro e w' ⟨rfl,rfl⟩;go_wp2_with fail;refine(Q2 _).mono ?_;rintro e w' ⟨rfl,rfl⟩
      cases od with
      | true=>
        go_wp2;exact bodyPost_ret (by simp [results,results125,go_sem]) rfl ⟨rfl,(Below.refl _ _).alloc (Nat.le_refl _) _⟩
      | false=>
        go_wp2;exact bodyPost_ret (by simp [results,results125,go_sem]) rfl ⟨rfl,(Below.refl _ _).alloc (Nat.le_refl _) _⟩
theorem rt_ex (x:Fp):∃rb:Fp×Bool,
    (∀w,Calls prog 164 #[int u64 (fv x)] w fun e w'=>e= .returned (.tuple #[int u64 (fv rb.1),.bool rb.2])∧w=w')∧
    (Cc 180 #[.agg #[int u64 (fv x)]] (.tuple #[.agg #[int u64 (fv rb.1)],.bool rb.2]))∧
    (rb.2=false→∀y:Fp,y*y≠x)∧(rb.2=true→rb.1*rb.1=x):=by
  obtain⟨r,b,h1,h2,h3,h4,h5⟩:=ev_both x.val (val_lt x);refine⟨(⟨r,h3⟩,b),h1,h2,fun hb y hy=>(h4 hb).2 y.val ?_,fun hb=> ?_⟩
  · rw [←hy,Fin.val_mul]
  · apply Fin.ext;rw [Fin.val_mul];exact(h5 hb).2
noncomputable def rtV (x:Fp):Fp:=(Classical.choose (rt_ex x)).1
noncomputable def rtB (x:Fp):Bool:=(Classical.choose (rt_ex x)).2
theorem rtS (x:Fp)(w:World):Calls prog 164 #[int u64 (fv x)] w fun e w'=>e= .returned (.tuple #[int u64 (fv (rtV x)),.bool (rtB x)])∧w=w':=(Classical.choose_spec (rt_ex x)).1 w
theorem rt_no (x:Fp)(h:rtB x=false)(y:Fp):y*y≠x:=(Classical.choose_spec (rt_ex x)).2.2.1 h y
theorem rt_yes (x:Fp)(h:rtB x=true):rtV x*rtV x=x:=(Classical.choose_spec (rt_ex x)).2.2.2 h
noncomputable def mXX (u:Fp):Fp:=if rtB (crv (mX u)) then mX u else mS u*mX u
noncomputable def mYY (u:Fp):Fp:=rtV (crv (mXX u))
noncomputable def mYo (u:Fp):Fp:=if (fv u%2==1) then 0-mYY u else mYY u
theorem mXX_sq (u:Fp):mYY u*mYY u=crv (mXX u):=by
  apply rt_yes;unfold mXX
  cases h:rtB (crv (mX u)) with
  |true=>rw [if_pos rfl];exact h
  | false=>
    rw [if_neg (by simp)];rcases has_one u with ⟨y,hy⟩|⟨y,hy⟩
    · exact absurd hy (rt_no _ h y)
    · cases h2:rtB (crv (mS u*mX u)) with
      |true=>rfl
      |false=>exact absurd hy (rt_no _ h2 y)
theorem map_on (u:Fp):on (some (mXX u,mYo u)):=by
  show mYo u*mYo u=crv (mXX u);rw [←mXX_sq];unfold mYo;split
  · grobner
  · rfl
theorem map_ifs (f o:Bool)(x x2 y1 y2:Fp)(X Y:Fp)(hX:X=if f then x else x2)(hY:Y=if o then 0-(if f then y1 else y2) else (if f then y1 else y2)):
    (.agg #[int u64 (if f then fv x else fv x2),int u64 (if o then (if f then fv (0-y1) else fv (0-y2)) else (if f then fv y1 else fv y2)),.bool false]:Value)= .agg #[int u64 (fv X),int u64 (fv Y),.bool false]:=by
  subst hX hY;cases f<;>cases o<;>rfl
theorem map_Y (u:Fp):mYo u=if (fv u%2==1) then 0-(if rtB (crv (mX u)) then rtV (crv (mX u)) else rtV (crv (mS u*mX u))) else (if rtB (crv (mX u)) then rtV (crv (mX u)) else rtV (crv (mS u*mX u))):=by
  unfold mYo mYY mXX;cases rtB (crv (mX u))<;>simp
theorem fv_ng0 (y:Fp):(2305843009213693951-fv y)%2305843009213693951=fv (0-y):=by
  have h:=val_lt y;unfold fv;rw [Fin.val_sub];show _=(((2305843009213693951-y.val+0)%2305843009213693951:Nat):Int);omega
def toF (v:Nat):Fp:=Fin.ofNat _ v
theorem toF_val (v:Nat):((v:Int)).tmod 2305843009213693951=fv (toF v):=by
  rw [Int.tmod_eq_emod_of_nonneg (by omega)];rfl
theorem mapS_any (v:Nat)(w:World):
    Cr 125 #[int u64 v] w (.agg #[int u64 (fv (mXX (toF v))),int u64 (fv (mYo (toF v))),.bool false]):=by
  obtain⟨u,hu⟩:∃u,u=toF v:=⟨_,rfl⟩;have hv:=toF_val v;rw [←hu] at hv⊢;have et:mS u*mS u+mS u=mT u:=rfl;rw [←map_ifs (rtB (crv (mX u))) (fv u%2==1) (mX u) (mS u*mX u) (rtV (crv (mX u))) (rtV (crv (mS u*mX u))) (mXX u) (mYo u) rfl (map_Y u)];have h2:=vadd (mS u*mS u) (mS u);rw [et] at h2
  refine mapS_of v (fv u) (fv (u*u)) (fv (mS u)) (fv (mS u*mS u)) (fv (mT u)) (fv (2305843009213693949*2305843009213693948)) (fv (fi (2305843009213693949*2305843009213693948))) (fv (111*fi (2305843009213693949*2305843009213693948)))
    (fv (fi 2305843009213693948)) (fv (2305843009213693840*fi 2305843009213693948)) (fv (fi (mT u))) (fv (1+fi (mT u))) (fv (2305843009213693840*fi 2305843009213693948*(1+fi (mT u)))) (fv (mX u))
    (fv (crv (mX u))) (fv (rtV (crv (mX u)))) (fv (mS u*mX u)) (fv (crv (mS u*mX u))) (fv (rtV (crv (mS u*mX u)))) (fv (0-rtV (crv (mX u)))) (fv (0-rtV (crv (mS u*mX u)))) _ _ _ (decide (mT u=0)) w
    hv (fv_ge u) rfl (fv_zero _) ?_ (fv_ng0 _) (fv_ng0 _) (fv_ge _) (fv_lt _) (fv_ge _) (fv_lt _)
    (vmul u u) (vmul 2305843009213693949 (u*u)) (vmul (mS u) (mS u)) h2 (vmul 2305843009213693949 2305843009213693948) (vinv (2305843009213693949*2305843009213693948)) (vmul 111 (fi (2305843009213693949*2305843009213693948)))
    (vinv 2305843009213693948) (vmul 2305843009213693840 (fi 2305843009213693948)) (vinv (mT u)) (vadd 1 (fi (mT u))) (vmul (2305843009213693840*fi 2305843009213693948) (1+fi (mT u))) (vmul (mS u) (mX u))
    (rightS (mX u)) (rightS (mS u*mX u)) (rtS (crv (mX u))) (rtS (crv (mS u*mX u)))
  unfold mX;by_cases ht:mT u=0
  · rw [if_pos ht,if_pos (by simp [ht])]
  · rw [if_neg ht,if_neg (by simp [ht])]
section
variable {ev:Operand→Value}{w:World}{dst:Option Tmp}{ty:TypeId}{ps:String}{af:Array Edge}{gd:Option (Nat×Bool)}{x y:Operand}{b i:Nat}{X Y X0 Y0:Int}{c c0:Bool}
theorem execM_storeP (hx:ev x= .pointer (some ⟨b,0,none⟩))(hy:ev y= .agg #[int u64 X,int u64 Y,.bool c])(hr:K3 w 34 b X0 Y0 c0):
    (execOp ev (Opr dst (.store 34 x y) ty ps af gd)).run prog w= .ok .skip (set3 w b X Y c):=by
  have h1:=hr.c0;have h2:=hr.c1;have h3:=hr.c2;have h4:=hr.frz;simp [execOp,hx,hy,h1,h2,h3,h4,go_sem,set3]
theorem execM_idxW {g n cap k:Nat}(hx:ev x= .slice (some ⟨g,0,none⟩) n cap)(hy:ev y= .int .i64 (k:Int))(hk:k<n):
    (execOp ev (Opr dst (.indexAddr 114 x y) ty ps af gd)).run prog w= .ok (.value (.pointer (some ⟨g,k,none⟩))) w:=by
  have h2:(k:Int)<(n:Int):=by omega
  simp [execOp,hx,hy,h2,go_sem]
end
section
variable {A:Act}{w W0:World}{dst:Option Tmp}{ty:TypeId}{ps:String}{af:Array Edge}{gd:Option (Nat×Bool)}{x y:Operand}{b i:Nat}
theorem doS_idx {g n cap k:Nat}(hx:A.eval x= .slice (some ⟨g,0,none⟩) n cap)(hy:A.eval y= .int .i64 (k:Int))(hk:k<n):
    Does prog (Opr dst (.indexAddr 114 x y) ty ps af gd) A w fun v' w'=>v'= .pointer (some ⟨g,k,none⟩)∧Bl w w':=by
  have h:=execM_idxW (ev:=A.eval) (w:=w) (dst:=dst) (ty:=ty) (ps:=ps) (af:=af) (gd:=gd) hx hy hk;exact does_value h ⟨rfl,Below.refl _ _⟩
end
theorem cf_mapS (args:Array Value)(w:World):(callFunc 125 args).run prog w= .ok (.enter 125 args) w:=by kernel_rfl
theorem cf_sum (args:Array Value)(w:World):(callFunc 49 args).run prog w= .ok (.enter 49 args) w:=by kernel_rfl
theorem ptt_res {W:World}{b:Nat}{x y:Int}{c:Bool}{fn:Func}{p u:Tmp}(h:fn.results=#[.cell p 34,.tmp u])(tmps:Array Value)(hp:tmps.getD p undef= .pointer (some ⟨b,0,none⟩))(hc:K3 W 34 b x y c):
    (results fn tmps).run prog W= .ok (.tuple #[.agg #[int u64 x,int u64 y,.bool c],tmps.getD u undef]) W:=by
  have hp':tmps[p]?.getD undef= .pointer (some ⟨b,0,none⟩):=by simpa using hp
  simp [results,h,hp',asAddr,run_loadVar_mid W b 0 34 [int u64 x,int u64 y,.bool c] _ hc.range underlying34 rfl (by kernel_rfl)]
noncomputable def mapP (u:Nat):Pt:=some (mXX (toF u),mYo (toF u))
theorem mapP_on (u:Nat):on (mapP u):=map_on (toF u)
noncomputable def hPt (msg tag:ByteArray):Pt:=ad (mapP (hNum msg tag 2305843009213693951 2 0)) (mapP (hNum msg tag 2305843009213693951 2 1))
theorem h2gS_of (msg tag:ByteArray)(H:List Int)(u0 u1 ax ay dx dy sx sy:Int)(ac dc sc:Bool)(w:World)
    (X:∀w,Calls prog 124 #[.string msg,.string tag,int u64 2305843009213693951,.int .i64 2] w fun e w'=>∃g cap,e= .returned (.tuple #[.slice (some ⟨g,0,none⟩) 2 cap,.bool true])∧Row w' w.heap.size g 2 cap (H.map (Value.int .u64))∧Bl w w')
    (h0:lk H 0=u0)(h1:lk H 1=u1)
    (M0:Cc 125 #[int u64 u0] (.agg #[int u64 ax,int u64 ay,.bool ac]))
    (M1:Cc 125 #[int u64 u1] (.agg #[int u64 dx,int u64 dy,.bool dc]))
    (SU:Cc 49 #[.agg #[int u64 ax,int u64 ay,.bool ac],.agg #[int u64 dx,int u64 dy,.bool dc]] (.agg #[int u64 sx,int u64 sy,.bool sc])):
    Cr 92 #[.string msg,.string tag] w (.tuple #[.agg #[int u64 sx,int u64 sy,.bool sc],.bool true]):=by
  have hr:=K3.new w 34 0 0 false;have hb:=balc w (Obj.cells #[int u64 0,int u64 0,.bool false] 34);go_enter func92,ntmps92;go_wp2_with fail;refine(X _).mono ?_;rintro e W1 ⟨g,cap,rfl,hrow,b1⟩;replace hr:=hr.keep b1;replace hb:=hb.tr b1;have c0:=hrow.drew.cell 0 (by omega);have c1:=hrow.drew.cell 1 (by omega);rw [h0] at c0;rw [h1] at c1;clear X hrow b1;go_wp2
  refine pool_pre 9 [.val (.slice (some ⟨g,0,none⟩) 2 cap),
      .val (.pointer (some ⟨g,0,none⟩)),
      .val (int u64 u0),
      .val (.agg #[int u64 ax,int u64 ay,.bool ac]),
      .val (.slice (some ⟨g,0,none⟩) 2 cap),
      .val (.pointer (some ⟨g,1,none⟩)),
      .val (int u64 u1),
      .val (.agg #[int u64 dx,int u64 dy,.bool dc]),
      .val (.agg #[int u64 sx,int u64 sy,.bool sc])] [[6],[17],[18],[19],[6],[21],[22],[23],[20,24]] (fun f=> [(some 17,.slice (some ⟨g,0,none⟩) 2 cap),(some 18,.pointer (some ⟨g,0,none⟩)),(some 19,int u64 u0),(some 20,.agg #[int u64 ax,int u64 ay,.bool ac]),(some 21,.slice (some ⟨g,0,none⟩) 2 cap),(some 22,.pointer (some ⟨g,1,none⟩)),(some 23,int u64 u1),(some 24,.agg #[int u64 dx,int u64 dy,.bool dc]),(some 25,.agg #[int u64 sx,int u64 sy,.bool sc])]) (by kernel_rfl) (by kernel_rfl) (by kernel_rfl) (by kernel_rfl) (by decide) (by kernel_rfl) (fun _=>by kernel_rfl) ?_ ?_
  · intro ix hix
    match ix,hix with
    |0,_=>exact obv [(6,.slice (some ⟨g,0,none⟩) 2 cap)] rfl rfl (fun A w ⟨e0,_⟩ hB=>doS_move e0)
    |1,_=>exact obv [(17,.slice (some ⟨g,0,none⟩) 2 cap)] rfl rfl (fun A w ⟨e0,_⟩ hB=>doS_idx (k:=0) e0 rfl (by decide))
    |2,_=>exact obv [(18,.pointer (some ⟨g,0,none⟩))] rfl rfl (fun A w ⟨e0,_⟩ hB=>doS_loadW e0 (keepA c0 hB))
    |3,_=>exact obv [(19,int u64 u0)] rfl rfl (fun A w ⟨e0,_⟩ hB=>doS_call1 cf_mapS e0 (M0 w))
    |4,_=>exact obv [(6,.slice (some ⟨g,0,none⟩) 2 cap)] rfl rfl (fun A w ⟨e0,_⟩ hB=>doS_move e0)
    |5,_=>exact obv [(21,.slice (some ⟨g,0,none⟩) 2 cap)] rfl rfl (fun A w ⟨e0,_⟩ hB=>doS_idx (k:=1) e0 rfl (by decide))
    |6,_=>exact obv [(22,.pointer (some ⟨g,1,none⟩))] rfl rfl (fun A w ⟨e0,_⟩ hB=>doS_loadW e0 (keepA c1 hB))
    |7,_=>exact obv [(23,int u64 u1)] rfl rfl (fun A w ⟨e0,_⟩ hB=>doS_call1 cf_mapS e0 (M1 w))
    |8,_=>exact obv [(20,.agg #[int u64 ax,int u64 ay,.bool ac]),(24,.agg #[int u64 dx,int u64 dy,.bool dc])] rfl rfl (fun A w ⟨e0,e1,_⟩ hB=>doS_call2 cf_sum e0 e1 (SU w))
    |ix+9,h=>exact absurd h (by simp)
  intro f w4 hB _ fuel hfuel;replace hr:=hr.drew.keep hB;replace hb:=hb.drew.trans (hB.mono hb.size);simp only [puts,List.foldl,Act.put,List.setIfInBounds_toArray,List.set_cons_zero,List.set_cons_succ];refine last_seq (vq:= .bool true) 9 10 hfuel (by kernel_rfl) (by kernel_rfl) (by kernel_rfl) rfl rfl rfl rfl rfl (some 5) rfl (does_skip (execM_storeP rfl rfl hr) rfl) (fun w=>does_value (execS_assign rfl) ⟨rfl,rfl⟩) ?_;simp only [Act.put,List.setIfInBounds_toArray,List.set_cons_zero,List.set_cons_succ];go_wp2;exact bodyPost_ret (v:= .tuple #[.agg #[int u64 sx,int u64 sy,.bool sc],.bool true]) (ptt_res (fn:=Tryz.f92) (p:=4) (u:=5) results92 _ rfl (hr.set sx sy sc)) rfl ⟨rfl,set3_below hb (Nat.le_refl _)⟩
theorem h2gS_yes (msg tag:ByteArray)(w:World)(h:okT msg tag):
    Cr 92 #[.string msg,.string tag] w (.tuple #[ptW (hPt msg tag),.bool true]):=by
  rw [ptW_eq]
  exact h2gS_of msg tag (h2f (byt msg) (byt tag) 2305843009213693951 2) _ _ _ _ _ _ _ _ _ _ _ w (fun w=>h2fS_yes msg tag 2305843009213693951 2 w (by decide) ((okT_H (by decide) (by decide) (by decide)).1 h))
    (h2f_at msg tag 2305843009213693951 2 0 (by omega)) (h2f_at msg tag 2305843009213693951 2 1 (by omega)) (fun w=>mapS_any _ w) (fun w=>mapS_any _ w) (fun w=>sumS_xyz (mapP _) (mapP _) w)
noncomputable def elT (t:Tri):Bool:=onT t&& !t.2.2
def keyB (k:Nat):Bool:=decide (1≤k∧k<2305843010818082053)
def txtB (mode:Int)(n m:Nat):Bool:=decide ((0≤mode∧mode≤2)∧n≤65535∧m≤60000∧(mode=2∨m=0))
def infW:ByteArray:=⟨#[73,110,102,111]⟩
def grpW:ByteArray:=⟨#[72,97,115,104,84,111,71,114,111,117,112,45]⟩
def finW:ByteArray:=⟨#[70,105,110,97,108,105,122,101]⟩
def twk (info:ByteArray):Nat:=scaN (infW++sizB info) 2
theorem twk_lt (info:ByteArray):twk info<2305843010818082053:=scaN_lt _ _
theorem infoT_size (info:ByteArray):(infW++sizB info).size=info.size+6:=by
  rw [ByteArray.size_append,sizB_size,show infW.size=4 from rfl];omega
noncomputable def hsh (mode:Int) (input:ByteArray):Pt:=hPt input (tagB grpW mode.toNat)
theorem hsh_on (mode:Int)(input:ByteArray):on (hsh mode input):=ad_on (mapP_on _) (mapP_on _)
theorem tagG_size (k:Nat)(h:k<3):(tagB grpW k).size=24:=tagB_size _ k h
def outT (mode:Int)(input info:ByteArray)(u:Pt):ByteArray:=(if mode=2 then sizB input++sizB info else sizB input)++sizB (ptB u)++finW
def outB (mode:Int)(input info:ByteArray)(u:Pt):ByteArray:=strOfNums (shaF (byt (outT mode input info u)))
def kt (key:Nat)(info:ByteArray):Nat:=(key+twk info)%2305843010818082053
theorem kt_lt (key:Nat)(info:ByteArray):kt key info<2305843010818082053:=Nat.mod_lt _ (by decide)
def facC (mode:Int)(key:Nat)(info:ByteArray):Int:=if mode=2∧kt key info=0 then 3 else 0
def facT (mode:Int)(key:Nat)(info:ByteArray):Nat:=if mode=2 then kt key info else key
def facB (mode:Int)(key:Nat)(info:ByteArray):Nat:=if mode=2 then (if kt key info=0 then 0 else M.ivn 2305843010818082053 (kt key info)) else key
theorem pb_none (p:Pt):pb p=true↔p=none:=by
  rcases p with _|⟨x,y⟩<;>simp [pb]
theorem txtB_iff {mode:Int}{n m:Nat}:txtB mode n m=true↔(0≤mode∧mode≤2)∧n≤65535∧m≤60000∧(mode=2∨m=0):=by unfold txtB;rw [decide_eq_true_eq]
theorem txtB_not {mode:Int}{n m:Nat}(h: ¬ ((0≤mode∧mode≤2)∧n≤65535∧m≤60000∧(mode=2∨m=0))):txtB mode n m=false:=by unfold txtB;rw [decide_eq_false h]
theorem keyB_iff {k:Nat}:keyB k=true↔1≤k∧k<2305843010818082053:=by unfold keyB;rw [decide_eq_true_eq]
theorem md_of {mode:Int}(h1:0≤mode)(h2:mode≤2):mode.toNat<3∧((mode.toNat:Nat):Int)=mode:=by omega
theorem ivn_lt' (m a:Nat)(h:0<m):M.ivn m a<m:=by unfold M.ivn;exact Nat.mod_lt _ h
theorem facB_lt (mode:Int)(key:Nat)(info:ByteArray)(h:key<2305843010818082053):facB mode key info<2305843010818082053:=by
  unfold facB;split
  · split
    · decide
    · exact ivn_lt' _ _ (by decide)
  · exact h
theorem outT_size (mode:Int)(input info:ByteArray)(u:Pt)(h1:input.size≤65535)(h2:info.size≤60000):(outT mode input info u).size≤130000:=by
  unfold outT;split<;>simp only [ByteArray.size_append,sizB_size,ptB_size,show finW.size=8 from rfl]<;>omega
end
end Go.Proofs.YtmjniccfjffclaaGreatDoor
