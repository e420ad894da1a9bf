import Derived.Test.YtmjniccfjffclaaGreatDoorMrg24
set_option linter.unusedVariables false
set_option maxRecDepth 100000
set_option maxHeartbeats 16000000
namespace Go.Proofs.YtmjniccfjffclaaGreatDoor
open Go.Proofs.Tryz Go.RowKit
open Go.Value (int)
open Go.IntKind (u64)
section
open M
theorem rt_ex (x:Fp):∃rb:Fp×Bool,
    (∀w,Calls prog 164 #[int u64 (fv x)] w fun e w'=>e= .returned (.tuple #[int u64 (fv rb.1),.bool rb.2])∧w=w')∧
    (Cc 180 #[.agg #[int u64 (fv x)]] (.tuple #[.agg #[int u64 (fv rb.1)],.bool rb.2]))∧
    (rb.2=false→∀y:Fp,y*y≠x)∧(rb.2=true→rb.1*rb.1=x):=by
  obtain⟨r,b,h1,h2,h3,h4,h5⟩:=ev_both x.val (val_lt x);refine⟨(⟨r,h3⟩,b),h1,h2,fun hb y hy=>(h4 hb).2 y.val ?_,fun hb=> ?_⟩
  · rw [←hy,Fin.val_mul]
  · apply Fin.ext;rw [Fin.val_mul];exact(h5 hb).2
noncomputable def rtV (x:Fp):Fp:=(Classical.choose (rt_ex x)).1
noncomputable def rtB (x:Fp):Bool:=(Classical.choose (rt_ex x)).2
theorem rtI (x:Fp)(w:World):Cr 180 #[.agg #[int u64 (fv x)]] w (.tuple #[.agg #[int u64 (fv (rtV x))],.bool (rtB x)]):=(Classical.choose_spec (rt_ex x)).2.1 w
theorem rt_no (x:Fp)(h:rtB x=false)(y:Fp):y*y≠x:=(Classical.choose_spec (rt_ex x)).2.2.1 h y
theorem rt_yes (x:Fp)(h:rtB x=true):rtV x*rtV x=x:=(Classical.choose_spec (rt_ex x)).2.2.2 h
noncomputable def mXX (u:Fp):Fp:=if rtB (crv (mX u)) then mX u else mS u*mX u
noncomputable def mYY (u:Fp):Fp:=rtV (crv (mXX u))
noncomputable def mYo (u:Fp):Fp:=if (fv u%2==1) then 0-mYY u else mYY u
theorem mXX_sq (u:Fp):mYY u*mYY u=crv (mXX u):=by
  apply rt_yes;unfold mXX
  cases h:rtB (crv (mX u)) with
  |true=>rw [if_pos rfl];exact h
  | false=>
    rw [if_neg (by simp)];rcases has_one u with ⟨y,hy⟩|⟨y,hy⟩
    · exact absurd hy (rt_no _ h y)
    · cases h2:rtB (crv (mS u*mX u)) with
      |true=>rfl
      |false=>exact absurd hy (rt_no _ h2 y)
theorem map_on (u:Fp):on (some (mXX u,mYo u)):=by
  show mYo u*mYo u=crv (mXX u);rw [←mXX_sq];unfold mYo;split
  · grobner
  · rfl
theorem map_ifs (f o:Bool)(x x2 y1 y2:Fp)(X Y:Fp)(hX:X=if f then x else x2)(hY:Y=if o then 0-(if f then y1 else y2) else (if f then y1 else y2)):
    (.agg #[int u64 (if f then fv x else fv x2),int u64 (if o then (if f then fv (0-y1) else fv (0-y2)) else (if f then fv y1 else fv y2)),.bool false]:Value)= .agg #[int u64 (fv X),int u64 (fv Y),.bool false]:=by
  subst hX hY;cases f<;>cases o<;>rfl
theorem map_Y (u:Fp):mYo u=if (fv u%2==1) then 0-(if rtB (crv (mX u)) then rtV (crv (mX u)) else rtV (crv (mS u*mX u))) else (if rtB (crv (mX u)) then rtV (crv (mX u)) else rtV (crv (mS u*mX u))):=by
  unfold mYo mYY mXX;cases rtB (crv (mX u))<;>simp
theorem n111:(0-111:Fp)=2305843009213693840:=by decide
theorem nm3:(0-3:Fp)=2305843009213693948:=by decide
theorem rdZ (w:World):Cr 113 #[int u64 2305843009213693949,.agg #[]] w (.agg #[int u64 (fv 2305843009213693949)]):=rdV 2305843009213693949 w
theorem mapI_in (u:Fp)(w:World):
    Cr 161 #[.agg #[int u64 (fv u)]] w (.agg #[int u64 (fv (mXX u)),int u64 (fv (mYo u)),.bool false]):=by
  have es:(2305843009213693949:Fp)*u*u=mS u:=by unfold mS;grobner
  have et:mS u*mS u+mS u=mT u:=rfl;rw [←map_ifs (rtB (crv (mX u))) (fv u%2==1) (mX u) (mS u*mX u) (rtV (crv (mX u))) (rtV (crv (mS u*mX u))) (mXX u) (mYo u) rfl (map_Y u)];by_cases ht:mT u=0
  · have ex:(111:Fp)*fi (2305843009213693949*(0-3))=mX u:=by rw [mX,if_pos ht,nm3]
    have h1:=tmV (2305843009213693949*u) u;rw [es] at h1;have h2:=plV (mS u*mS u) (mS u);rw [et] at h2;have h3:=tmV 111 (fi (2305843009213693949*(0-3)));rw [ex] at h3
    exact mapB_of (fv u) (fv 3) (fv (0-3)) (fv 111) (fv 2305843009213693949) (fv (2305843009213693949*u)) (fv (mS u)) (fv (mS u*mS u)) (fv (mT u)) (fv (2305843009213693949*(0-3))) (fv (fi (2305843009213693949*(0-3)))) (fv (mX u))
      (fv (crv (mX u))) (fv (rtV (crv (mX u)))) (fv (mS u*mX u)) (fv (crv (mS u*mX u))) (fv (rtV (crv (mS u*mX u)))) (fv (0-rtV (crv (mX u)))) (fv (0-rtV (crv (mS u*mX u)))) _ _ _ w
      rd3 (ngV 3) rd111 rdZ (tmV 2305843009213693949 u) h1 (tmV (mS u) (mS u)) h2 (tmV 2305843009213693949 (0-3)) (ivV (2305843009213693949*(0-3))) h3
      (by rw [fv_zero];simp [ht]) (fv_ge u) rfl (csqV (mX u)) (rtI (crv (mX u))) (tmV (mS u) (mX u)) (csqV (mS u*mX u)) (rtI (crv (mS u*mX u))) (ngV (rtV (crv (mX u)))) (ngV (rtV (crv (mS u*mX u))))
  · have ex:(fi (mT u)+1)*(0-111)*fi (0-3)=mX u:=by rw [mX,if_neg ht,nm3,n111];grobner
    have h1:=tmV (2305843009213693949*u) u;rw [es] at h1;have h2:=plV (mS u*mS u) (mS u);rw [et] at h2;have h3:=tmV ((fi (mT u)+1)*(0-111)) (fi (0-3));rw [ex] at h3
    exact mapA_of (fv u) (fv 3) (fv (0-3)) (fv 111) (fv 2305843009213693949) (fv (2305843009213693949*u)) (fv (mS u)) (fv (mS u*mS u)) (fv (mT u)) (fv (fi (mT u))) (fv 1) (fv (fi (mT u)+1)) (fv (0-111)) (fv ((fi (mT u)+1)*(0-111))) (fv (fi (0-3))) (fv (mX u))
      (fv (crv (mX u))) (fv (rtV (crv (mX u)))) (fv (mS u*mX u)) (fv (crv (mS u*mX u))) (fv (rtV (crv (mS u*mX u)))) (fv (0-rtV (crv (mX u)))) (fv (0-rtV (crv (mS u*mX u)))) _ _ _ w
      rd3 (ngV 3) rd111 rdZ (tmV 2305843009213693949 u) h1 (tmV (mS u) (mS u)) h2 (ivV (mT u)) rd1 (plV (fi (mT u)) 1) (ngV 111) (tmV (fi (mT u)+1) (0-111)) (ivV (0-3)) h3
      (by rw [fv_zero];simp [ht]) (fv_ge u) rfl (csqV (mX u)) (rtI (crv (mX u))) (tmV (mS u) (mX u)) (csqV (mS u*mX u)) (rtI (crv (mS u*mX u))) (ngV (rtV (crv (mX u)))) (ngV (rtV (crv (mS u*mX u))))
def toF (v:Nat):Fp:=Fin.ofNat _ v
noncomputable def mapP (u:Nat):Pt:=some (mXX (toF u),mYo (toF u))
theorem mapP_on (u:Nat):on (mapP u):=map_on (toF u)
noncomputable def hPt (msg tag:ByteArray):Pt:=ad (mapP (hNum msg tag 2305843009213693951 2 0)) (mapP (hNum msg tag 2305843009213693951 2 1))
noncomputable def elT (t:Tri):Bool:=onT t&& !t.2.2
def keyB (k:Nat):Bool:=decide (1≤k∧k<2305843010818082053)
def txtB (mode:Int)(n m:Nat):Bool:=decide ((0≤mode∧mode≤2)∧n≤65535∧m≤60000∧(mode=2∨m=0))
def infW:ByteArray:=⟨#[73,110,102,111]⟩
def grpW:ByteArray:=⟨#[72,97,115,104,84,111,71,114,111,117,112,45]⟩
def finW:ByteArray:=⟨#[70,105,110,97,108,105,122,101]⟩
def twk (info:ByteArray):Nat:=scaN (infW++sizB info) 2
theorem twk_lt (info:ByteArray):twk info<2305843010818082053:=scaN_lt _ _
theorem infoT_size (info:ByteArray):(infW++sizB info).size=info.size+6:=by
  rw [ByteArray.size_append,sizB_size,show infW.size=4 from rfl];omega
noncomputable def hsh (mode:Int) (input:ByteArray):Pt:=hPt input (tagB grpW mode.toNat)
theorem hsh_on (mode:Int)(input:ByteArray):on (hsh mode input):=ad_on (mapP_on _) (mapP_on _)
theorem tagG_size (k:Nat)(h:k<3):(tagB grpW k).size=24:=tagB_size _ k h
def outT (mode:Int)(input info:ByteArray)(u:Pt):ByteArray:=(if mode=2 then sizB input++sizB info else sizB input)++sizB (ptB u)++finW
def outB (mode:Int)(input info:ByteArray)(u:Pt):ByteArray:=strOfNums (shaF (byt (outT mode input info u)))
def kt (key:Nat)(info:ByteArray):Nat:=(key+twk info)%2305843010818082053
theorem kt_lt (key:Nat)(info:ByteArray):kt key info<2305843010818082053:=Nat.mod_lt _ (by decide)
def facC (mode:Int)(key:Nat)(info:ByteArray):Int:=if mode=2∧kt key info=0 then 3 else 0
def facT (mode:Int)(key:Nat)(info:ByteArray):Nat:=if mode=2 then kt key info else key
def facB (mode:Int)(key:Nat)(info:ByteArray):Nat:=if mode=2 then (if kt key info=0 then 0 else M.ivn 2305843010818082053 (kt key info)) else key
theorem pb_none (p:Pt):pb p=true↔p=none:=by
  rcases p with _|⟨x,y⟩<;>simp [pb]
theorem txtB_iff {mode:Int}{n m:Nat}:txtB mode n m=true↔(0≤mode∧mode≤2)∧n≤65535∧m≤60000∧(mode=2∨m=0):=by unfold txtB;rw [decide_eq_true_eq]
theorem txtB_not {mode:Int}{n m:Nat}(h: ¬ ((0≤mode∧mode≤2)∧n≤65535∧m≤60000∧(mode=2∨m=0))):txtB mode n m=false:=by unfold txtB;rw [decide_eq_false h]
theorem keyB_iff {k:Nat}:keyB k=true↔1≤k∧k<2305843010818082053:=by unfold keyB;rw [decide_eq_true_eq]
theorem md_of {mode:Int}(h1:0≤mode)(h2:mode≤2):mode.toNat<3∧((mode.toNat:Nat):Int)=mode:=by omega
theorem ivn_lt' (m a:Nat)(h:0<m):M.ivn m a<m:=by unfold M.ivn;exact Nat.mod_lt _ h
theorem facB_lt (mode:Int)(key:Nat)(info:ByteArray)(h:key<2305843010818082053):facB mode key info<2305843010818082053:=by
  unfold facB;split
  · split
    · decide
    · exact ivn_lt' _ _ (by decide)
  · exact h
theorem outT_size (mode:Int)(input info:ByteArray)(u:Pt)(h1:input.size≤65535)(h2:info.size≤60000):(outT mode input info u).size≤130000:=by
  unfold outT;split<;>simp only [ByteArray.size_append,sizB_size,ptB_size,show finW.size=8 from rfl]<;>omega
end
end Go.Proofs.YtmjniccfjffclaaGreatDoor
