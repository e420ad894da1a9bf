import Derived.Test.YtnfbfpegagcanaaMrg14
set_option linter.unusedVariables false
set_option maxRecDepth 100000
set_option maxHeartbeats 16000000
namespace Go.Proofs.Ytnfbfpegagcanaa
open Go.Proofs.Try Go.RowKit
open Go.Value (int)
open Go.IntKind (u64)
theorem sqS_no (x r z:Int)(w:World)(h1:x<2305843009213693951)(hz:(z==x)=false)
    (L:∀w,Calls prog 66 #[int u64 x,int u64 576460752303423488,int u64 2305843009213693951] w fun e w'=>e= .returned (int u64 r)∧w=w')
    (M:∀w,Calls prog 26 #[int u64 r,int u64 r] w fun e w'=>e= .returned (int u64 z)∧w=w'):
    Calls prog 72 #[int u64 x] w fun e w'=>e= .returned (.tuple #[int u64 0,.bool false])∧w=w':=by
  go_enter func72,ntmps72;go_wp2_with (first|(go_at_call 66;refine(L _).mono ?_;rintro e w' ⟨rfl,rfl⟩)|(go_at_call 26;refine(M _).mono ?_;rintro e w' ⟨rfl,rfl⟩));go_ret2;exact⟨rfl,rfl⟩
theorem sqS_odd (x r:Int)(w:World)(h1:x<2305843009213693951)(ho:(r%2==1)=true)(hr0:0≤r)(hr:r≤2305843009213693951)
    (L:∀w,Calls prog 66 #[int u64 x,int u64 576460752303423488,int u64 2305843009213693951] w fun e w'=>e= .returned (int u64 r)∧w=w')
    (M:∀w,Calls prog 26 #[int u64 r,int u64 r] w fun e w'=>e= .returned (int u64 x)∧w=w'):
    Calls prog 72 #[int u64 x] w fun e w'=>e= .returned (.tuple #[int u64 (2305843009213693951-r),.bool true])∧w=w':=by
  go_enter func72,ntmps72;go_wp2_with (first|(go_at_call 66;refine(L _).mono ?_;rintro e w' ⟨rfl,rfl⟩)|(go_at_call 26;refine(M _).mono ?_;rintro e w' ⟨rfl,rfl⟩));go_ret2;exact⟨rfl,rfl⟩
theorem sqS_even (x r:Int)(w:World)(h1:x<2305843009213693951)(ho:(r%2==1)=false)(hr0:0≤r)
    (L:∀w,Calls prog 66 #[int u64 x,int u64 576460752303423488,int u64 2305843009213693951] w fun e w'=>e= .returned (int u64 r)∧w=w')
    (M:∀w,Calls prog 26 #[int u64 r,int u64 r] w fun e w'=>e= .returned (int u64 x)∧w=w'):
    Calls prog 72 #[int u64 x] w fun e w'=>e= .returned (.tuple #[int u64 r,.bool true])∧w=w':=by
  go_enter func72,ntmps72;go_wp2_with (first|(go_at_call 66;refine(L _).mono ?_;rintro e w' ⟨rfl,rfl⟩)|(go_at_call 26;refine(M _).mono ?_;rintro e w' ⟨rfl,rfl⟩));go_ret2;exact⟨rfl,rfl⟩
theorem results_ct {P:Program}{fn:Func}{p u:Tmp}{ty:TypeId}(h:fn.results=#[.cell p ty,.tmp u])(tmps:Array Value)(w:World)(g y:Nat)(d:TypeDesc)
    (hp:tmps.getD p undef= .pointer (some ⟨g,0,none⟩))(hc:Rp w ty g y)
    (hu:P.underlying ty=some d)(hd:d.isRow=true)(hi:(P.info? ty).map (·.size)=some 1):
    (results fn tmps).run P w= .ok (.tuple #[.agg #[int u64 y],tmps.getD u undef]) w:=by
  have hp':tmps[p]?.getD undef= .pointer (some ⟨g,0,none⟩):=by simpa using hp
  simp [results,h,hp',asAddr,run_loadVar_mid w g 0 ty [int u64 y] d hc.range hu hd hi]
theorem evenP_no (x r z:Nat)(w:World)(hz:((z:Int)==(x:Int))=false)
    (L:Cc 75 #[.agg #[int u64 x],int u64 576460752303423488] (.agg #[int u64 r]))
    (M:Cc 46 #[.agg #[int u64 r],.agg #[int u64 r]] (.agg #[int u64 z])):
    Cr 115 #[.agg #[int u64 x]] w (.tuple #[.agg #[int u64 0],.bool false]):=by
  go_enter func115,ntmps115;go_wp2_with fail;refine(L _).mono ?_;rintro e w1 ⟨rfl,b1⟩;have hx0:Rp ((w.alloc (Obj.cells #[int u64 (x:Int)] 81)).alloc (Obj.cells #[int u64 0] 81)) 81 w.heap.size x:=(Rp.new w _ x).alloc _;have hr0':Rp ((w.alloc (Obj.cells #[int u64 (x:Int)] 81)).alloc (Obj.cells #[int u64 0] 81)) 81 (w.heap.size+1) 0:=(Rp.new _ _ 0).at (by simp);have hx1:=hx0.below b1 hx0.lt;have hr1:=hr0'.below b1 hr0'.lt;have hw1:Bl w w1:=(((Below.refl _ w).alloc (Nat.le_refl _) _).alloc (by simp) _).trans (b1.mono (by simp;omega));have hl1:w.heap.size+2≤w1.heap.size:=by have:=b1.size;simp at this;omega
  clear b1 hx0 hr0';have rR:=(Rp.new w1 81 r).drew;have rX:=(hx1.alloc (Obj.cells #[int u64 (r:Int)] 81)).drew;have rO:=(hr1.alloc (Obj.cells #[int u64 (r:Int)] 81)).drew;have hw2:=(hw1.alloc hw1.size (Obj.cells #[int u64 (r:Int)] 81)).drew;have cR:=rR.cell;have cX:=rX.cell;go_wp2
  go_region_held3 (fun w'=>w'.cell? ⟨w1.heap.size,0,none⟩=some (int u64 (r:Int))∧w'.cell? ⟨w.heap.size,0,none⟩=some (int u64 (x:Int))) (first|exact ⟨cR,cX⟩|exact ⟨qR,qX⟩|go_keep) ((go_at_call 46;refine(M _).mono ?_;rintro e w3 ⟨rfl,b3⟩;have sR:=rR.below b3 rR.lt;have sX:=rX.below b3 rX.lt;have sO:=rO.below b3 rO.lt;have qR:=sR.cell;have qX:=sX.cell))
  have hw3:=hw2.tr b3;have qO:=sO.cell;have fO:=sO.frz;have fR:=sR.frz;have hne:w1.heap.size≠w.heap.size+1:=by omega
  clear b3 hw2 rX rO rR cR cX hx1 hr1 hw1 L M sX qX;go_wp2;have rF:=sO.set 0;refine bodyPost_ret (v:= .tuple #[.agg #[int u64 0],.bool false]) (results_ct (fn:=Try.f115) (p:=2) (u:=3) (ty:=81) results115 _ _ (w.heap.size+1) _ _ rfl rF underlying81 rfl (by kernel_rfl)) rfl ⟨rfl,?_⟩;exact hw3.setCell (p:=⟨w.heap.size+1,0,none⟩) (by simp) _
theorem evenP_even (x r:Nat)(w:World)(ho:(((r:Nat):Int)%2==1)=false)
    (L:Cc 75 #[.agg #[int u64 x],int u64 576460752303423488] (.agg #[int u64 r]))
    (M:Cc 46 #[.agg #[int u64 r],.agg #[int u64 r]] (.agg #[int u64 x])):
    Cr 115 #[.agg #[int u64 x]] w (.tuple #[.agg #[int u64 r],.bool true]):=by
  go_enter func115,ntmps115;go_wp2_with fail;refine(L _).mono ?_;rintro e w1 ⟨rfl,b1⟩;have hx0:Rp ((w.alloc (Obj.cells #[int u64 (x:Int)] 81)).alloc (Obj.cells #[int u64 0] 81)) 81 w.heap.size x:=(Rp.new w _ x).alloc _;have hr0':Rp ((w.alloc (Obj.cells #[int u64 (x:Int)] 81)).alloc (Obj.cells #[int u64 0] 81)) 81 (w.heap.size+1) 0:=(Rp.new _ _ 0).at (by simp);have hx1:=hx0.below b1 hx0.lt;have hr1:=hr0'.below b1 hr0'.lt;have hw1:Bl w w1:=(((Below.refl _ w).alloc (Nat.le_refl _) _).alloc (by simp) _).trans (b1.mono (by simp;omega));have hl1:w.heap.size+2≤w1.heap.size:=by have:=b1.size;simp at this;omega
  clear b1 hx0 hr0';have rR:=(Rp.new w1 81 r).drew;have rX:=(hx1.alloc (Obj.cells #[int u64 (r:Int)] 81)).drew;have rO:=(hr1.alloc (Obj.cells #[int u64 (r:Int)] 81)).drew;have hw2:=(hw1.alloc hw1.size (Obj.cells #[int u64 (r:Int)] 81)).drew;have cR:=rR.cell;have cX:=rX.cell;go_wp2
  go_region_held3 (fun w'=>w'.cell? ⟨w1.heap.size,0,none⟩=some (int u64 (r:Int))∧w'.cell? ⟨w.heap.size,0,none⟩=some (int u64 (x:Int))) (first|exact ⟨cR,cX⟩|exact ⟨qR,qX⟩|go_keep) ((go_at_call 46;refine(M _).mono ?_;rintro e w3 ⟨rfl,b3⟩;have sR:=rR.below b3 rR.lt;have sX:=rX.below b3 rX.lt;have sO:=rO.below b3 rO.lt;have qR:=sR.cell;have qX:=sX.cell))
  have hw3:=hw2.tr b3;have qO:=sO.cell;have fO:=sO.frz;have fR:=sR.frz;have hne:w1.heap.size≠w.heap.size+1:=by omega
  clear b3 hw2 rX rO rR cR cX hx1 hr1 hw1 L M sX qX;go_wp2;have rF:=sO.set r;refine bodyPost_ret (v:= .tuple #[.agg #[int u64 r],.bool true]) (results_ct (fn:=Try.f115) (p:=2) (u:=3) (ty:=81) results115 _ _ (w.heap.size+1) _ _ rfl rF underlying81 rfl (by kernel_rfl)) rfl ⟨rfl,?_⟩;exact hw3.setCell (p:=⟨w.heap.size+1,0,none⟩) (by simp) _
theorem evenP_odd (x r:Nat)(w:World)(ho:(((r:Nat):Int)%2==1)=true)(r':Nat)
    (N:Cc 49 #[.agg #[int u64 r]] (.agg #[int u64 r']))
    (L:Cc 75 #[.agg #[int u64 x],int u64 576460752303423488] (.agg #[int u64 r]))
    (M:Cc 46 #[.agg #[int u64 r],.agg #[int u64 r]] (.agg #[int u64 x])):
    Cr 115 #[.agg #[int u64 x]] w (.tuple #[.agg #[int u64 r'],.bool true]):=by
  go_enter func115,ntmps115;go_wp2_with fail;refine(L _).mono ?_;rintro e w1 ⟨rfl,b1⟩;have hx0:Rp ((w.alloc (Obj.cells #[int u64 (x:Int)] 81)).alloc (Obj.cells #[int u64 0] 81)) 81 w.heap.size x:=(Rp.new w _ x).alloc _;have hr0':Rp ((w.alloc (Obj.cells #[int u64 (x:Int)] 81)).alloc (Obj.cells #[int u64 0] 81)) 81 (w.heap.size+1) 0:=(Rp.new _ _ 0).at (by simp);have hx1:=hx0.below b1 hx0.lt;have hr1:=hr0'.below b1 hr0'.lt;have hw1:Bl w w1:=(((Below.refl _ w).alloc (Nat.le_refl _) _).alloc (by simp) _).trans (b1.mono (by simp;omega));have hl1:w.heap.size+2≤w1.heap.size:=by have:=b1.size;simp at this;omega
  clear b1 hx0 hr0';have rR:=(Rp.new w1 81 r).drew;have rX:=(hx1.alloc (Obj.cells #[int u64 (r:Int)] 81)).drew;have rO:=(hr1.alloc (Obj.cells #[int u64 (r:Int)] 81)).drew;have hw2:=(hw1.alloc hw1.size (Obj.cells #[int u64 (r:Int)] 81)).drew;have cR:=rR.cell;have cX:=rX.cell;go_wp2
  go_region_held3 (fun w'=>w'.cell? ⟨w1.heap.size,0,none⟩=some (int u64 (r:Int))∧w'.cell? ⟨w.heap.size,0,none⟩=some (int u64 (x:Int))) (first|exact ⟨cR,cX⟩|exact ⟨qR,qX⟩|go_keep) ((go_at_call 46;refine(M _).mono ?_;rintro e w3 ⟨rfl,b3⟩;have sR:=rR.below b3 rR.lt;have sX:=rX.below b3 rX.lt;have sO:=rO.below b3 rO.lt;have qR:=sR.cell;have qX:=sX.cell))
  have hw3:=hw2.tr b3;have qO:=sO.cell;have fO:=sO.frz;have fR:=sR.frz;have hne:w1.heap.size≠w.heap.size+1:=by omega
  clear b3 hw2 rX rO rR cR cX hx1 hr1 hw1 L M sX qX;go_wp2_with fail;refine(N _).mono ?_;rintro e w4 ⟨rfl,b4⟩;replace sR:=sR.below b4 sR.lt;replace sO:=sO.below b4 sO.lt;replace hw3:=hw3.tr b4;clear b4 qR qO fO fR N;have qR:=sR.cell;have qO:=sO.cell;have fO:=sO.frz;have fR:=sR.frz;have tR:=sR.set r';have tO:Rp (w4.setCell ⟨w1.heap.size,0,none⟩ (int u64 (r':Int))) _ _ _:=sO.other (Ne.symm hne) _;have hw4:=hw3.setCell (p:=⟨w1.heap.size,0,none⟩) (by simp;omega) (int u64 (r':Int));have uR:=tR.cell;have uO:=tO.cell;have gO:=tO.frz;go_wp2;have rF:=tO.set r';refine bodyPost_ret (v:= .tuple #[.agg #[int u64 r'],.bool true]) (results_ct (fn:=Try.f115) (p:=2) (u:=3) (ty:=81) results115 _ _ (w.heap.size+1) _ _ rfl rF underlying81 rfl (by kernel_rfl)) rfl ⟨rfl,?_⟩;exact hw4.setCell (p:=⟨w.heap.size+1,0,none⟩) (by simp) _
theorem pow_both (x e m:Nat)(he:e<18446744073709551616)(hm:m=2305843009213693951)(h:x<m):∃r:Nat,r<m∧r=x^e%m∧
    (∀w,Calls prog 66 #[int u64 x,int u64 e,int u64 m] w fun e w'=>e= .returned (int u64 r)∧w=w')∧
    (Cc 75 #[.agg #[int u64 x],int u64 e] (.agg #[int u64 r])):=by
  subst hm;exact⟨_,Nat.mod_lt _ (by decide),rfl,fun w=>powS_any x e _ w (by omega) he (by decide) (by decide),fun w=>powP_any x e w h he⟩
theorem sq_comp (x y r k:Nat)(hr:r=x^(2^k)%2305843009213693951)(hk:2^(k+2)=2305843009213693951-1+2)(hy:y*y%2305843009213693951=x):r*r%2305843009213693951=x:=by
  have e1:r*r%2305843009213693951=x^(2^k+2^k)%2305843009213693951:=by rw [hr,←Nat.mul_mod,←Nat.pow_add]
  have e2:(y*y)^(2^k+2^k)=y^(2^(k+2)):=by
    rw [Nat.mul_pow,←Nat.pow_add,Nat.pow_succ,Nat.pow_succ];congr 1;omega
  rw [e1,←hy,←Nat.pow_mod,e2];exact M.rootP.two (k+2) y hk
theorem ev_both (x:Nat)(h:x<2305843009213693951):∃(r:Nat) (b:Bool),
    (∀w,Calls prog 72 #[int u64 x] w fun e w'=>e= .returned (.tuple #[int u64 r,.bool b])∧w=w')∧
    (Cc 115 #[.agg #[int u64 x]] (.tuple #[.agg #[int u64 r],.bool b]))∧
    r<2305843009213693951∧(b=false→r=0∧∀y,y*y%2305843009213693951≠x)∧(b=true→r%2=0∧r*r%2305843009213693951=x):=by
  obtain⟨j,hj⟩:∃j:Nat,j=59:=⟨_,rfl⟩;obtain⟨k,hk⟩:∃k:Nat,k=2^j:=⟨_,rfl⟩;have hk1:(k:Int)=576460752303423488:=by rw [hk,hj];rfl
  have hj2:2^(j+2)=2305843009213693951-1+2:=by rw [hj]
  obtain⟨r,hr,hre,L,P⟩:=pow_both x k 2305843009213693951 (by omega) rfl h;simp only [hk1] at L P;rw [hk] at hre;clear hk hk1 hj;have M:=fun w=>l2times_any r r w hr hr
  have T:=fun w=>timP_any r r w hr hr
  have hz:r*r%2305843009213693951<2305843009213693951:=Nat.mod_lt _ (by decide);by_cases hzx:r*r%2305843009213693951=x
  · rw [hzx] at M T;by_cases ho:r%2=1
    · have ho1:(((r:Nat):Int)%2==1)=true:=by simp;omega
      have hr1:1≤r:=by omega
      refine⟨2305843009213693951-r,true,fun w=> ?_,fun w=> ?_,by omega,by simp,fun _=>⟨by omega,?_⟩⟩
      · have:=sqS_odd x r w (by omega) ho1 (by omega) (by omega) L M;rwa [show (2305843009213693951:Int)-(r:Int)=((2305843009213693951-r:Nat):Int) by omega] at this
      · exact evenP_odd x r w ho1 (2305843009213693951-r) (fun w=>ngP_of r ((2305843009213693951-r:Nat):Int) w fun w=>mnP_any 0 r _ w (by omega) (by omega) (by omega) (by omega) (by rw [if_pos (by omega)];omega)) P T
      · rw [←hzx];obtain⟨q,hq⟩:∃q,q+r=2305843009213693951:=⟨2305843009213693951-r,by omega⟩;have e1:2305843009213693951-r=q:=by omega
        rw [e1];have e2:q*q+2305843009213693951*r=r*r+2305843009213693951*q:=by rw [←hq];grobner
        have e3:(q*q+2305843009213693951*r)%2305843009213693951=(r*r+2305843009213693951*q)%2305843009213693951:=by rw [e2]
        rwa [Nat.add_mul_mod_self_left,Nat.add_mul_mod_self_left] at e3
    · have ho1:(((r:Nat):Int)%2==1)=false:=by simp;omega
      exact⟨r,true,fun w=>sqS_even x r w (by omega) ho1 (by omega) L M,fun w=>evenP_even x r w ho1 P T,hr,by simp,fun _=>⟨by omega,hzx⟩⟩
  · have hno:∀y,y*y%2305843009213693951≠x:=fun y hy=>hzx (sq_comp x y r j hre hj2 hy)
    clear hre;generalize r*r%2305843009213693951=z at*;have hzx1:((z:Int)==(x:Int))=false:=by simp;omega
    exact⟨0,false,fun w=>sqS_no x r z w (by omega) hzx1 L M,fun w=>evenP_no x r z w hzx1 P T,by decide,fun _=>⟨rfl,hno⟩,by simp⟩
section
open M
section
variable (n x:Int)
theorem powI_big (z:Int)(w:World)(hn0:0≤n)(hx:n.tmod 2305843009213693952=x)
    (E:Cc 45 #[int u64 x,.agg #[]] (.tuple #[.agg #[int u64 z],.bool false])):
    Cr 114 #[int u64 n] w (.tuple #[.agg #[int u64 0,int u64 0,.bool true],.bool false]):=by
  have hr:=K3.new w 50 0 0 false;have hb:=balc w (Obj.cells #[int u64 0,int u64 0,.bool false] 50);go_enter func114,ntmps114;go_wp2_with fail;refine(E _).mono ?_;rintro e w1 ⟨rfl,b1⟩;replace hr:=(hr.keep b1).alloc (Obj.cells #[int u64 z] 81);replace hb:=keepB hb hb.size b1;replace hb:=hb.alloc hb.size (Obj.cells #[int u64 z] 81);clear b1 E;go_wp2_with fail;refine(zpP _).mono ?_;rintro e w2 ⟨rfl,b2⟩;replace hr:=hr.keep b2;replace hb:=keepB hb hb.size b2;have d0:=hr.c0;have d1:=hr.c1;have d2:=hr.c2;have f0:=hr.frz 0;have f1:=hr.frz 1;have f2:=hr.frz 2;go_wp2;exact bodyPost_ret (v:= .tuple #[.agg #[int u64 0,int u64 0,.bool true],.bool false]) (cp_ct (fn:=Try.f114) (p:=2) (u:=3) results114 _ rfl (hr.set _ _ _)) rfl ⟨rfl,set3_below hb (Nat.le_refl _)⟩
theorem powI_mark (z q:Int)(w:World)(hn0:0≤n)(hx:n.tmod 2305843009213693952=x)(hq:n.tdiv 4611686018427387904=q)(hqw:IntKind.u64.wrap q=q)(hq1:(q==1)=false)
    (E:Cc 45 #[int u64 x,.agg #[]] (.tuple #[.agg #[int u64 z],.bool true])):
    Cr 114 #[int u64 n] w (.tuple #[.agg #[int u64 0,int u64 0,.bool true],.bool false]):=by
  have hr:=K3.new w 50 0 0 false;have hb:=balc w (Obj.cells #[int u64 0,int u64 0,.bool false] 50);go_enter func114,ntmps114;go_wp2_with fail;refine(E _).mono ?_;rintro e w1 ⟨rfl,b1⟩;replace hr:=(hr.keep b1).alloc (Obj.cells #[int u64 z] 81);replace hb:=keepB hb hb.size b1;replace hb:=hb.alloc hb.size (Obj.cells #[int u64 z] 81);clear b1 E;go_wp2_with fail;refine(zpP _).mono ?_;rintro e w2 ⟨rfl,b2⟩;replace hr:=hr.keep b2;replace hb:=keepB hb hb.size b2;have d0:=hr.c0;have d1:=hr.c1;have d2:=hr.c2;have f0:=hr.frz 0;have f1:=hr.frz 1;have f2:=hr.frz 2;go_wp2;exact bodyPost_ret (v:= .tuple #[.agg #[int u64 0,int u64 0,.bool true],.bool false]) (cp_ct (fn:=Try.f114) (p:=2) (u:=3) results114 _ rfl (hr.set _ _ _)) rfl ⟨rfl,set3_below hb (Nat.le_refl _)⟩
theorem powI_no (z r:Int)(w:World)(hn0:0≤n)(hx:n.tmod 2305843009213693952=x)(hq:n.tdiv 4611686018427387904=1)
    (E:Cc 45 #[int u64 x,.agg #[]] (.tuple #[.agg #[int u64 x],.bool true]))
    (Cs:Cc 47 #[.agg #[int u64 x]] (.agg #[int u64 z]))
    (Ev:Cc 115 #[.agg #[int u64 z]] (.tuple #[.agg #[int u64 r],.bool false])):
    Cr 114 #[int u64 n] w (.tuple #[.agg #[int u64 0,int u64 0,.bool true],.bool false]):=by
  have hr:=K3.new w 50 0 0 false;have hb:=balc w (Obj.cells #[int u64 0,int u64 0,.bool false] 50);go_enter func114,ntmps114;go_wp2_with fail;refine(E _).mono ?_;rintro e w1 ⟨rfl,b1⟩;replace hr:=(hr.keep b1).alloc (Obj.cells #[int u64 x] 81);replace hb:=keepB hb hb.size b1;replace hb:=hb.alloc hb.size (Obj.cells #[int u64 x] 81);clear b1 E;go_wp2_with fail;refine(Cs _).mono ?_;rintro e w2 ⟨rfl,b1⟩;replace hr:=hr.keep b1;replace hb:=keepB hb hb.size b1;clear b1 Cs;go_wp2_with fail;refine(Ev _).mono ?_;rintro e w3 ⟨rfl,b1⟩;replace hr:=(hr.keep b1).alloc (Obj.cells #[int u64 r] 81);replace hb:=keepB hb hb.size b1;replace hb:=hb.alloc hb.size (Obj.cells #[int u64 r] 81);clear b1 Ev;go_wp2_with fail;refine(zpP _).mono ?_;rintro e w4 ⟨rfl,b2⟩;replace hr:=hr.keep b2;replace hb:=keepB hb hb.size b2;have d0:=hr.c0;have d1:=hr.c1;have d2:=hr.c2;have f0:=hr.frz 0;have f1:=hr.frz 1;have f2:=hr.frz 2;go_wp2;exact bodyPost_ret (v:= .tuple #[.agg #[int u64 0,int u64 0,.bool true],.bool false]) (cp_ct (fn:=Try.f114) (p:=2) (u:=3) results114 _ rfl (hr.set _ _ _)) rfl ⟨rfl,set3_below hb (Nat.le_refl _)⟩
theorem powI_even (z r m:Int)(w:World)(hn0:0≤n)(hx:n.tmod 2305843009213693952=x)(hq:n.tdiv 4611686018427387904=1)(hm:bits .and .u64 n 2305843009213693952=m)(hm0:(m==0)=true)
    (E:Cc 45 #[int u64 x,.agg #[]] (.tuple #[.agg #[int u64 x],.bool true]))
    (Cs:Cc 47 #[.agg #[int u64 x]] (.agg #[int u64 z]))
    (Ev:Cc 115 #[.agg #[int u64 z]] (.tuple #[.agg #[int u64 r],.bool true])):
    Cr 114 #[int u64 n] w (.tuple #[.agg #[int u64 x,int u64 r,.bool false],.bool true]):=by
  have hr:=K3.new w 50 0 0 false;have hb:=balc w (Obj.cells #[int u64 0,int u64 0,.bool false] 50);go_enter func114,ntmps114;go_wp2_with fail;refine(E _).mono ?_;rintro e w1 ⟨rfl,b1⟩;replace hr:=(hr.keep b1).alloc (Obj.cells #[int u64 x] 81);replace hb:=keepB hb hb.size b1;replace hb:=hb.alloc hb.size (Obj.cells #[int u64 x] 81);have n4:=R1.new w1 x;clear b1 E;go_wp2_with fail;refine(Cs _).mono ?_;rintro e w2 ⟨rfl,b1⟩;replace hr:=hr.keep b1;replace n4:=n4.keep b1;replace hb:=keepB hb hb.size b1;clear b1 Cs;go_wp2_with fail;refine(Ev _).mono ?_;rintro e w3 ⟨rfl,b1⟩;replace hr:=(hr.keep b1).alloc (Obj.cells #[int u64 r] 81);replace n4:=(n4.keep b1).alloc (Obj.cells #[int u64 r] 81);replace hb:=keepB hb hb.size b1;replace hb:=hb.alloc hb.size (Obj.cells #[int u64 r] 81);clear b1 Ev;have d0:=hr.c0;have d1:=hr.c1;have d2:=hr.c2;have f0:=hr.frz 0;have f1:=hr.frz 1;have f2:=hr.frz 2;have c4:=n4.cell;go_wp2;exact bodyPost_ret (v:= .tuple #[.agg #[int u64 x,int u64 r,.bool false],.bool true]) (cp_ct (fn:=Try.f114) (p:=2) (u:=3) results114 _ rfl (hr.set _ _ _)) rfl ⟨rfl,set3_below hb (Nat.le_refl _)⟩
theorem powI_odd (z r r2 m:Int)(w:World)(hn0:0≤n)(hx:n.tmod 2305843009213693952=x)(hq:n.tdiv 4611686018427387904=1)(hm:bits .and .u64 n 2305843009213693952=m)(hm0:(m==0)=false)
    (E:Cc 45 #[int u64 x,.agg #[]] (.tuple #[.agg #[int u64 x],.bool true]))
    (Cs:Cc 47 #[.agg #[int u64 x]] (.agg #[int u64 z]))
    (Ev:Cc 115 #[.agg #[int u64 z]] (.tuple #[.agg #[int u64 r],.bool true]))
    (Ng:Cc 49 #[.agg #[int u64 r]] (.agg #[int u64 r2])):
    Cr 114 #[int u64 n] w (.tuple #[.agg #[int u64 x,int u64 r2,.bool false],.bool true]):=by
  have hr:=K3.new w 50 0 0 false;have hb:=balc w (Obj.cells #[int u64 0,int u64 0,.bool false] 50);go_enter func114,ntmps114;go_wp2_with fail;refine(E _).mono ?_;rintro e w1 ⟨rfl,b1⟩;replace hr:=(hr.keep b1).alloc (Obj.cells #[int u64 x] 81);replace hb:=keepB hb hb.size b1;replace hb:=hb.alloc hb.size (Obj.cells #[int u64 x] 81);have n4:=R1.new w1 x;clear b1 E;go_wp2_with fail;refine(Cs _).mono ?_;rintro e w2 ⟨rfl,b1⟩;replace hr:=hr.keep b1;replace n4:=n4.keep b1;replace hb:=keepB hb hb.size b1;clear b1 Cs;go_wp2_with fail;refine(Ev _).mono ?_;rintro e w3 ⟨rfl,b1⟩;have hr':=hr.lt;have n4':=n4.lt;replace hr:=(hr.keep b1).alloc (Obj.cells #[int u64 r] 81);replace n4:=(n4.keep b1).alloc (Obj.cells #[int u64 r] 81);have n6:=R1.new w3 r;have hne1:w1.heap.size≠w3.heap.size:=Nat.ne_of_lt (Nat.lt_of_lt_of_le n4' b1.size);have hlt:w.heap.size<w3.heap.size:=Nat.lt_of_lt_of_le hr' b1.size;replace hb:=keepB hb hb.size b1;replace hb:=hb.alloc hb.size (Obj.cells #[int u64 r] 81);clear b1 Ev;go_wp2_with fail;refine(Ng _).mono ?_;rintro e w4 ⟨rfl,b1⟩;replace hr:=hr.keep b1;replace n4:=n4.keep b1;replace n6:=n6.keep b1;replace hb:=keepB hb hb.size b1;clear b1 Ng;have c6:=n6.cell;have f6:=n6.frz;have m6:=n6.set r2;have m4:R1 (w4.setCell ⟨w3.heap.size,0,none⟩ (int u64 r2)) w1.heap.size x:=n4.other hne1 0 _
  have mr:K3 (w4.setCell ⟨w3.heap.size,0,none⟩ (int u64 r2)) 50 w.heap.size 0 0 false:=by
    unfold K3 at*;rw [setCell_heap3 _ _ _ _ _ (by omega)];exact hr
  replace hb:=hb.setCell (p:=⟨w3.heap.size,0,none⟩) (by simp;omega) (int u64 r2);have d0:=mr.c0;have d1:=mr.c1;have d2:=mr.c2;have f0:=mr.frz 0;have f1:=mr.frz 1;have f2:=mr.frz 2;have c4:=m4.cell;have e6:=m6.cell;go_wp2;exact bodyPost_ret (v:= .tuple #[.agg #[int u64 x,int u64 r2,.bool false],.bool true]) (cp_ct (fn:=Try.f114) (p:=2) (u:=3) results114 _ rfl (mr.set _ _ _)) rfl ⟨rfl,set3_below hb (Nat.le_refl _)⟩
end
theorem getI_len (s:ByteArray)(w:World)(h:((s.size:Int)==8)=false):
    Cr 113 #[.string s] w (.tuple #[.agg #[int u64 0,int u64 0,.bool true],.bool false]):=by
  have hfl:=fldK;have hr:=K3.new w 26 0 0 false;have hb:=balc w (Obj.cells #[int u64 0,int u64 0,.bool false] 26);go_enter func113,ntmps113;go_wp2_with fail;refine(zpP _).mono ?_;rintro e w1 ⟨rfl,b1⟩;replace hr:=hr.keep b1;replace hb:=keepB hb hb.size b1;have d0:=hr.c0;have d1:=hr.c1;have d2:=hr.c2;have f0:=hr.frz 0;have f1:=hr.frz 1;have f2:=hr.frz 2;go_wp2;exact bodyPost_ret (v:= .tuple #[.agg #[int u64 0,int u64 0,.bool true],.bool false]) (pt_ct (fn:=Try.f113) (p:=2) (u:=3) results113 _ rfl (R3.set hr _ _ _)) rfl ⟨rfl,set3_below hb (Nat.le_refl _)⟩
theorem getI_of (s:ByteArray)(n X Y:Int)(C ok:Bool)(w:World)(h:((s.size:Int)==8)=true)
    (L:∀w,Calls prog 60 #[.string s] w fun e w'=>e= .returned (int u64 n)∧w=w')
    (P:Cc 114 #[int u64 n] (.tuple #[.agg #[int u64 X,int u64 Y,.bool C],.bool ok])):
    Cr 113 #[.string s] w (.tuple #[.agg #[int u64 X,int u64 Y,.bool C],.bool ok]):=by
  have hr:=K3.new w 26 0 0 false;have hb:=balc w (Obj.cells #[int u64 0,int u64 0,.bool false] 26);go_enter func113,ntmps113;go_wp2_with fail;refine(L _).mono ?_;rintro e w' ⟨rfl,rfl⟩;go_wp2_with fail;refine(P _).mono ?_;rintro e w1 ⟨rfl,b1⟩;replace hr:=(hr.keep b1).alloc (Obj.cells #[int u64 X,int u64 Y,.bool C] 50);replace hb:=keepB hb hb.size b1;replace hb:=hb.alloc hb.size (Obj.cells #[int u64 X,int u64 Y,.bool C] 50);have d0:=hr.c0;have d1:=hr.c1;have d2:=hr.c2;have f0:=hr.frz 0;have f1:=hr.frz 1;have f2:=hr.frz 2;go_wp2;exact bodyPost_ret (v:= .tuple #[.agg #[int u64 X,int u64 Y,.bool C],.bool ok]) (pt_ct (fn:=Try.f113) (p:=2) (u:=3) results113 _ rfl (R3.set hr _ _ _)) rfl ⟨rfl,set3_below hb (Nat.le_refl _)⟩
theorem and61 (n:Nat)(hn:n<18446744073709551616):bits .and .u64 (n:Int) 2305843009213693952=((n/2305843009213693952%2*2305843009213693952:Nat):Int):=by
  have:=bits_and_u64_nat n 2305843009213693952 hn (by decide)
  have e:n&&&2305843009213693952=n/2305843009213693952%2*2305843009213693952:=by
    have h2:(2:Nat)^61=2305843009213693952:=by decide
    have h3:n/2305843009213693952%2<2:=Nat.mod_lt _ (by decide);have hb:n.testBit 61=decide (n/2305843009213693952%2=1):=by rw [Nat.testBit_eq_decide_div_mod_eq,h2]
    generalize n/2305843009213693952%2=z at*;rw [←h2];apply Nat.eq_of_testBit_eq;intro i;rw [Nat.testBit_and,Nat.testBit_two_pow]
    match z,h3 with
    | 0,_=>
      by_cases hi:61=i
      · subst hi;rw [hb];simp
      · simp [hi]
    | 1,_=>
      rw [Nat.one_mul,Nat.testBit_two_pow];by_cases hi:61=i
      · subst hi;rw [hb];simp
      · simp [hi]
  rw [e] at this;exact this
def GetIs (s:ByteArray)(r:Option Pt):Prop:=
  (Cc 59 #[.string s] (.tuple #[ptW (r.getD none),.bool r.isSome]))∧
  (Cc 113 #[.string s] (.tuple #[ptW (r.getD none),.bool r.isSome]))∧
  (∀p,r=some p→on p∧p≠none∧strOfNums (be8 (putN p:Nat))=s)∧
  (∀p,on p→p≠none→strOfNums (be8 (putN p:Nat))=s→r=some p)
theorem size8 (n:Int):(strOfNums (be8 n)).size=8:=by rw [strOfNums_size];rfl
theorem byt_toList (s:ByteArray):byt s=s.toList.map (fun b=>(b.toNat:Int)):=by
  unfold byt;rw [ByteArray.toList_eq]
theorem str_ne {s t:ByteArray}(h:s≠t):(s.toList==t.toList)=false:=by
  rw [beq_eq_false_iff_ne];intro e;exact h (byt_inj (by rw [byt_toList,byt_toList,e]))
theorem putN_parts (X Y:Fp):putN (some (X,Y))%2305843009213693952=X.val∧putN (some (X,Y))/2305843009213693952=2+Y.val%2:=by
  have hx:=val_lt X;have hy:Y.val%2<2:=Nat.mod_lt _ (by decide);rw [putN_some];generalize X.val=x at*;generalize Y.val%2=z at*;omega
theorem neg_odd {Y:Fp}(h0:Y≠0)(he:Y.val%2=0):(-Y).val%2=1:=by
  have e:=neg_val (y:=Y) (z:= -Y) (by grobner) h0;have:=val_lt Y;rw [e];omega
theorem get_any (s:ByteArray):∃r,GetIs s r:=by
  by_cases h8:s.size=8
  · have h81 : ((s.size:Int)==8)=true:=by simp;omega
    have hn:=numL_8 s h8;have L:=wdS_any (s:=s) (hs:=h8);have LI:=wdI_any (s:=s) (hs:=h8);have hstr:=str8 s h8;generalize numL (byt s)=n at*;have hn0:(0:Int)≤(n:Int):=by omega
    have hxt:(n:Int).tmod 2305843009213693952=((n%2305843009213693952:Nat):Int):=by
      rw [Int.tmod_eq_emod_of_nonneg hn0];omega
    have hq:(n:Int).tdiv 4611686018427387904=((n/4611686018427387904:Nat):Int):=by
      rw [Int.tdiv_eq_ediv_of_nonneg hn0];omega
    have hqw:IntKind.u64.wrap ((n/4611686018427387904:Nat):Int)=((n/4611686018427387904:Nat):Int):=by
      rw [IntKind.wrap_u64];omega
    have hm:=and61 n hn
    have hpn:∀p:Pt,p≠none→strOfNums (be8 (putN p:Nat))=s→∃X Y,p=some (X,Y)∧n%2305843009213693952=X.val∧n/2305843009213693952=2+Y.val%2:=by
      intro p hp hs;rcases p with _|⟨X,Y⟩
      · exact absurd rfl hp
      · have e:=(hstr _ (putN_lt _)).1 hs;have:=putN_parts X Y;rw [e] at this;exact⟨X,Y,rfl,this.1,this.2⟩
    have hdiv:n/4611686018427387904=n/2305843009213693952/2:=by omega
    have hnx:n=n/2305843009213693952*2305843009213693952+n%2305843009213693952:=by omega
    by_cases hx:n%2305843009213693952<2305843009213693951
    · obtain⟨xf,hxf⟩:∃xf:Fp,xf.val=n%2305843009213693952:=⟨⟨_,hx⟩,rfl⟩;have R:=rightS xf;have Cs:=csqV xf;have E:=fun w=>exP_less (n%2305843009213693952:Nat) w (by omega)
      rw [hxf] at R;unfold fv at Cs;rw [hxf] at Cs;obtain⟨r0,b,Sq,Ev,hr,hb0,hb1⟩:=ev_both (crv xf).val (val_lt _);have hxi:((n%2305843009213693952:Nat):Int)<2305843009213693951:=by omega
      cases b with
      | false=>
        obtain⟨-,hno⟩:=hb0 rfl;refine⟨none,fun w=>getS_no s n _ _ _ w h81 hxt hn0 hxi L R Sq,fun w=>getI_of s n 0 0 true false w h81 LI fun w=> ?_,fun p hp=>(by cases hp),fun p hp hne hs=> ?_⟩
        · by_cases hq1:n/4611686018427387904=1
          · rw [hq1] at hq;exact powI_no n _ _ _ w hn0 hxt hq E Cs Ev
          · exact powI_mark n _ _ _ w hn0 hxt hq hqw (by simp;omega) E
        · exfalso;obtain⟨X,Y,rfl,h1,-⟩:=hpn p hne hs;have hX:X=xf:=Fin.ext (h1.symm.trans hxf.symm);subst hX;have hY:Y*Y=crv X:=hp;exact hno Y.val (by rw [←Fin.val_mul,hY])
      | true=>
        obtain⟨he,hsq⟩:=hb1 rfl;obtain⟨rf,hrf⟩:∃rf:Fp,rf.val=r0:=⟨⟨r0,hr⟩,rfl⟩;rw [←hrf] at he hsq Sq Ev
        have hon:on (some (xf,rf)):=by
          show rf*rf=crv xf;exact Fin.ext (by rw [Fin.val_mul];exact hsq)
        have hne0:=y_ne hon;have hon2:on (some (xf,-rf)):=ng_on hon;have ho:=neg_odd hne0 he;have P1:=putS_any xf.val rf.val false;have N1:=negS_any xf.val rf.val false;have P2:=putS_any xf.val (-rf).val false;rw [asPt_some (toPt_self hon)] at P1 N1;rw [asPt_some (toPt_self hon2)] at P2;rw [hxf] at P1 N1 P2;have hp1:=putN_parts xf rf;have hp2:=putN_parts xf (-rf);rw [hxf,he] at hp1;rw [hxf,ho] at hp2
        have N1':∀w,Cr 12 #[.agg #[int u64 ((n%2305843009213693952:Nat):Int),int u64 (rf.val:Int),.bool false]] w (.agg #[int u64 ((n%2305843009213693952:Nat):Int),int u64 ((-rf).val:Int),.bool false]):=by
          intro w;have:=N1 w;rw [show ptW (ng (some (xf,rf)))= .agg #[int u64 (xf.val:Int),int u64 ((-rf).val:Int),.bool false] from rfl,hxf] at this;exact this
        by_cases c2:n/2305843009213693952=2
        · have es:strOfNums (be8 (putN (some (xf,rf)):Nat))=s:=(hstr _ (putN_lt _)).2 (by omega);rw [es] at P1;have hq1:n/4611686018427387904=1:=by omega
          rw [hq1] at hq;rw [c2] at hm;refine⟨some (some (xf,rf)),fun w=> ?_,fun w=> ?_,fun p hp=> ?_,fun p hp hne hs=> ?_⟩
          · have:=getS_even s n _ _ _ w h81 hxt hn0 hxi L R Sq P1;rw [←hxf] at this;exact this
          · have:=getI_of s n _ _ false true w h81 LI fun w=>powI_even n _ _ _ _ w hn0 hxt hq hm rfl E Cs Ev
            rw [←hxf] at this;exact this
          · cases hp;exact⟨hon,(by intro e;cases e),es⟩
          · obtain⟨X,Y,rfl,h1,h2⟩:=hpn p hne hs;have hX:X=xf:=Fin.ext (h1.symm.trans hxf.symm);subst hX;rcases same_x hp hon with rfl|h
            · rfl
            · exfalso;have:Y= -rf:=by grobner
              rw [this,ho] at h2;omega
        · have ns1:strOfNums (be8 (putN (some (xf,rf)):Nat))≠s:=fun e=>by
            have:=(hstr _ (putN_lt _)).1 e;rw [this] at hp1;omega
          by_cases c3:n/2305843009213693952=3
          · have es:strOfNums (be8 (putN (some (xf,-rf)):Nat))=s:=(hstr _ (putN_lt _)).2 (by omega);rw [es] at P2;have hq1:n/4611686018427387904=1:=by omega
            rw [hq1] at hq;rw [c3] at hm;have Ng:=ngV rf;rw [show (0:Fp)-rf= -rf by grobner] at Ng;unfold fv at Ng;refine⟨some (some (xf,-rf)),fun w=> ?_,fun w=> ?_,fun p hp=> ?_,fun p hp hne hs=> ?_⟩
            · have:=getS_odd s _ s n _ _ _ _ _ _ true w h81 hxt hn0 hxi (str_ne ns1) (by simp) L R Sq P1 N1' P2;rw [←hxf] at this;exact this
            · have:=getI_of s n _ _ false true w h81 LI fun w=>powI_odd n _ _ _ _ _ w hn0 hxt hq hm rfl E Cs Ev Ng
              rw [←hxf] at this;exact this
            · cases hp;exact⟨hon2,(by intro e;cases e),es⟩
            · obtain⟨X,Y,rfl,h1,h2⟩:=hpn p hne hs;have hX:X=xf:=Fin.ext (h1.symm.trans hxf.symm);subst hX;rcases same_x hp hon with rfl|h
              · exfalso;omega
              · have:Y= -rf:=by grobner
                rw [this]
          · have ns2:strOfNums (be8 (putN (some (xf,-rf)):Nat))≠s:=fun e=>by
              have:=(hstr _ (putN_lt _)).1 e;rw [this] at hp2;omega
            refine⟨none,fun w=> ?_,fun w=>getI_of s n 0 0 true false w h81 LI fun w=>powI_mark n _ _ _ w hn0 hxt hq hqw (by simp;omega) E,fun p hp=>(by cases hp),fun p hp hne hs=> ?_⟩
            · exact getS_odd s _ _ n _ _ _ _ _ _ false w h81 hxt hn0 hxi (str_ne ns1) (str_ne ns2) L R Sq P1 N1' P2
            · exfalso;obtain⟨X,Y,rfl,-,h2⟩:=hpn p hne hs;have:Y.val%2<2:=Nat.mod_lt _ (by decide);omega
    · have E:=fun w=>exP_more (n%2305843009213693952:Nat) w (by omega)
      refine⟨none,fun w=>getS_big s n _ w h81 hxt hn0 (by omega) L,fun w=>getI_of s n 0 0 true false w h81 LI fun w=>powI_big n _ _ w hn0 hxt E,fun p hp=>(by cases hp),fun p hp hne hs=> ?_⟩;exfalso;obtain⟨X,Y,rfl,h1,-⟩:=hpn p hne hs;have:=val_lt X;omega
  · have h81:((s.size:Int)==8)=false:=by simp;omega
    refine⟨none,fun w=>getS_len s w h81,fun w=>getI_len s w h81,fun p hp=>(by cases hp),fun p hp hne hs=> ?_⟩;exact absurd (by rw [←hs];exact size8 _) h8
end
end Go.Proofs.Ytnfbfpegagcanaa
