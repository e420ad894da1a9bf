import Derived.Test.YtjhbckngdclleaaGreatDoorMrg20
set_option linter.unusedVariables false
set_option maxRecDepth 100000
set_option maxHeartbeats 16000000
namespace Go.Proofs.YtjhbckngdclleaaGreatDoor
open Go.Proofs.Tryz Go.RowKit
open Go.Value (int)
open Go.IntKind (u64)
section
open M
theorem csqP (x:Fp)(w:World):
    Cr 117 #[.agg #[int u64 (fv x)]] w (.agg #[int u64 (fv ((x*x-3)*x+111))]):=by
  obtain⟨X,hX⟩:∃X,X=((w.alloc (Obj.cells #[int u64 (fv x)] 167)).alloc (Obj.cells #[int u64 0] 167)).alloc (Obj.cells #[] 165):=⟨_,rfl⟩;have hx:R1 X w.heap.size (fv x):=by rw [hX];exact((R1.new w _).alloc _).alloc _
  have hr:R1 X (w.heap.size+1) 0:=by rw [hX];exact((R1.new _ 0).at (by simp)).alloc _
  have hb:Bl w X:=by rw [hX];exact(((Below.refl _ w).alloc (Nat.le_refl _) _).alloc (by simp) _).alloc (by simp;omega) _
  rw [hX] at hx hr hb;clear hX;go_enter func117,ntmps117;go_wp2
  refine pool_tail [.val (.agg #[int u64 (fv x)]),
    .val (.agg #[int u64 (fv x)]),
    .val (.agg #[int u64 (fv (x*x))]),
    .val (.agg #[]),
    .val (.agg #[int u64 (fv 3)]),
    .val (.agg #[int u64 (fv (x*x-3))]),
    .val (.agg #[int u64 (fv x)]),
    .val (.agg #[int u64 (fv ((x*x-3)*x))]),
    .val (.agg #[]),
    .val (.agg #[int u64 (fv 111)]),
    .val (.agg #[int u64 (fv ((x*x-3)*x+111))]),
    .val undef] [[1],[1],[5,6],[3],[8],[7,9],[1],[10,11],[3],[13],[12,14],[2,15]] (fun f=> [(some 5,.agg #[int u64 (fv x)]),(some 6,.agg #[int u64 (fv x)]),(some 7,.agg #[int u64 (fv (x*x))]),(some 8,.agg #[]),(some 9,.agg #[int u64 (fv 3)]),(some 10,.agg #[int u64 (fv (x*x-3))]),(some 11,.agg #[int u64 (fv x)]),(some 12,.agg #[int u64 (fv ((x*x-3)*x))]),(some 13,.agg #[]),(some 14,.agg #[int u64 (fv 111)]),(some 15,.agg #[int u64 (fv ((x*x-3)*x+111))])]) (fun f=> [(2,.pointer (some ⟨w.heap.size+1,0,none⟩)),(15,.agg #[int u64 (fv ((x*x-3)*x+111))])]) (by kernel_rfl) (by kernel_rfl) (by kernel_rfl) (by kernel_rfl) (by kernel_rfl) (fun _=>by kernel_rfl) ?_ rfl (fun _=>by kernel_rfl) ?_
  · intro ix hix
    match ix,hix with
    |0,_=>exact obv [(1,.pointer (some ⟨w.heap.size,0,none⟩))] rfl rfl (fun A w ⟨e0,_⟩ hB=>do_loadN e0 hx.drew hB)
    |1,_=>exact obv [(1,.pointer (some ⟨w.heap.size,0,none⟩))] rfl rfl (fun A w ⟨e0,_⟩ hB=>do_loadN e0 hx.drew hB)
    |2,_=>exact obv [(5,.agg #[int u64 (fv x)]),(6,.agg #[int u64 (fv x)])] rfl rfl (fun A w ⟨e0,e1,_⟩ hB=>do_call2 cf_times e0 e1 (tmV x x w))
    |3,_=>exact obv [(3,.pointer (some ⟨w.heap.size+1+1,0,none⟩))] rfl rfl (fun A w ⟨e0,_⟩ hB=>do_load0 e0)
    |4,_=>exact obv [(8,.agg #[])] rfl rfl (fun A w ⟨e0,_⟩ hB=>do_call2 cf_reduced rfl e0 (rd3 w))
    |5,_=>exact obv [(7,.agg #[int u64 (fv (x*x))]),(9,.agg #[int u64 (fv 3)])] rfl rfl (fun A w ⟨e0,e1,_⟩ hB=>do_call2 cf_minus e0 e1 (mnV (x*x) 3 w))
    |6,_=>exact obv [(1,.pointer (some ⟨w.heap.size,0,none⟩))] rfl rfl (fun A w ⟨e0,_⟩ hB=>do_loadN e0 hx.drew hB)
    |7,_=>exact obv [(10,.agg #[int u64 (fv (x*x-3))]),(11,.agg #[int u64 (fv x)])] rfl rfl (fun A w ⟨e0,e1,_⟩ hB=>do_call2 cf_times e0 e1 (tmV (x*x-3) x w))
    |8,_=>exact obv [(3,.pointer (some ⟨w.heap.size+1+1,0,none⟩))] rfl rfl (fun A w ⟨e0,_⟩ hB=>do_load0 e0)
    |9,_=>exact obv [(13,.agg #[])] rfl rfl (fun A w ⟨e0,_⟩ hB=>do_call2 cf_reduced rfl e0 (rd111 w))
    |10,_=>exact obv [(12,.agg #[int u64 (fv ((x*x-3)*x))]),(14,.agg #[int u64 (fv 111)])] rfl rfl (fun A w ⟨e0,e1,_⟩ hB=>do_call2 cf_plus e0 e1 (plV ((x*x-3)*x) 111 w))
    |ix+11,h=>exact absurd h (by simp)
  rintro f A w9 ⟨e0,e1,_⟩ hB _;replace hr:=(hr.drew).keep hB;replace hb:=keepB hb.drew hb.size hB;refine does_skip (exec_store e0 e1 hr) ?_;simp only [puts,List.foldl,Act.put,List.setIfInBounds_toArray,List.set_cons_zero,List.set_cons_succ];go_wp2;exact bodyPost_ret (v:= .agg #[int u64 (fv ((x*x-3)*x+111))]) (num_res (fn:=Tryz.f117) (p:=2) results117 _ rfl (hr.set _)) rfl ⟨rfl,hb.setCell (p:=⟨w.heap.size+1,0,none⟩) (by simp) _⟩
theorem csqV (x:Fp)(w:World):
    Cr 117 #[.agg #[int u64 (fv x)]] w (.agg #[int u64 (fv (crv x))]):=by
  have:=csqP x w;rwa [show (x*x-3)*x+111=crv x by unfold crv;grobner] at this
end
theorem sqS_no (x r z:Int)(w:World)(h1:x<2305843009213693951)(hz:(z==x)=false)
    (L:∀w,Calls prog 147 #[int u64 x,int u64 576460752303423488,int u64 2305843009213693951] w fun e w'=>e= .returned (int u64 r)∧w=w')
    (M:∀w,Calls prog 127 #[int u64 r,int u64 r] w fun e w'=>e= .returned (int u64 z)∧w=w'):
    Calls prog 205 #[int u64 x] w fun e w'=>e= .returned (.tuple #[int u64 0,.bool false])∧w=w':=by
  go_enter func205,ntmps205;go_wp2_with (first|(go_at_call 147;refine(L _).mono ?_;rintro e w' ⟨rfl,rfl⟩)|(go_at_call 127;refine(M _).mono ?_;rintro e w' ⟨rfl,rfl⟩));go_ret2;exact⟨rfl,rfl⟩
theorem sqS_odd (x r:Int)(w:World)(h1:x<2305843009213693951)(ho:(r%2==1)=true)(hr0:0≤r)(hr:r≤2305843009213693951)
    (L:∀w,Calls prog 147 #[int u64 x,int u64 576460752303423488,int u64 2305843009213693951] w fun e w'=>e= .returned (int u64 r)∧w=w')
    (M:∀w,Calls prog 127 #[int u64 r,int u64 r] w fun e w'=>e= .returned (int u64 x)∧w=w'):
    Calls prog 205 #[int u64 x] w fun e w'=>e= .returned (.tuple #[int u64 (2305843009213693951-r),.bool true])∧w=w':=by
  go_enter func205,ntmps205;go_wp2_with (first|(go_at_call 147;refine(L _).mono ?_;rintro e w' ⟨rfl,rfl⟩)|(go_at_call 127;refine(M _).mono ?_;rintro e w' ⟨rfl,rfl⟩));go_ret2;exact⟨rfl,rfl⟩
theorem sqS_even (x r:Int)(w:World)(h1:x<2305843009213693951)(ho:(r%2==1)=false)(hr0:0≤r)
    (L:∀w,Calls prog 147 #[int u64 x,int u64 576460752303423488,int u64 2305843009213693951] w fun e w'=>e= .returned (int u64 r)∧w=w')
    (M:∀w,Calls prog 127 #[int u64 r,int u64 r] w fun e w'=>e= .returned (int u64 x)∧w=w'):
    Calls prog 205 #[int u64 x] w fun e w'=>e= .returned (.tuple #[int u64 r,.bool true])∧w=w':=by
  go_enter func205,ntmps205;go_wp2_with (first|(go_at_call 147;refine(L _).mono ?_;rintro e w' ⟨rfl,rfl⟩)|(go_at_call 127;refine(M _).mono ?_;rintro e w' ⟨rfl,rfl⟩));go_ret2;exact⟨rfl,rfl⟩
theorem results_ct {P:Program}{fn:Func}{p u:Tmp}{ty:TypeId}(h:fn.results=#[.cell p ty,.tmp u])(tmps:Array Value)(w:World)(g y:Nat)(d:TypeDesc)
    (hp:tmps.getD p undef= .pointer (some ⟨g,0,none⟩))(hc:Rp w ty g y)
    (hu:P.underlying ty=some d)(hd:d.isRow=true)(hi:(P.info? ty).map (·.size)=some 1):
    (results fn tmps).run P w= .ok (.tuple #[.agg #[int u64 y],tmps.getD u undef]) w:=by
  have hp':tmps[p]?.getD undef= .pointer (some ⟨g,0,none⟩):=by simpa using hp
  simp [results,h,hp',asAddr,run_loadVar_mid w g 0 ty [int u64 y] d hc.range hu hd hi]
theorem evenP_no (x r z:Nat)(w:World)(hz:((z:Int)==(x:Int))=false)
    (L:Cc 203 #[.agg #[int u64 x],int u64 576460752303423488] (.agg #[int u64 r]))
    (M:Cc 116 #[.agg #[int u64 r],.agg #[int u64 r]] (.agg #[int u64 z])):
    Cr 232 #[.agg #[int u64 x]] w (.tuple #[.agg #[int u64 0],.bool false]):=by
  go_enter func232,ntmps232;go_wp2_with fail;refine(L _).mono ?_;rintro e w1 ⟨rfl,b1⟩;have hx0:Rp ((w.alloc (Obj.cells #[int u64 (x:Int)] 167)).alloc (Obj.cells #[int u64 0] 167)) 167 w.heap.size x:=(Rp.new w _ x).alloc _;have hr0':Rp ((w.alloc (Obj.cells #[int u64 (x:Int)] 167)).alloc (Obj.cells #[int u64 0] 167)) 167 (w.heap.size+1) 0:=(Rp.new _ _ 0).at (by simp);have hx1:=hx0.below b1 hx0.lt;have hr1:=hr0'.below b1 hr0'.lt;have hw1:Bl w w1:=(((Below.refl _ w).alloc (Nat.le_refl _) _).alloc (by simp) _).trans (b1.mono (by simp;omega));have hl1:w.heap.size+2≤w1.heap.size:=by have:=b1.size;simp at this;omega
  clear b1 hx0 hr0';have rR:=(Rp.new w1 167 r).drew;have rX:=(hx1.alloc (Obj.cells #[int u64 (r:Int)] 167)).drew;have rO:=(hr1.alloc (Obj.cells #[int u64 (r:Int)] 167)).drew;have hw2:=(hw1.alloc hw1.size (Obj.cells #[int u64 (r:Int)] 167)).drew;have cR:=rR.cell;have cX:=rX.cell;go_wp2
  go_region_held3 (fun w'=>w'.cell? ⟨w1.heap.size,0,none⟩=some (int u64 (r:Int))∧w'.cell? ⟨w.heap.size,0,none⟩=some (int u64 (x:Int))) (first|exact ⟨cR,cX⟩|exact ⟨qR,qX⟩|go_keep) ((go_at_call 116;refine(M _).mono ?_;rintro e w3 ⟨rfl,b3⟩;have sR:=rR.below b3 rR.lt;have sX:=rX.below b3 rX.lt;have sO:=rO.below b3 rO.lt;have qR:=sR.cell;have qX:=sX.cell))
  have hw3:=hw2.tr b3;have qO:=sO.cell;have fO:=sO.frz;have fR:=sR.frz;have hne:w1.heap.size≠w.heap.size+1:=by omega
  clear b3 hw2 rX rO rR cR cX hx1 hr1 hw1 L M sX qX;go_wp2;have rF:=sO.set 0;refine bodyPost_ret (v:= .tuple #[.agg #[int u64 0],.bool false]) (results_ct (fn:=Tryz.f232) (p:=2) (u:=3) (ty:=167) results232 _ _ (w.heap.size+1) _ _ rfl rF underlying167 rfl (by kernel_rfl)) rfl ⟨rfl,?_⟩;exact hw3.setCell (p:=⟨w.heap.size+1,0,none⟩) (by simp) _
theorem evenP_even (x r:Nat)(w:World)(ho:(((r:Nat):Int)%2==1)=false)
    (L:Cc 203 #[.agg #[int u64 x],int u64 576460752303423488] (.agg #[int u64 r]))
    (M:Cc 116 #[.agg #[int u64 r],.agg #[int u64 r]] (.agg #[int u64 x])):
    Cr 232 #[.agg #[int u64 x]] w (.tuple #[.agg #[int u64 r],.bool true]):=by
  go_enter func232,ntmps232;go_wp2_with fail;refine(L _).mono ?_;rintro e w1 ⟨rfl,b1⟩;have hx0:Rp ((w.alloc (Obj.cells #[int u64 (x:Int)] 167)).alloc (Obj.cells #[int u64 0] 167)) 167 w.heap.size x:=(Rp.new w _ x).alloc _;have hr0':Rp ((w.alloc (Obj.cells #[int u64 (x:Int)] 167)).alloc (Obj.cells #[int u64 0] 167)) 167 (w.heap.size+1) 0:=(Rp.new _ _ 0).at (by simp);have hx1:=hx0.below b1 hx0.lt;have hr1:=hr0'.below b1 hr0'.lt;have hw1:Bl w w1:=(((Below.refl _ w).alloc (Nat.le_refl _) _).alloc (by simp) _).trans (b1.mono (by simp;omega));have hl1:w.heap.size+2≤w1.heap.size:=by have:=b1.size;simp at this;omega
  clear b1 hx0 hr0';have rR:=(Rp.new w1 167 r).drew;have rX:=(hx1.alloc (Obj.cells #[int u64 (r:Int)] 167)).drew;have rO:=(hr1.alloc (Obj.cells #[int u64 (r:Int)] 167)).drew;have hw2:=(hw1.alloc hw1.size (Obj.cells #[int u64 (r:Int)] 167)).drew;have cR:=rR.cell;have cX:=rX.cell;go_wp2
  go_region_held3 (fun w'=>w'.cell? ⟨w1.heap.size,0,none⟩=some (int u64 (r:Int))∧w'.cell? ⟨w.heap.size,0,none⟩=some (int u64 (x:Int))) (first|exact ⟨cR,cX⟩|exact ⟨qR,qX⟩|go_keep) ((go_at_call 116;refine(M _).mono ?_;rintro e w3 ⟨rfl,b3⟩;have sR:=rR.below b3 rR.lt;have sX:=rX.below b3 rX.lt;have sO:=rO.below b3 rO.lt;have qR:=sR.cell;have qX:=sX.cell))
  have hw3:=hw2.tr b3;have qO:=sO.cell;have fO:=sO.frz;have fR:=sR.frz;have hne:w1.heap.size≠w.heap.size+1:=by omega
  clear b3 hw2 rX rO rR cR cX hx1 hr1 hw1 L M sX qX;go_wp2;have rF:=sO.set r;refine bodyPost_ret (v:= .tuple #[.agg #[int u64 r],.bool true]) (results_ct (fn:=Tryz.f232) (p:=2) (u:=3) (ty:=167) results232 _ _ (w.heap.size+1) _ _ rfl rF underlying167 rfl (by kernel_rfl)) rfl ⟨rfl,?_⟩;exact hw3.setCell (p:=⟨w.heap.size+1,0,none⟩) (by simp) _
theorem evenP_odd (x r:Nat)(w:World)(ho:(((r:Nat):Int)%2==1)=true)(r':Nat)
    (N:Cc 199 #[.agg #[int u64 r]] (.agg #[int u64 r']))
    (L:Cc 203 #[.agg #[int u64 x],int u64 576460752303423488] (.agg #[int u64 r]))
    (M:Cc 116 #[.agg #[int u64 r],.agg #[int u64 r]] (.agg #[int u64 x])):
    Cr 232 #[.agg #[int u64 x]] w (.tuple #[.agg #[int u64 r'],.bool true]):=by
  go_enter func232,ntmps232;go_wp2_with fail;refine(L _).mono ?_;rintro e w1 ⟨rfl,b1⟩;have hx0:Rp ((w.alloc (Obj.cells #[int u64 (x:Int)] 167)).alloc (Obj.cells #[int u64 0] 167)) 167 w.heap.size x:=(Rp.new w _ x).alloc _;have hr0':Rp ((w.alloc (Obj.cells #[int u64 (x:Int)] 167)).alloc (Obj.cells #[int u64 0] 167)) 167 (w.heap.size+1) 0:=(Rp.new _ _ 0).at (by simp);have hx1:=hx0.below b1 hx0.lt;have hr1:=hr0'.below b1 hr0'.lt;have hw1:Bl w w1:=(((Below.refl _ w).alloc (Nat.le_refl _) _).alloc (by simp) _).trans (b1.mono (by simp;omega));have hl1:w.heap.size+2≤w1.heap.size:=by have:=b1.size;simp at this;omega
  clear b1 hx0 hr0';have rR:=(Rp.new w1 167 r).drew;have rX:=(hx1.alloc (Obj.cells #[int u64 (r:Int)] 167)).drew;have rO:=(hr1.alloc (Obj.cells #[int u64 (r:Int)] 167)).drew;have hw2:=(hw1.alloc hw1.size (Obj.cells #[int u64 (r:Int)] 167)).drew;have cR:=rR.cell;have cX:=rX.cell;go_wp2
  go_region_held3 (fun w'=>w'.cell? ⟨w1.heap.size,0,none⟩=some (int u64 (r:Int))∧w'.cell? ⟨w.heap.size,0,none⟩=some (int u64 (x:Int))) (first|exact ⟨cR,cX⟩|exact ⟨qR,qX⟩|go_keep) ((go_at_call 116;refine(M _).mono ?_;rintro e w3 ⟨rfl,b3⟩;have sR:=rR.below b3 rR.lt;have sX:=rX.below b3 rX.lt;have sO:=rO.below b3 rO.lt;have qR:=sR.cell;have qX:=sX.cell))
  have hw3:=hw2.tr b3;have qO:=sO.cell;have fO:=sO.frz;have fR:=sR.frz;have hne:w1.heap.size≠w.heap.size+1:=by omega
  clear b3 hw2 rX rO rR cR cX hx1 hr1 hw1 L M sX qX;go_wp2_with fail;refine(N _).mono ?_;rintro e w4 ⟨rfl,b4⟩;replace sR:=sR.below b4 sR.lt;replace sO:=sO.below b4 sO.lt;replace hw3:=hw3.tr b4;clear b4 qR qO fO fR N;have qR:=sR.cell;have qO:=sO.cell;have fO:=sO.frz;have fR:=sR.frz;have tR:=sR.set r';have tO:Rp (w4.setCell ⟨w1.heap.size,0,none⟩ (int u64 (r':Int))) _ _ _:=sO.other (Ne.symm hne) _;have hw4:=hw3.setCell (p:=⟨w1.heap.size,0,none⟩) (by simp;omega) (int u64 (r':Int));have uR:=tR.cell;have uO:=tO.cell;have gO:=tO.frz;go_wp2;have rF:=tO.set r';refine bodyPost_ret (v:= .tuple #[.agg #[int u64 r'],.bool true]) (results_ct (fn:=Tryz.f232) (p:=2) (u:=3) (ty:=167) results232 _ _ (w.heap.size+1) _ _ rfl rF underlying167 rfl (by kernel_rfl)) rfl ⟨rfl,?_⟩;exact hw4.setCell (p:=⟨w.heap.size+1,0,none⟩) (by simp) _
theorem pow_both (x e m:Nat)(he:e<18446744073709551616)(hm:m=2305843009213693951)(h:x<m):∃r:Nat,r<m∧r=x^e%m∧
    (∀w,Calls prog 147 #[int u64 x,int u64 e,int u64 m] w fun e w'=>e= .returned (int u64 r)∧w=w')∧
    (Cc 203 #[.agg #[int u64 x],int u64 e] (.agg #[int u64 r])):=by
  subst hm;exact⟨_,Nat.mod_lt _ (by decide),rfl,fun w=>powS_any x e _ w (by omega) he (by decide) (by decide),fun w=>powP_any x e w h he⟩
theorem sq_comp (x y r k:Nat)(hr:r=x^(2^k)%2305843009213693951)(hk:2^(k+2)=2305843009213693951-1+2)(hy:y*y%2305843009213693951=x):r*r%2305843009213693951=x:=by
  have e1:r*r%2305843009213693951=x^(2^k+2^k)%2305843009213693951:=by rw [hr,←Nat.mul_mod,←Nat.pow_add]
  have e2:(y*y)^(2^k+2^k)=y^(2^(k+2)):=by
    rw [Nat.mul_pow,←Nat.pow_add,Nat.pow_succ,Nat.pow_succ];congr 1;omega
  rw [e1,←hy,←Nat.pow_mod,e2];exact M.rootP.two (k+2) y hk
theorem ev_both (x:Nat)(h:x<2305843009213693951):∃(r:Nat) (b:Bool),
    (∀w,Calls prog 205 #[int u64 x] w fun e w'=>e= .returned (.tuple #[int u64 r,.bool b])∧w=w')∧
    (Cc 232 #[.agg #[int u64 x]] (.tuple #[.agg #[int u64 r],.bool b]))∧
    r<2305843009213693951∧(b=false→r=0∧∀y,y*y%2305843009213693951≠x)∧(b=true→r%2=0∧r*r%2305843009213693951=x):=by
  obtain⟨j,hj⟩:∃j:Nat,j=59:=⟨_,rfl⟩;obtain⟨k,hk⟩:∃k:Nat,k=2^j:=⟨_,rfl⟩;have hk1:(k:Int)=576460752303423488:=by rw [hk,hj];rfl
  have hj2:2^(j+2)=2305843009213693951-1+2:=by rw [hj]
  obtain⟨r,hr,hre,L,P⟩:=pow_both x k 2305843009213693951 (by omega) rfl h;simp only [hk1] at L P;rw [hk] at hre;clear hk hk1 hj;have M:=fun w=>l2times_any r r w hr hr
  have T:=fun w=>timP_any r r w hr hr
  have hz:r*r%2305843009213693951<2305843009213693951:=Nat.mod_lt _ (by decide);by_cases hzx:r*r%2305843009213693951=x
  · rw [hzx] at M T;by_cases ho:r%2=1
    · have ho1:(((r:Nat):Int)%2==1)=true:=by simp;omega
      have hr1:1≤r:=by omega
      refine⟨2305843009213693951-r,true,fun w=> ?_,fun w=> ?_,by omega,by simp,fun _=>⟨by omega,?_⟩⟩
      · have:=sqS_odd x r w (by omega) ho1 (by omega) (by omega) L M;rwa [show (2305843009213693951:Int)-(r:Int)=((2305843009213693951-r:Nat):Int) by omega] at this
      · exact evenP_odd x r w ho1 (2305843009213693951-r) (fun w=>ngP_of r ((2305843009213693951-r:Nat):Int) w fun w=>mnP_any 0 r _ w (by omega) (by omega) (by omega) (by omega) (by rw [if_pos (by omega)];omega)) P T
      · rw [←hzx];obtain⟨q,hq⟩:∃q,q+r=2305843009213693951:=⟨2305843009213693951-r,by omega⟩;have e1:2305843009213693951-r=q:=by omega
        rw [e1];have e2:q*q+2305843009213693951*r=r*r+2305843009213693951*q:=by rw [←hq];grobner
        have e3:(q*q+2305843009213693951*r)%2305843009213693951=(r*r+2305843009213693951*q)%2305843009213693951:=by rw [e2]
        rwa [Nat.add_mul_mod_self_left,Nat.add_mul_mod_self_left] at e3
    · have ho1:(((r:Nat):Int)%2==1)=false:=by simp;omega
      exact⟨r,true,fun w=>sqS_even x r w (by omega) ho1 (by omega) L M,fun w=>evenP_even x r w ho1 P T,hr,by simp,fun _=>⟨by omega,hzx⟩⟩
  · have hno:∀y,y*y%2305843009213693951≠x:=fun y hy=>hzx (sq_comp x y r j hre hj2 hy)
    clear hre;generalize r*r%2305843009213693951=z at*;have hzx1:((z:Int)==(x:Int))=false:=by simp;omega
    exact⟨0,false,fun w=>sqS_no x r z w (by omega) hzx1 L M,fun w=>evenP_no x r z w hzx1 P T,by decide,fun _=>⟨rfl,hno⟩,by simp⟩
def hops (c:Code)(P:Program)(Q:Exit→Act→World→Prop):Nat→Exit→Act→World→Prop
  | 0=>fun e a w=>match e with
    | .goto _=>False
    |e=>Q e a w
  | n+1=>fun e a w=>match e with
    | .goto l=>∃rest,findLabel c l=some rest∧rest.wp P (hops c P Q n) a w
    |e=>Q e a w
section
variable {P:Program}{Q:Exit→Act→World→Prop}{a:Act}{w:World}{c:Code}
@[go_sem] theorem hops_normal (n:Nat):hops c P Q n .normal a w=Q .normal a w:=by cases n<;>rfl
@[go_sem] theorem hops_exit (n id:Nat):hops c P Q n (.exit id) a w=Q (.exit id) a w:=by cases n<;>rfl
@[go_sem] theorem hops_ret (n:Nat):hops c P Q n .ret a w=Q .ret a w:=by cases n<;>rfl
@[go_sem] theorem hops_panic (n:Nat) (ch:List PanicEntry):hops c P Q n (.panic ch) a w=Q (.panic ch) a w:=by cases n<;>rfl
end
end Go.Proofs.YtjhbckngdclleaaGreatDoor
