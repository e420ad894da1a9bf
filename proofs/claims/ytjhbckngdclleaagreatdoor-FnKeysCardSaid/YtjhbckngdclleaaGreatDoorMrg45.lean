import Derived.Test.YtjhbckngdclleaaGreatDoorMrg44
set_option linter.unusedVariables false
set_option maxRecDepth 100000
set_option maxHeartbeats 16000000
namespace Go.Proofs.YtjhbckngdclleaaGreatDoor
open Go.Proofs.Tryz Go.RowKit
open Go.Value (int)
open Go.IntKind (u64)
section
open M
theorem cfTI (args:Array Value)(w:World):(callFunc 20 args).run prog w= .ok (.enter 20 args) w:=by kernel_rfl
theorem cfTS (args:Array Value)(w:World):(callFunc 24 args).run prog w= .ok (.enter 24 args) w:=by kernel_rfl
section
variable {A:Act}{w:World}{dst:Option Tmp}{ty:TypeId}{ps:String}{af:Array Edge}{gd:Option (Nat×Bool)}{x y z:Operand}{b i:Nat}
theorem pkT {u:Value}(hx:A.eval x= .bool true)(hy:A.eval y=u):Does prog (Opr dst (.pick x y z) ty ps af gd) A w fun v' w'=>v'=u∧Bl w w':=dv (by generalize A.eval=ev at*;simp [execOp,hx,hy,go_sem])
theorem eqKK {k1 k2 k3:ByteArray}(hx:A.eval x= .agg #[.string k1,.string k2,.string k3])(hy:A.eval y= .agg #[.string k1,.string k2,.string k3]):Does prog (Opr dst (.binOp .eql 46 x y 46) ty ps af gd) A w fun v' w'=>v'= .bool true∧Bl w w':=dv (by generalize A.eval=ev at*;simp [execOp,hx,hy,go_sem])
theorem fa_k0 (hx:A.eval x= .pointer (some ⟨b,i,none⟩)):Does prog (Opr dst (.fieldAddr 46 x 0) ty ps af gd) A w fun v' w'=>v'= .pointer (some ⟨b,i+0,none⟩)∧Bl w w':=dv (by generalize A.eval=ev at*;simp [execOp,hx,go_sem])
theorem fa_k1 (hx:A.eval x= .pointer (some ⟨b,i,none⟩)):Does prog (Opr dst (.fieldAddr 46 x 1) ty ps af gd) A w fun v' w'=>v'= .pointer (some ⟨b,i+1,none⟩)∧Bl w w':=dv (by generalize A.eval=ev at*;simp [execOp,hx,go_sem])
theorem fa_k2 (hx:A.eval x= .pointer (some ⟨b,i,none⟩)):Does prog (Opr dst (.fieldAddr 46 x 2) ty ps af gd) A w fun v' w'=>v'= .pointer (some ⟨b,i+2,none⟩)∧Bl w w':=dv (by generalize A.eval=ev at*;simp [execOp,hx,go_sem])
theorem lenT {s:ByteArray}(hx:A.eval x= .string s)(hs:s.size=32):Does prog (Opr dst (.call {callee:= .builtin .len,args:=#[x],argTypes:=#[9]}) ty ps af gd) A w fun v' w'=>v'= .int .i64 32∧Bl w w':=dv (by generalize A.eval=ev at*;simp [hx,hs,go_sem])
theorem eqT32 (hx:A.eval x= .int .i64 32):Does prog (Opr dst (.binOp .eql 3 x (.const (.int .i64 32)) 3) ty ps af gd) A w fun v' w'=>v'= .bool true∧Bl w w':=by
  have hc:A.eval (.const (.int .i64 32))= .int .i64 32:=rfl;have h:(execOp A.eval (Opr dst (.binOp .eql 3 x (.const (.int .i64 32)) 3) ty ps af gd)).run prog w= .ok (.value (.bool true)) w:=by generalize A.eval=ev at*;simp [execOp,hx,hc,go_sem]
  exact does_value h ⟨rfl,Below.refl _ _⟩
end
theorem dkR_ok (f:Nat→Nat):∀(n i:Nat),(dkR f i n).2=0→∃j,f j≠0∧(dkR f i n).1=f j
  |0,i,h=>by cases h
  | n+1,i,h=>by
    rw [dkR] at h⊢;by_cases h0:f i=0
    · rw [if_pos h0] at h⊢;exact dkR_ok f n (i+1) h
    · rw [if_neg h0] at h⊢;exact⟨i,h0,rfl⟩
theorem dkV_ok (m:Int)(s t:ByteArray)(h:(dkV m s t).2=0):0<(dkV m s t).1∧(dkV m s t).1<2305843010818082053:=by
  unfold dkV at h⊢;by_cases hb:dkB m s t=true
  · rw [if_pos hb] at h⊢;obtain⟨j,h1,h2⟩:=dkR_ok _ _ _ h;rw [h2];exact⟨Nat.pos_of_ne_zero h1,Nat.mod_lt _ (by decide)⟩
  · rw [if_neg hb] at h;cases h
theorem keyW (a0 a1:Option Addr)(l0 cap0 l1 cap1:Nat)(w:World)(hv0:Cod w (.slice a0 l0 cap0))(hv1:Cod w (.slice a1 l1 cap1))(h0:l0≤1048576)(h1:l1≤1048576)(hT:TabK w)(hs:∃s0 s1 s2 s3,Sn w s0 s1 s2 s3):
    Cr 5 #[.slice a0 l0 cap0,.slice a1 l1 cap1] w (.bool true):=by
  obtain⟨s0,s1,s2,s3,hs⟩:=hs;obtain⟨pk,hpk⟩:=gives_of _ w hv1;have hx:=ky_lt pk 0;have hy:=ky_lt pk 4;have KX:=fun w' (hb:Bl w w')=>(hpk.below hb).key 0 (by omega)
  have KY:=fun w' (hb:Bl w w')=>(hpk.below hb).key 4 (by omega)
  generalize ky pk 0=x at*;generalize ky pk 4=y at*;clear hpk hv1;obtain⟨tp,p1,p2,p3,p4,-⟩:=pt_nat (nt_on gG_on x);obtain⟨tq,q1,q2,q3,q4,-⟩:=pt_nat (nt_on gG_on y);obtain⟨tr,r1,r2,r3,r4,-⟩:=pt_nat (nt_on gG_on (x*y));have BS:∀w,Cr 21 #[] w (.agg #[int u64 ((1:Nat):Int),int u64 ((509478702933351334:Nat):Int),.bool false]):=fun w=>bsI w
  have TXG:∀w',Cr 20 #[int u64 (x:Int),.agg #[int u64 ((1:Nat):Int),int u64 ((509478702933351334:Nat):Int),.bool false]] w' (.agg #[int u64 (tp.1:Int),int u64 (tp.2.1:Int),.bool tp.2.2]):=fun w'=>by
    have:=timI_pt x 1 509478702933351334 false w' (by omega);rw [asG,ptW_eq,p2,p3,p4] at this;exact this
  have TYG:∀w',Cr 20 #[int u64 (y:Int),.agg #[int u64 ((1:Nat):Int),int u64 ((509478702933351334:Nat):Int),.bool false]] w' (.agg #[int u64 (tq.1:Int),int u64 (tq.2.1:Int),.bool tq.2.2]):=fun w'=>by
    have:=timI_pt y 1 509478702933351334 false w' (by omega);rw [asG,ptW_eq,q2,q3,q4] at this;exact this
  have TXQ:∀w',Cr 20 #[int u64 (x:Int),.agg #[int u64 (tq.1:Int),int u64 (tq.2.1:Int),.bool tq.2.2]] w' (.agg #[int u64 (tr.1:Int),int u64 (tr.2.1:Int),.bool tr.2.2]):=fun w'=>by
    have:=timI_pt x tq.1 tq.2.1 tq.2.2 w' (by omega);rw [show asPt tq.1 tq.2.1 tq.2.2=nt y gG from q1,nt_mul gG_on,ptW_eq,r2,r3,r4] at this;exact this
  have TYP:∀w',Cr 20 #[int u64 (y:Int),.agg #[int u64 (tp.1:Int),int u64 (tp.2.1:Int),.bool tp.2.2]] w' (.agg #[int u64 (tr.1:Int),int u64 (tr.2.1:Int),.bool tr.2.2]):=fun w'=>by
    have:=timI_pt y tp.1 tp.2.1 tp.2.2 w' (by omega);rw [show asPt tp.1 tp.2.1 tp.2.2=nt x gG from p1,nt_mul gG_on,Nat.mul_comm y x,ptW_eq,r2,r3,r4] at this;exact this
  have TS:∀w',Cr 24 #[int u64 (x:Int),.agg #[int u64 (tq.1:Int),int u64 (tq.2.1:Int),.bool tq.2.2]] w' (.agg #[int u64 (tr.1:Int),int u64 (tr.2.1:Int),.bool tr.2.2]):=fun w'=>by
    have:=timS_any x tq.1 tq.2.1 tq.2.2 w' (by omega);rw [show asPt tq.1 tq.2.1 tq.2.2=nt y gG from q1,nt_mul gG_on,ptW_eq,r2,r3,r4] at this;exact this
  clear p1 p2 p3 p4 q1 q2 q3 q4 r1 r2 r3 r4;have hl0: ¬ (1048576:Int)<(l0:Int):=by omega
  have hl1: ¬ (1048576:Int)<(l1:Int):=by omega
  have DD:=dder (.slice a0 l0 cap0) w hv0;clear h0 h1;go_enter func5,ntmps5;go_wp2_with fail;refine DD.mono ?_;rintro e w1 ⟨⟨m,s,t,rfl⟩,hB⟩;clear DD;have D2:=fun w=>dkS_any m s t w
  have D3:=fun w' (hb:Bl w w')=>dkI_any m s t s0 s1 s2 s3 w' (hT.kept hb) (hs.keep hb)
  have hk:=dkV_ok m s t;generalize dkV m s t=kc at*;obtain⟨k,c⟩:=kc;simp only at D2 D3 hk;go_wp2_with fail;refine(D2 _).mono ?_;rintro e w2 ⟨rfl,d1⟩;replace hB:=hB.tr d1;clear d1 D2;go_wp2_with fail;refine(D3 _ hB).mono ?_;rintro e w3 ⟨rfl,d1⟩;replace hB:=hB.tr d1;clear d1 D3;by_cases hc:c=0
  · obtain⟨k1',k2'⟩:=hk hc;have g1:((k:Int)==0)=false:=by rw [beq_eq_false_iff_ne];omega
    have g2:decide ((2305843010818082053:Int)≤(k:Int))=false:=decide_eq_false (by omega);subst hc;clear hk k1' k2';go_wp2_with fail;refine(KX _ hB).mono ?_;rintro e wx ⟨rfl,rfl⟩;go_wp2_with fail;refine(KY _ hB).mono ?_;rintro e wy ⟨rfl,rfl⟩;have DA:=dagr (.slice a0 l0 cap0) _ (hv0.below hB);go_wp2_with fail;refine DA.mono ?_;rintro e w4 ⟨⟨x0,y0,c0,x1,y1,c1,x2,y2,c2,sn,hsn,rfl⟩,d1⟩;replace hB:=hB.tr d1;clear d1 DA;obtain⟨tc,hx2,hy2,hc2⟩:∃tc:Tri,x2=tc.1∧y2=tc.2.1∧c2=tc.2.2:=⟨(x2,y2,c2),rfl,rfl,rfl⟩;subst hx2 hy2 hc2;obtain⟨k1,k2,k3,z1,z2,z3,hkk⟩:∃k1 k2 k3:ByteArray,k1.size=32∧k2.size=32∧k3.size=32∧Hid (agK (asT tr) (asT tq) (asPt tc.1 tc.2.1 tc.2.2) sn= [.string k1,.string k2,.string k3]):=⟨_,_,_,exB_size _ _,exB_size _ _,exB_size _ _,rfl⟩
    have AI:∀w',TabK w'→Cr 22 #[.agg #[int u64 (tr.1:Int),int u64 (tr.2.1:Int),.bool tr.2.2],.agg #[int u64 (tq.1:Int),int u64 (tq.2.1:Int),.bool tq.2.2],.agg #[int u64 (tc.1:Int),int u64 (tc.2.1:Int),.bool tc.2.2],.string sn] w' (.agg #[.string k1,.string k2,.string k3]):=fun w' hT'=>by
      have:=agrI tr.1 tr.2.1 tr.2.2 tq.1 tq.2.1 tq.2.2 tc.1 tc.2.1 tc.2.2 sn w' hT' (by omega);rw [show agK (asPt tr.1 tr.2.1 tr.2.2) (asPt tq.1 tq.2.1 tq.2.2) (asPt tc.1 tc.2.1 tc.2.2) sn= [.string k1,.string k2,.string k3] from hkk.out] at this;exact this
    have AS:∀w',Cr 23 #[.agg #[int u64 (tr.1:Int),int u64 (tr.2.1:Int),.bool tr.2.2],.agg #[int u64 (tq.1:Int),int u64 (tq.2.1:Int),.bool tq.2.2],.agg #[int u64 (tc.1:Int),int u64 (tc.2.1:Int),.bool tc.2.2],.string sn] w' (.agg #[.string k1,.string k2,.string k3]):=fun w'=>by
      have:=agrS tr.1 tr.2.1 tr.2.2 tq.1 tq.2.1 tq.2.2 tc.1 tc.2.1 tc.2.2 sn w' (by omega);rw [show agK (asPt tr.1 tr.2.1 tr.2.2) (asPt tq.1 tq.2.1 tq.2.2) (asPt tc.1 tc.2.1 tc.2.2) sn= [.string k1,.string k2,.string k3] from hkk.out] at this;exact this
    clear hkk;replace z1:Hid (k1.size=32):=z1;replace z2:Hid (k2.size=32):=z2;replace z3:Hid (k3.size=32):=z3;have h16:Bk (((w4.alloc (Obj.cells #[int u64 (x0:Int),int u64 (y0:Int),.bool c0] 27)).alloc (Obj.cells #[int u64 (x1:Int),int u64 (y1:Int),.bool c1] 27)).alloc (Obj.cells #[int u64 (tc.1:Int),int u64 (tc.2.1:Int),.bool tc.2.2] 27)) 27 (w4.heap.size+1+1) #[int u64 (tc.1:Int),int u64 (tc.2.1:Int),.bool tc.2.2]:=(Bk.new _ _ _).at (by simp);replace hB:=((hB.alloc hB.size (Obj.cells #[int u64 (x0:Int),int u64 (y0:Int),.bool c0] 27)).alloc (by have:=hB.size;simp;omega) (Obj.cells #[int u64 (x1:Int),int u64 (y1:Int),.bool c1] 27)).alloc (by have:=hB.size;simp;omega) (Obj.cells #[int u64 (tc.1:Int),int u64 (tc.2.1:Int),.bool tc.2.2] 27);go_wp2_with fail;generalize ((w4.alloc (Obj.cells #[int u64 (x0:Int),int u64 (y0:Int),.bool c0] 27)).alloc (Obj.cells #[int u64 (x1:Int),int u64 (y1:Int),.bool c1] 27)).alloc (Obj.cells #[int u64 (tc.1:Int),int u64 (tc.2.1:Int),.bool tc.2.2] 27)=W10 at*;generalize w4.heap.size+1+1=b16 at*;refine(BS _).mono ?_;rintro e w5 ⟨rfl,d1⟩;replace h16:=h16.keep d1;replace hB:=hB.tr d1;clear d1;go_wp2_with fail;refine(TXG _).mono ?_;rintro e w6 ⟨rfl,d1⟩;replace h16:=h16.keep d1;replace hB:=hB.tr d1;clear d1;have h18:=Bk.new w6 27 #[int u64 (tp.1:Int),int u64 (tp.2.1:Int),.bool tp.2.2];replace h16:=h16.alloc (Obj.cells #[int u64 (tp.1:Int),int u64 (tp.2.1:Int),.bool tp.2.2] 27);replace hB:=hB.alloc hB.size (Obj.cells #[int u64 (tp.1:Int),int u64 (tp.2.1:Int),.bool tp.2.2] 27);obtain⟨W11,eW11⟩:∃W,w6.alloc (Obj.cells #[int u64 (tp.1:Int),int u64 (tp.2.1:Int),.bool tp.2.2] 27)=W:=⟨_,rfl⟩;rw [eW11] at h16 h18 hB;obtain⟨b18,qb18⟩:∃b,w6.heap.size=b:=⟨_,rfl⟩;rw [qb18] at h18;go_wp2_with fail;refine(BS _).mono ?_;rintro e w7 ⟨rfl,d1⟩;replace h16:=h16.keep d1;replace h18:=h18.keep d1;replace hB:=hB.tr d1;clear d1;go_wp2_with fail;refine(TYG _).mono ?_;rintro e w8 ⟨rfl,d1⟩;replace h16:=h16.keep d1;replace h18:=h18.keep d1;replace hB:=hB.tr d1;clear d1;have h19:=Bk.new w8 27 #[int u64 (tq.1:Int),int u64 (tq.2.1:Int),.bool tq.2.2];replace h16:=h16.alloc (Obj.cells #[int u64 (tq.1:Int),int u64 (tq.2.1:Int),.bool tq.2.2] 27);replace h18:=h18.alloc (Obj.cells #[int u64 (tq.1:Int),int u64 (tq.2.1:Int),.bool tq.2.2] 27);replace hB:=hB.alloc hB.size (Obj.cells #[int u64 (tq.1:Int),int u64 (tq.2.1:Int),.bool tq.2.2] 27);obtain⟨W13,eW13⟩:∃W,w8.alloc (Obj.cells #[int u64 (tq.1:Int),int u64 (tq.2.1:Int),.bool tq.2.2] 27)=W:=⟨_,rfl⟩;rw [eW13] at h16 h18 h19 hB;obtain⟨b19,qb19⟩:∃b,w8.heap.size=b:=⟨_,rfl⟩;rw [qb19] at h19;have hTB:∀w',G.Sides [] W13.drew w'→TabK w':=fun w' hB' i hi=>hB'.cell ((hT.kept hB) i hi) (by simp)
    go_wp2;clear eW11 eW13 qb18 qb19 BS TXG TYG KX KY
    refine G.pool_prT (W:=W13) [] 8 [.val (int u64 (x:Int)),
        .val (.agg #[int u64 (tq.1:Int),int u64 (tq.2.1:Int),.bool tq.2.2]),
        .val (.agg #[int u64 (tr.1:Int),int u64 (tr.2.1:Int),.bool tr.2.2]),
        .val (.agg #[int u64 (tq.1:Int),int u64 (tq.2.1:Int),.bool tq.2.2]),
        .val (.agg #[int u64 (tc.1:Int),int u64 (tc.2.1:Int),.bool tc.2.2]),
        .val (.string sn),
        .val (.agg #[.string k1,.string k2,.string k3]),
        .new (.cells #[.string ⟨#[]⟩,.string ⟨#[]⟩,.string ⟨#[]⟩] 46) (.cells #[.string ⟨#[]⟩,.string ⟨#[]⟩,.string ⟨#[]⟩] 46) 900] [[12],[19],[87,88],[19],[16],[17],[89,90,91,92],[],[20,93]] (fun f=> [(some 87,int u64 (x:Int)),(some 88,.agg #[int u64 (tq.1:Int),int u64 (tq.2.1:Int),.bool tq.2.2]),(some 89,.agg #[int u64 (tr.1:Int),int u64 (tr.2.1:Int),.bool tr.2.2]),(some 90,.agg #[int u64 (tq.1:Int),int u64 (tq.2.1:Int),.bool tq.2.2]),(some 91,.agg #[int u64 (tc.1:Int),int u64 (tc.2.1:Int),.bool tc.2.2]),(some 92,.string sn),(some 93,.agg #[.string k1,.string k2,.string k3]),(some 20,.pointer (some ⟨f 7,0,none⟩))]) (by kernel_rfl) (by kernel_rfl) (by kernel_rfl) (by kernel_rfl) (by decide) (by kernel_rfl) (fun _=>by kernel_rfl) (G.last_of [.cells #[.string ⟨#[]⟩,.string ⟨#[]⟩,.string ⟨#[]⟩] 46] (fun F R hm=>by simp at hm) (fun ob ob' k hm=>by simp at hm;simp [hm]) (fun b ob ob' hm=>by simp at hm)) (fun b ob ob' hm=>by simp at hm) ?_ ?_
    · intro ix hix
      match ix,hix with
      |0,_=>exact G.obv [(12,int u64 (x:Int))] rfl rfl (fun A w ⟨e0,_⟩ hB=>Y.move e0)
      |1,_=>exact G.obv [(19,.pointer (some ⟨b19,0,none⟩))] rfl rfl (fun A w ⟨e0,_⟩ hB=>Y.ldT underlying27 rfl (by kernel_rfl) e0 (Y.side hB h19))
      |2,_=>exact G.obv [(87,int u64 (x:Int)),(88,.agg #[int u64 (tq.1:Int),int u64 (tq.2.1:Int),.bool tq.2.2])] rfl rfl (fun A w ⟨e0,e1,_⟩ hB=>Y.cl2 cfTI e0 e1 (by have h:=TXQ w;exact h))
      |3,_=>exact G.obv [(19,.pointer (some ⟨b19,0,none⟩))] rfl rfl (fun A w ⟨e0,_⟩ hB=>Y.ldT underlying27 rfl (by kernel_rfl) e0 (Y.side hB h19))
      |4,_=>exact G.obv [(16,.pointer (some ⟨b16,0,none⟩))] rfl rfl (fun A w ⟨e0,_⟩ hB=>Y.ldT underlying27 rfl (by kernel_rfl) e0 (Y.side hB h16))
      |5,_=>exact G.obv [(17,.string sn)] rfl rfl (fun A w ⟨e0,_⟩ hB=>Y.move e0)
      |6,_=>exact G.obv [(89,.agg #[int u64 (tr.1:Int),int u64 (tr.2.1:Int),.bool tr.2.2]),(90,.agg #[int u64 (tq.1:Int),int u64 (tq.2.1:Int),.bool tq.2.2]),(91,.agg #[int u64 (tc.1:Int),int u64 (tc.2.1:Int),.bool tc.2.2]),(92,.string sn)] rfl rfl (fun A w ⟨e0,e1,e2,e3,_⟩ hB=>Y.cl4 cfAI e0 e1 e2 e3 (by have h:=AI w (hTB w hB);exact h))
      |7,_=>exact G.ob_new rfl rfl (fun A w=>alK)
      |ix+8,h=>exact absurd h (by omega)
    intro f1 V13 hS hnew y1 y2 fuel hfuel;obtain⟨hb0,hbn⟩:=hnew 7 _ _ _ rfl (by decide);have hk0:Bk V13 46 (f1 7) #[.string ⟨#[]⟩,.string ⟨#[]⟩,.string ⟨#[]⟩]:=hbn;have d5:Bl W13 V13:=(Below.refl _ W13).drew.trans hS.below;have hlo:W13.heap.size≤f1 7:=hb0;have hlo2:w.heap.size≤f1 7:=Nat.le_trans hB.size hlo;have lh16:=h16.lt;replace h16:=h16.keep d5;have lh18:=h18.lt;replace h18:=h18.keep d5;have lh19:=h19.lt;replace h19:=h19.keep d5;replace hB:=hB.tr d5;clear hS hnew y1 y2 hbn hb0 d5;simp only [puts,List.foldl,Act.put,List.setIfInBounds_toArray,List.set_cons_zero,List.set_cons_succ];obtain⟨b20,hb20⟩:∃b,b=f1 7:=⟨_,rfl⟩;rw [←hb20] at hk0 hlo2 hlo;simp only [←hb20];refine last_do1 8 hfuel (by kernel_rfl) (by kernel_rfl) rfl rfl ?_;refine fun Q K hK=>Y.puA (cs:=#[.string k1,.string k2,.string k3]) rfl rfl hk0 rfl (by kernel_rfl) (by simp [Value.oneCell']) Q K (fun v W14 hT1=>hK v W14 ?_)
    have k20:Bk W14 46 b20 #[.string k1,.string k2,.string k3]:=hT1.self;have hg:V13.grownBy W14 (some b20):=⟨hT1.os,hT1.tape,hT1.output,by rw [hT1.size];exact Nat.le_refl _,fun k _ hk=>hT1.other k (fun e=>hk (by rw [e]))⟩;replace h16:=h16.keptG hg (fun e=>by have:=Option.some.inj e;omega);replace h18:=h18.keptG hg (fun e=>by have:=Option.some.inj e;omega);replace h19:=h19.keptG hg (fun e=>by have:=Option.some.inj e;omega);replace hB:=belowK hB hg hlo2 hB.size;clear hT1 hg hk0 hlo hlo2 hb20 lh16 lh18 lh19;clear hTB TXQ;have hTB:∀w',G.Sides [] W14.drew w'→TabK w':=fun w' hB' i hi=>hB'.cell ((hT.kept hB) i hi) (by simp)
    go_wp2
    refine G.pool_prT (W:=W14) [] 8 [.val (int u64 (y:Int)),
        .val (.agg #[int u64 (tp.1:Int),int u64 (tp.2.1:Int),.bool tp.2.2]),
        .val (.agg #[int u64 (tr.1:Int),int u64 (tr.2.1:Int),.bool tr.2.2]),
        .val (.agg #[int u64 (tq.1:Int),int u64 (tq.2.1:Int),.bool tq.2.2]),
        .val (.agg #[int u64 (tc.1:Int),int u64 (tc.2.1:Int),.bool tc.2.2]),
        .val (.string sn),
        .val (.agg #[.string k1,.string k2,.string k3]),
        .new (.cells #[.string ⟨#[]⟩,.string ⟨#[]⟩,.string ⟨#[]⟩] 46) (.cells #[.string ⟨#[]⟩,.string ⟨#[]⟩,.string ⟨#[]⟩] 46) 900] [[13],[18],[94,95],[19],[16],[17],[96,97,98,99],[],[21,100]] (fun f=> [(some 94,int u64 (y:Int)),(some 95,.agg #[int u64 (tp.1:Int),int u64 (tp.2.1:Int),.bool tp.2.2]),(some 96,.agg #[int u64 (tr.1:Int),int u64 (tr.2.1:Int),.bool tr.2.2]),(some 97,.agg #[int u64 (tq.1:Int),int u64 (tq.2.1:Int),.bool tq.2.2]),(some 98,.agg #[int u64 (tc.1:Int),int u64 (tc.2.1:Int),.bool tc.2.2]),(some 99,.string sn),(some 100,.agg #[.string k1,.string k2,.string k3]),(some 21,.pointer (some ⟨f 7,0,none⟩))]) (by kernel_rfl) (by kernel_rfl) (by kernel_rfl) (by kernel_rfl) (by decide) (by kernel_rfl) (fun _=>by kernel_rfl) (G.last_of [.cells #[.string ⟨#[]⟩,.string ⟨#[]⟩,.string ⟨#[]⟩] 46] (fun F R hm=>by simp at hm) (fun ob ob' k hm=>by simp at hm;simp [hm]) (fun b ob ob' hm=>by simp at hm)) (fun b ob ob' hm=>by simp at hm) ?_ ?_
    · intro ix hix
      match ix,hix with
      |0,_=>exact G.obv [(13,int u64 (y:Int))] rfl rfl (fun A w ⟨e0,_⟩ hB=>Y.move e0)
      |1,_=>exact G.obv [(18,.pointer (some ⟨b18,0,none⟩))] rfl rfl (fun A w ⟨e0,_⟩ hB=>Y.ldT underlying27 rfl (by kernel_rfl) e0 (Y.side hB h18))
      |2,_=>exact G.obv [(94,int u64 (y:Int)),(95,.agg #[int u64 (tp.1:Int),int u64 (tp.2.1:Int),.bool tp.2.2])] rfl rfl (fun A w ⟨e0,e1,_⟩ hB=>Y.cl2 cfTI e0 e1 (by have h:=TYP w;exact h))
      |3,_=>exact G.obv [(19,.pointer (some ⟨b19,0,none⟩))] rfl rfl (fun A w ⟨e0,_⟩ hB=>Y.ldT underlying27 rfl (by kernel_rfl) e0 (Y.side hB h19))
      |4,_=>exact G.obv [(16,.pointer (some ⟨b16,0,none⟩))] rfl rfl (fun A w ⟨e0,_⟩ hB=>Y.ldT underlying27 rfl (by kernel_rfl) e0 (Y.side hB h16))
      |5,_=>exact G.obv [(17,.string sn)] rfl rfl (fun A w ⟨e0,_⟩ hB=>Y.move e0)
      |6,_=>exact G.obv [(96,.agg #[int u64 (tr.1:Int),int u64 (tr.2.1:Int),.bool tr.2.2]),(97,.agg #[int u64 (tq.1:Int),int u64 (tq.2.1:Int),.bool tq.2.2]),(98,.agg #[int u64 (tc.1:Int),int u64 (tc.2.1:Int),.bool tc.2.2]),(99,.string sn)] rfl rfl (fun A w ⟨e0,e1,e2,e3,_⟩ hB=>Y.cl4 cfAI e0 e1 e2 e3 (by have h:=AI w (hTB w hB);exact h))
      |7,_=>exact G.ob_new rfl rfl (fun A w=>alK)
      |ix+8,h=>exact absurd h (by omega)
    intro f2 V14 hS hnew y1 y2 fuel hfuel;obtain⟨hb0,hbn⟩:=hnew 7 _ _ _ rfl (by decide);have hk0:Bk V14 46 (f2 7) #[.string ⟨#[]⟩,.string ⟨#[]⟩,.string ⟨#[]⟩]:=hbn;have d5:Bl W14 V14:=(Below.refl _ W14).drew.trans hS.below;have hlo:W14.heap.size≤f2 7:=hb0;have hlo2:w.heap.size≤f2 7:=Nat.le_trans hB.size hlo;have lh16:=h16.lt;replace h16:=h16.keep d5;have lh19:=h19.lt;replace h19:=h19.keep d5;have lk20:=k20.lt;replace k20:=k20.keep d5;replace hB:=hB.tr d5;clear hS hnew y1 y2 hbn hb0 d5;simp only [puts,List.foldl,Act.put,List.setIfInBounds_toArray,List.set_cons_zero,List.set_cons_succ];obtain⟨b21,hb21⟩:∃b,b=f2 7:=⟨_,rfl⟩;rw [←hb21] at hk0 hlo2 hlo;simp only [←hb21];refine last_do1 8 hfuel (by kernel_rfl) (by kernel_rfl) rfl rfl ?_;refine fun Q K hK=>Y.puA (cs:=#[.string k1,.string k2,.string k3]) rfl rfl hk0 rfl (by kernel_rfl) (by simp [Value.oneCell']) Q K (fun v W15 hT1=>hK v W15 ?_)
    have k21:Bk W15 46 b21 #[.string k1,.string k2,.string k3]:=hT1.self;have hg:V14.grownBy W15 (some b21):=⟨hT1.os,hT1.tape,hT1.output,by rw [hT1.size];exact Nat.le_refl _,fun k _ hk=>hT1.other k (fun e=>hk (by rw [e]))⟩;replace h16:=h16.keptG hg (fun e=>by have:=Option.some.inj e;omega);replace h19:=h19.keptG hg (fun e=>by have:=Option.some.inj e;omega);replace k20:=k20.keptG hg (fun e=>by have:=Option.some.inj e;omega);replace hB:=belowK hB hg hlo2 hB.size;clear hT1 hg hk0 hlo hlo2 hb21 lh16 lh19 lk20;clear hTB TYP h18;go_wp2;have c0:W15.drew.cell? ⟨b20,0+0,none⟩=some (.string k1):=k20.cell (k:=0) rfl;have c1:W15.drew.cell? ⟨b20,0+1,none⟩=some (.string k2):=k20.cell (k:=1) rfl;have c2:W15.drew.cell? ⟨b20,0+2,none⟩=some (.string k3):=k20.cell (k:=2) rfl
    refine G.pool_list (W:=W15) [] [.val (.agg #[.string k1,.string k2,.string k3]),
        .val (.agg #[.string k1,.string k2,.string k3]),
        .val (.bool true),
        .val (.bool true),
        .val (.agg #[.string k1,.string k2,.string k3]),
        .val (int u64 (x:Int)),
        .val (.agg #[int u64 (tq.1:Int),int u64 (tq.2.1:Int),.bool tq.2.2]),
        .val (.agg #[int u64 (tr.1:Int),int u64 (tr.2.1:Int),.bool tr.2.2]),
        .val (.agg #[int u64 (tq.1:Int),int u64 (tq.2.1:Int),.bool tq.2.2]),
        .val (.agg #[int u64 (tc.1:Int),int u64 (tc.2.1:Int),.bool tc.2.2]),
        .val (.string sn),
        .val (.agg #[.string k1,.string k2,.string k3]),
        .val (.bool true),
        .val (.bool true),
        .val (.bool true),
        .val (.pointer (some ⟨b20,0+0,none⟩)),
        .val (.string k1),
        .val (.int .i64 32),
        .val (.bool true),
        .val (.bool true),
        .val (.bool true),
        .val (.pointer (some ⟨b20,0+1,none⟩)),
        .val (.string k2),
        .val (.int .i64 32),
        .val (.bool true),
        .val (.bool true),
        .val (.bool true),
        .val (.pointer (some ⟨b20,0+2,none⟩)),
        .val (.string k3),
        .val (.int .i64 32),
        .val (.bool true),
        .val (.bool true),
        .val (.bool true)] [[20],[21],[101,102],[103],[20],[12],[19],[106,107],[19],[16],[17],[108,109,110,111],[105,112],[104,113],[114],[20],[116],[117],[118],[115,119],[120],[20],[122],[123],[124],[121,125],[126],[20],[128],[129],[130],[127,131],[132]] (fun f=> [(some 101,.agg #[.string k1,.string k2,.string k3]),(some 102,.agg #[.string k1,.string k2,.string k3]),(some 103,.bool true),(some 104,.bool true),(some 105,.agg #[.string k1,.string k2,.string k3]),(some 106,int u64 (x:Int)),(some 107,.agg #[int u64 (tq.1:Int),int u64 (tq.2.1:Int),.bool tq.2.2]),(some 108,.agg #[int u64 (tr.1:Int),int u64 (tr.2.1:Int),.bool tr.2.2]),(some 109,.agg #[int u64 (tq.1:Int),int u64 (tq.2.1:Int),.bool tq.2.2]),(some 110,.agg #[int u64 (tc.1:Int),int u64 (tc.2.1:Int),.bool tc.2.2]),(some 111,.string sn),(some 112,.agg #[.string k1,.string k2,.string k3]),(some 113,.bool true),(some 114,.bool true),(some 115,.bool true),(some 116,.pointer (some ⟨b20,0+0,none⟩)),(some 117,.string k1),(some 118,.int .i64 32),(some 119,.bool true),(some 120,.bool true),(some 121,.bool true),(some 122,.pointer (some ⟨b20,0+1,none⟩)),(some 123,.string k2),(some 124,.int .i64 32),(some 125,.bool true),(some 126,.bool true),(some 127,.bool true),(some 128,.pointer (some ⟨b20,0+2,none⟩)),(some 129,.string k3),(some 130,.int .i64 32),(some 131,.bool true),(some 132,.bool true),(some 4,.bool true)]) (by kernel_rfl) (by kernel_rfl) (by kernel_rfl) (by kernel_rfl) (fun _=>by kernel_rfl) (G.last_of [] (fun F R hm=>by simp at hm) (fun ob ob' k hm=>by simp at hm) (fun b ob ob' hm=>by simp at hm)) (fun b ob ob' hm=>by simp at hm) ?_ ?_
    · intro ix hix
      match ix,hix with
      |0,_=>exact G.obv [(20,.pointer (some ⟨b20,0,none⟩))] rfl rfl (fun A w ⟨e0,_⟩ hB=>Y.ldT underlying46 rfl (by kernel_rfl) e0 (Y.side hB k20))
      |1,_=>exact G.obv [(21,.pointer (some ⟨b21,0,none⟩))] rfl rfl (fun A w ⟨e0,_⟩ hB=>Y.ldT underlying46 rfl (by kernel_rfl) e0 (Y.side hB k21))
      |2,_=>exact G.obv [(101,.agg #[.string k1,.string k2,.string k3]),(102,.agg #[.string k1,.string k2,.string k3])] rfl rfl (fun A w ⟨e0,e1,_⟩ hB=>eqKK e0 e1)
      |3,_=>exact G.obv [(103,.bool true)] rfl rfl (fun A w ⟨e0,_⟩ hB=>Y.move e0)
      |4,_=>exact G.obv [(20,.pointer (some ⟨b20,0,none⟩))] rfl rfl (fun A w ⟨e0,_⟩ hB=>Y.ldT underlying46 rfl (by kernel_rfl) e0 (Y.side hB k20))
      |5,_=>exact G.obv [(12,int u64 (x:Int))] rfl rfl (fun A w ⟨e0,_⟩ hB=>Y.move e0)
      |6,_=>exact G.obv [(19,.pointer (some ⟨b19,0,none⟩))] rfl rfl (fun A w ⟨e0,_⟩ hB=>Y.ldT underlying27 rfl (by kernel_rfl) e0 (Y.side hB h19))
      |7,_=>exact G.obv [(106,int u64 (x:Int)),(107,.agg #[int u64 (tq.1:Int),int u64 (tq.2.1:Int),.bool tq.2.2])] rfl rfl (fun A w ⟨e0,e1,_⟩ hB=>Y.cl2 cfTS e0 e1 (by have h:=TS w;exact h))
      |8,_=>exact G.obv [(19,.pointer (some ⟨b19,0,none⟩))] rfl rfl (fun A w ⟨e0,_⟩ hB=>Y.ldT underlying27 rfl (by kernel_rfl) e0 (Y.side hB h19))
      |9,_=>exact G.obv [(16,.pointer (some ⟨b16,0,none⟩))] rfl rfl (fun A w ⟨e0,_⟩ hB=>Y.ldT underlying27 rfl (by kernel_rfl) e0 (Y.side hB h16))
      |10,_=>exact G.obv [(17,.string sn)] rfl rfl (fun A w ⟨e0,_⟩ hB=>Y.move e0)
      |11,_=>exact G.obv [(108,.agg #[int u64 (tr.1:Int),int u64 (tr.2.1:Int),.bool tr.2.2]),(109,.agg #[int u64 (tq.1:Int),int u64 (tq.2.1:Int),.bool tq.2.2]),(110,.agg #[int u64 (tc.1:Int),int u64 (tc.2.1:Int),.bool tc.2.2]),(111,.string sn)] rfl rfl (fun A w ⟨e0,e1,e2,e3,_⟩ hB=>Y.cl4 cfAS e0 e1 e2 e3 (by have h:=AS w;exact h))
      |12,_=>exact G.obv [(105,.agg #[.string k1,.string k2,.string k3]),(112,.agg #[.string k1,.string k2,.string k3])] rfl rfl (fun A w ⟨e0,e1,_⟩ hB=>eqKK e0 e1)
      |13,_=>exact G.obv [(104,.bool true),(113,.bool true)] rfl rfl (fun A w ⟨e0,e1,_⟩ hB=>pkT e0 e1)
      |14,_=>exact G.obv [(114,.bool true)] rfl rfl (fun A w ⟨e0,_⟩ hB=>Y.move e0)
      |15,_=>exact G.obv [(20,.pointer (some ⟨b20,0,none⟩))] rfl rfl (fun A w ⟨e0,_⟩ hB=>fa_k0 e0)
      |16,_=>exact G.obv [(116,.pointer (some ⟨b20,0+0,none⟩))] rfl rfl (fun A w ⟨e0,_⟩ hB=>Y.ldS e0 (hB.cell c0 (by simp)))
      |17,_=>exact G.obv [(117,.string k1)] rfl rfl (fun A w ⟨e0,_⟩ hB=>lenT e0 z1.out)
      |18,_=>exact G.obv [(118,.int .i64 32)] rfl rfl (fun A w ⟨e0,_⟩ hB=>eqT32 e0)
      |19,_=>exact G.obv [(115,.bool true),(119,.bool true)] rfl rfl (fun A w ⟨e0,e1,_⟩ hB=>pkT e0 e1)
      |20,_=>exact G.obv [(120,.bool true)] rfl rfl (fun A w ⟨e0,_⟩ hB=>Y.move e0)
      |21,_=>exact G.obv [(20,.pointer (some ⟨b20,0,none⟩))] rfl rfl (fun A w ⟨e0,_⟩ hB=>fa_k1 e0)
      |22,_=>exact G.obv [(122,.pointer (some ⟨b20,0+1,none⟩))] rfl rfl (fun A w ⟨e0,_⟩ hB=>Y.ldS e0 (hB.cell c1 (by simp)))
      |23,_=>exact G.obv [(123,.string k2)] rfl rfl (fun A w ⟨e0,_⟩ hB=>lenT e0 z2.out)
      |24,_=>exact G.obv [(124,.int .i64 32)] rfl rfl (fun A w ⟨e0,_⟩ hB=>eqT32 e0)
      |25,_=>exact G.obv [(121,.bool true),(125,.bool true)] rfl rfl (fun A w ⟨e0,e1,_⟩ hB=>pkT e0 e1)
      |26,_=>exact G.obv [(126,.bool true)] rfl rfl (fun A w ⟨e0,_⟩ hB=>Y.move e0)
      |27,_=>exact G.obv [(20,.pointer (some ⟨b20,0,none⟩))] rfl rfl (fun A w ⟨e0,_⟩ hB=>fa_k2 e0)
      |28,_=>exact G.obv [(128,.pointer (some ⟨b20,0+2,none⟩))] rfl rfl (fun A w ⟨e0,_⟩ hB=>Y.ldS e0 (hB.cell c2 (by simp)))
      |29,_=>exact G.obv [(129,.string k3)] rfl rfl (fun A w ⟨e0,_⟩ hB=>lenT e0 z3.out)
      |30,_=>exact G.obv [(130,.int .i64 32)] rfl rfl (fun A w ⟨e0,_⟩ hB=>eqT32 e0)
      |31,_=>exact G.obv [(127,.bool true),(131,.bool true)] rfl rfl (fun A w ⟨e0,e1,_⟩ hB=>pkT e0 e1)
      |32,_=>exact G.obv [(132,.bool true)] rfl rfl (fun A w ⟨e0,_⟩ hB=>Y.assign e0)
      |ix+33,h=>exact absurd h (by simp)
    intro f3 W16 hS y1 y2 y3 y4;have d5:Bl W15 W16:=(Below.refl _ W15).drew.trans hS.below;replace hB:=hB.tr d5;clear hS y1 y2 y3 y4 d5 c0 c1 c2;simp only [puts,List.foldl,Act.put,List.setIfInBounds_toArray,List.set_cons_zero,List.set_cons_succ];go_wp2;go_ret;exact⟨rfl,hB⟩
  · have hc':(c==0)=false:=by rw [beq_eq_false_iff_ne];exact hc
    clear hk hc;go_wp2_with fail;refine(KX _ hB).mono ?_;rintro e wx ⟨rfl,rfl⟩;go_wp2_with fail;refine(KY _ hB).mono ?_;rintro e wy ⟨rfl,rfl⟩;have DA:=dagr (.slice a0 l0 cap0) _ (hv0.below hB);go_wp2_with fail;refine DA.mono ?_;rintro e w4 ⟨⟨x0,y0,c0,x1,y1,c1,x2,y2,c2,sn,hsn,rfl⟩,d1⟩;replace hB:=hB.tr d1;clear d1 DA;obtain⟨tc,hx2,hy2,hc2⟩:∃tc:Tri,x2=tc.1∧y2=tc.2.1∧c2=tc.2.2:=⟨(x2,y2,c2),rfl,rfl,rfl⟩;subst hx2 hy2 hc2;obtain⟨k1,k2,k3,z1,z2,z3,hkk⟩:∃k1 k2 k3:ByteArray,k1.size=32∧k2.size=32∧k3.size=32∧Hid (agK (asT tr) (asT tq) (asPt tc.1 tc.2.1 tc.2.2) sn= [.string k1,.string k2,.string k3]):=⟨_,_,_,exB_size _ _,exB_size _ _,exB_size _ _,rfl⟩
    have AI:∀w',TabK w'→Cr 22 #[.agg #[int u64 (tr.1:Int),int u64 (tr.2.1:Int),.bool tr.2.2],.agg #[int u64 (tq.1:Int),int u64 (tq.2.1:Int),.bool tq.2.2],.agg #[int u64 (tc.1:Int),int u64 (tc.2.1:Int),.bool tc.2.2],.string sn] w' (.agg #[.string k1,.string k2,.string k3]):=fun w' hT'=>by
      have:=agrI tr.1 tr.2.1 tr.2.2 tq.1 tq.2.1 tq.2.2 tc.1 tc.2.1 tc.2.2 sn w' hT' (by omega);rw [show agK (asPt tr.1 tr.2.1 tr.2.2) (asPt tq.1 tq.2.1 tq.2.2) (asPt tc.1 tc.2.1 tc.2.2) sn= [.string k1,.string k2,.string k3] from hkk.out] at this;exact this
    have AS:∀w',Cr 23 #[.agg #[int u64 (tr.1:Int),int u64 (tr.2.1:Int),.bool tr.2.2],.agg #[int u64 (tq.1:Int),int u64 (tq.2.1:Int),.bool tq.2.2],.agg #[int u64 (tc.1:Int),int u64 (tc.2.1:Int),.bool tc.2.2],.string sn] w' (.agg #[.string k1,.string k2,.string k3]):=fun w'=>by
      have:=agrS tr.1 tr.2.1 tr.2.2 tq.1 tq.2.1 tq.2.2 tc.1 tc.2.1 tc.2.2 sn w' (by omega);rw [show agK (asPt tr.1 tr.2.1 tr.2.2) (asPt tq.1 tq.2.1 tq.2.2) (asPt tc.1 tc.2.1 tc.2.2) sn= [.string k1,.string k2,.string k3] from hkk.out] at this;exact this
    clear hkk;replace z1:Hid (k1.size=32):=z1;replace z2:Hid (k2.size=32):=z2;replace z3:Hid (k3.size=32):=z3;have h16:Bk (((w4.alloc (Obj.cells #[int u64 (x0:Int),int u64 (y0:Int),.bool c0] 27)).alloc (Obj.cells #[int u64 (x1:Int),int u64 (y1:Int),.bool c1] 27)).alloc (Obj.cells #[int u64 (tc.1:Int),int u64 (tc.2.1:Int),.bool tc.2.2] 27)) 27 (w4.heap.size+1+1) #[int u64 (tc.1:Int),int u64 (tc.2.1:Int),.bool tc.2.2]:=(Bk.new _ _ _).at (by simp);replace hB:=((hB.alloc hB.size (Obj.cells #[int u64 (x0:Int),int u64 (y0:Int),.bool c0] 27)).alloc (by have:=hB.size;simp;omega) (Obj.cells #[int u64 (x1:Int),int u64 (y1:Int),.bool c1] 27)).alloc (by have:=hB.size;simp;omega) (Obj.cells #[int u64 (tc.1:Int),int u64 (tc.2.1:Int),.bool tc.2.2] 27);go_wp2_with fail;generalize ((w4.alloc (Obj.cells #[int u64 (x0:Int),int u64 (y0:Int),.bool c0] 27)).alloc (Obj.cells #[int u64 (x1:Int),int u64 (y1:Int),.bool c1] 27)).alloc (Obj.cells #[int u64 (tc.1:Int),int u64 (tc.2.1:Int),.bool tc.2.2] 27)=W10 at*;generalize w4.heap.size+1+1=b16 at*;refine(BS _).mono ?_;rintro e w5 ⟨rfl,d1⟩;replace h16:=h16.keep d1;replace hB:=hB.tr d1;clear d1;go_wp2_with fail;refine(TXG _).mono ?_;rintro e w6 ⟨rfl,d1⟩;replace h16:=h16.keep d1;replace hB:=hB.tr d1;clear d1;have h18:=Bk.new w6 27 #[int u64 (tp.1:Int),int u64 (tp.2.1:Int),.bool tp.2.2];replace h16:=h16.alloc (Obj.cells #[int u64 (tp.1:Int),int u64 (tp.2.1:Int),.bool tp.2.2] 27);replace hB:=hB.alloc hB.size (Obj.cells #[int u64 (tp.1:Int),int u64 (tp.2.1:Int),.bool tp.2.2] 27);obtain⟨W11,eW11⟩:∃W,w6.alloc (Obj.cells #[int u64 (tp.1:Int),int u64 (tp.2.1:Int),.bool tp.2.2] 27)=W:=⟨_,rfl⟩;rw [eW11] at h16 h18 hB;obtain⟨b18,qb18⟩:∃b,w6.heap.size=b:=⟨_,rfl⟩;rw [qb18] at h18;go_wp2_with fail;refine(BS _).mono ?_;rintro e w7 ⟨rfl,d1⟩;replace h16:=h16.keep d1;replace h18:=h18.keep d1;replace hB:=hB.tr d1;clear d1;go_wp2_with fail;refine(TYG _).mono ?_;rintro e w8 ⟨rfl,d1⟩;replace h16:=h16.keep d1;replace h18:=h18.keep d1;replace hB:=hB.tr d1;clear d1;have h19:=Bk.new w8 27 #[int u64 (tq.1:Int),int u64 (tq.2.1:Int),.bool tq.2.2];replace h16:=h16.alloc (Obj.cells #[int u64 (tq.1:Int),int u64 (tq.2.1:Int),.bool tq.2.2] 27);replace h18:=h18.alloc (Obj.cells #[int u64 (tq.1:Int),int u64 (tq.2.1:Int),.bool tq.2.2] 27);replace hB:=hB.alloc hB.size (Obj.cells #[int u64 (tq.1:Int),int u64 (tq.2.1:Int),.bool tq.2.2] 27);obtain⟨W13,eW13⟩:∃W,w8.alloc (Obj.cells #[int u64 (tq.1:Int),int u64 (tq.2.1:Int),.bool tq.2.2] 27)=W:=⟨_,rfl⟩;rw [eW13] at h16 h18 h19 hB;obtain⟨b19,qb19⟩:∃b,w8.heap.size=b:=⟨_,rfl⟩;rw [qb19] at h19;have hTB:∀w',G.Sides [] W13.drew w'→TabK w':=fun w' hB' i hi=>hB'.cell ((hT.kept hB) i hi) (by simp)
    go_wp2;clear eW11 eW13 qb18 qb19 BS TXG TYG KX KY
    refine G.pool_prT (W:=W13) [] 8 [.val (int u64 (x:Int)),
        .val (.agg #[int u64 (tq.1:Int),int u64 (tq.2.1:Int),.bool tq.2.2]),
        .val (.agg #[int u64 (tr.1:Int),int u64 (tr.2.1:Int),.bool tr.2.2]),
        .val (.agg #[int u64 (tq.1:Int),int u64 (tq.2.1:Int),.bool tq.2.2]),
        .val (.agg #[int u64 (tc.1:Int),int u64 (tc.2.1:Int),.bool tc.2.2]),
        .val (.string sn),
        .val (.agg #[.string k1,.string k2,.string k3]),
        .new (.cells #[.string ⟨#[]⟩,.string ⟨#[]⟩,.string ⟨#[]⟩] 46) (.cells #[.string ⟨#[]⟩,.string ⟨#[]⟩,.string ⟨#[]⟩] 46) 900] [[12],[19],[87,88],[19],[16],[17],[89,90,91,92],[],[20,93]] (fun f=> [(some 87,int u64 (x:Int)),(some 88,.agg #[int u64 (tq.1:Int),int u64 (tq.2.1:Int),.bool tq.2.2]),(some 89,.agg #[int u64 (tr.1:Int),int u64 (tr.2.1:Int),.bool tr.2.2]),(some 90,.agg #[int u64 (tq.1:Int),int u64 (tq.2.1:Int),.bool tq.2.2]),(some 91,.agg #[int u64 (tc.1:Int),int u64 (tc.2.1:Int),.bool tc.2.2]),(some 92,.string sn),(some 93,.agg #[.string k1,.string k2,.string k3]),(some 20,.pointer (some ⟨f 7,0,none⟩))]) (by kernel_rfl) (by kernel_rfl) (by kernel_rfl) (by kernel_rfl) (by decide) (by kernel_rfl) (fun _=>by kernel_rfl) (G.last_of [.cells #[.string ⟨#[]⟩,.string ⟨#[]⟩,.string ⟨#[]⟩] 46] (fun F R hm=>by simp at hm) (fun ob ob' k hm=>by simp at hm;simp [hm]) (fun b ob ob' hm=>by simp at hm)) (fun b ob ob' hm=>by simp at hm) ?_ ?_
    · intro ix hix
      match ix,hix with
      |0,_=>exact G.obv [(12,int u64 (x:Int))] rfl rfl (fun A w ⟨e0,_⟩ hB=>Y.move e0)
      |1,_=>exact G.obv [(19,.pointer (some ⟨b19,0,none⟩))] rfl rfl (fun A w ⟨e0,_⟩ hB=>Y.ldT underlying27 rfl (by kernel_rfl) e0 (Y.side hB h19))
      |2,_=>exact G.obv [(87,int u64 (x:Int)),(88,.agg #[int u64 (tq.1:Int),int u64 (tq.2.1:Int),.bool tq.2.2])] rfl rfl (fun A w ⟨e0,e1,_⟩ hB=>Y.cl2 cfTI e0 e1 (by have h:=TXQ w;exact h))
      |3,_=>exact G.obv [(19,.pointer (some ⟨b19,0,none⟩))] rfl rfl (fun A w ⟨e0,_⟩ hB=>Y.ldT underlying27 rfl (by kernel_rfl) e0 (Y.side hB h19))
      |4,_=>exact G.obv [(16,.pointer (some ⟨b16,0,none⟩))] rfl rfl (fun A w ⟨e0,_⟩ hB=>Y.ldT underlying27 rfl (by kernel_rfl) e0 (Y.side hB h16))
      |5,_=>exact G.obv [(17,.string sn)] rfl rfl (fun A w ⟨e0,_⟩ hB=>Y.move e0)
      |6,_=>exact G.obv [(89,.agg #[int u64 (tr.1:Int),int u64 (tr.2.1:Int),.bool tr.2.2]),(90,.agg #[int u64 (tq.1:Int),int u64 (tq.2.1:Int),.bool tq.2.2]),(91,.agg #[int u64 (tc.1:Int),int u64 (tc.2.1:Int),.bool tc.2.2]),(92,.string sn)] rfl rfl (fun A w ⟨e0,e1,e2,e3,_⟩ hB=>Y.cl4 cfAI e0 e1 e2 e3 (by have h:=AI w (hTB w hB);exact h))
      |7,_=>exact G.ob_new rfl rfl (fun A w=>alK)
      |ix+8,h=>exact absurd h (by omega)
    intro f1 V13 hS hnew y1 y2 fuel hfuel;obtain⟨hb0,hbn⟩:=hnew 7 _ _ _ rfl (by decide);have hk0:Bk V13 46 (f1 7) #[.string ⟨#[]⟩,.string ⟨#[]⟩,.string ⟨#[]⟩]:=hbn;have d5:Bl W13 V13:=(Below.refl _ W13).drew.trans hS.below;have hlo:W13.heap.size≤f1 7:=hb0;have hlo2:w.heap.size≤f1 7:=Nat.le_trans hB.size hlo;have lh16:=h16.lt;replace h16:=h16.keep d5;have lh18:=h18.lt;replace h18:=h18.keep d5;have lh19:=h19.lt;replace h19:=h19.keep d5;replace hB:=hB.tr d5;clear hS hnew y1 y2 hbn hb0 d5;simp only [puts,List.foldl,Act.put,List.setIfInBounds_toArray,List.set_cons_zero,List.set_cons_succ];obtain⟨b20,hb20⟩:∃b,b=f1 7:=⟨_,rfl⟩;rw [←hb20] at hk0 hlo2 hlo;simp only [←hb20];refine last_do1 8 hfuel (by kernel_rfl) (by kernel_rfl) rfl rfl ?_;refine fun Q K hK=>Y.puA (cs:=#[.string k1,.string k2,.string k3]) rfl rfl hk0 rfl (by kernel_rfl) (by simp [Value.oneCell']) Q K (fun v W14 hT1=>hK v W14 ?_)
    have k20:Bk W14 46 b20 #[.string k1,.string k2,.string k3]:=hT1.self;have hg:V13.grownBy W14 (some b20):=⟨hT1.os,hT1.tape,hT1.output,by rw [hT1.size];exact Nat.le_refl _,fun k _ hk=>hT1.other k (fun e=>hk (by rw [e]))⟩;replace h16:=h16.keptG hg (fun e=>by have:=Option.some.inj e;omega);replace h18:=h18.keptG hg (fun e=>by have:=Option.some.inj e;omega);replace h19:=h19.keptG hg (fun e=>by have:=Option.some.inj e;omega);replace hB:=belowK hB hg hlo2 hB.size;clear hT1 hg hk0 hlo hlo2 hb20 lh16 lh18 lh19;clear hTB TXQ;have hTB:∀w',G.Sides [] W14.drew w'→TabK w':=fun w' hB' i hi=>hB'.cell ((hT.kept hB) i hi) (by simp)
    go_wp2
    refine G.pool_prT (W:=W14) [] 8 [.val (int u64 (y:Int)),
        .val (.agg #[int u64 (tp.1:Int),int u64 (tp.2.1:Int),.bool tp.2.2]),
        .val (.agg #[int u64 (tr.1:Int),int u64 (tr.2.1:Int),.bool tr.2.2]),
        .val (.agg #[int u64 (tq.1:Int),int u64 (tq.2.1:Int),.bool tq.2.2]),
        .val (.agg #[int u64 (tc.1:Int),int u64 (tc.2.1:Int),.bool tc.2.2]),
        .val (.string sn),
        .val (.agg #[.string k1,.string k2,.string k3]),
        .new (.cells #[.string ⟨#[]⟩,.string ⟨#[]⟩,.string ⟨#[]⟩] 46) (.cells #[.string ⟨#[]⟩,.string ⟨#[]⟩,.string ⟨#[]⟩] 46) 900] [[13],[18],[94,95],[19],[16],[17],[96,97,98,99],[],[21,100]] (fun f=> [(some 94,int u64 (y:Int)),(some 95,.agg #[int u64 (tp.1:Int),int u64 (tp.2.1:Int),.bool tp.2.2]),(some 96,.agg #[int u64 (tr.1:Int),int u64 (tr.2.1:Int),.bool tr.2.2]),(some 97,.agg #[int u64 (tq.1:Int),int u64 (tq.2.1:Int),.bool tq.2.2]),(some 98,.agg #[int u64 (tc.1:Int),int u64 (tc.2.1:Int),.bool tc.2.2]),(some 99,.string sn),(some 100,.agg #[.string k1,.string k2,.string k3]),(some 21,.pointer (some ⟨f 7,0,none⟩))]) (by kernel_rfl) (by kernel_rfl) (by kernel_rfl) (by kernel_rfl) (by decide) (by kernel_rfl) (fun _=>by kernel_rfl) (G.last_of [.cells #[.string ⟨#[]⟩,.string ⟨#[]⟩,.string ⟨#[]⟩] 46] (fun F R hm=>by simp at hm) (fun ob ob' k hm=>by simp at hm;simp [hm]) (fun b ob ob' hm=>by simp at hm)) (fun b ob ob' hm=>by simp at hm) ?_ ?_
    · intro ix hix
      match ix,hix with
      |0,_=>exact G.obv [(13,int u64 (y:Int))] rfl rfl (fun A w ⟨e0,_⟩ hB=>Y.move e0)
      |1,_=>exact G.obv [(18,.pointer (some ⟨b18,0,none⟩))] rfl rfl (fun A w ⟨e0,_⟩ hB=>Y.ldT underlying27 rfl (by kernel_rfl) e0 (Y.side hB h18))
      |2,_=>exact G.obv [(94,int u64 (y:Int)),(95,.agg #[int u64 (tp.1:Int),int u64 (tp.2.1:Int),.bool tp.2.2])] rfl rfl (fun A w ⟨e0,e1,_⟩ hB=>Y.cl2 cfTI e0 e1 (by have h:=TYP w;exact h))
      |3,_=>exact G.obv [(19,.pointer (some ⟨b19,0,none⟩))] rfl rfl (fun A w ⟨e0,_⟩ hB=>Y.ldT underlying27 rfl (by kernel_rfl) e0 (Y.side hB h19))
      |4,_=>exact G.obv [(16,.pointer (some ⟨b16,0,none⟩))] rfl rfl (fun A w ⟨e0,_⟩ hB=>Y.ldT underlying27 rfl (by kernel_rfl) e0 (Y.side hB h16))
      |5,_=>exact G.obv [(17,.string sn)] rfl rfl (fun A w ⟨e0,_⟩ hB=>Y.move e0)
      |6,_=>exact G.obv [(96,.agg #[int u64 (tr.1:Int),int u64 (tr.2.1:Int),.bool tr.2.2]),(97,.agg #[int u64 (tq.1:Int),int u64 (tq.2.1:Int),.bool tq.2.2]),(98,.agg #[int u64 (tc.1:Int),int u64 (tc.2.1:Int),.bool tc.2.2]),(99,.string sn)] rfl rfl (fun A w ⟨e0,e1,e2,e3,_⟩ hB=>Y.cl4 cfAI e0 e1 e2 e3 (by have h:=AI w (hTB w hB);exact h))
      |7,_=>exact G.ob_new rfl rfl (fun A w=>alK)
      |ix+8,h=>exact absurd h (by omega)
    intro f2 V14 hS hnew y1 y2 fuel hfuel;obtain⟨hb0,hbn⟩:=hnew 7 _ _ _ rfl (by decide);have hk0:Bk V14 46 (f2 7) #[.string ⟨#[]⟩,.string ⟨#[]⟩,.string ⟨#[]⟩]:=hbn;have d5:Bl W14 V14:=(Below.refl _ W14).drew.trans hS.below;have hlo:W14.heap.size≤f2 7:=hb0;have hlo2:w.heap.size≤f2 7:=Nat.le_trans hB.size hlo;have lh16:=h16.lt;replace h16:=h16.keep d5;have lh19:=h19.lt;replace h19:=h19.keep d5;have lk20:=k20.lt;replace k20:=k20.keep d5;replace hB:=hB.tr d5;clear hS hnew y1 y2 hbn hb0 d5;simp only [puts,List.foldl,Act.put,List.setIfInBounds_toArray,List.set_cons_zero,List.set_cons_succ];obtain⟨b21,hb21⟩:∃b,b=f2 7:=⟨_,rfl⟩;rw [←hb21] at hk0 hlo2 hlo;simp only [←hb21];refine last_do1 8 hfuel (by kernel_rfl) (by kernel_rfl) rfl rfl ?_;refine fun Q K hK=>Y.puA (cs:=#[.string k1,.string k2,.string k3]) rfl rfl hk0 rfl (by kernel_rfl) (by simp [Value.oneCell']) Q K (fun v W15 hT1=>hK v W15 ?_)
    have k21:Bk W15 46 b21 #[.string k1,.string k2,.string k3]:=hT1.self;have hg:V14.grownBy W15 (some b21):=⟨hT1.os,hT1.tape,hT1.output,by rw [hT1.size];exact Nat.le_refl _,fun k _ hk=>hT1.other k (fun e=>hk (by rw [e]))⟩;replace h16:=h16.keptG hg (fun e=>by have:=Option.some.inj e;omega);replace h19:=h19.keptG hg (fun e=>by have:=Option.some.inj e;omega);replace k20:=k20.keptG hg (fun e=>by have:=Option.some.inj e;omega);replace hB:=belowK hB hg hlo2 hB.size;clear hT1 hg hk0 hlo hlo2 hb21 lh16 lh19 lk20;clear hTB TYP h18;go_wp2;have c0:W15.drew.cell? ⟨b20,0+0,none⟩=some (.string k1):=k20.cell (k:=0) rfl;have c1:W15.drew.cell? ⟨b20,0+1,none⟩=some (.string k2):=k20.cell (k:=1) rfl;have c2:W15.drew.cell? ⟨b20,0+2,none⟩=some (.string k3):=k20.cell (k:=2) rfl
    refine G.pool_list (W:=W15) [] [.val (.agg #[.string k1,.string k2,.string k3]),
        .val (.agg #[.string k1,.string k2,.string k3]),
        .val (.bool true),
        .val (.bool true),
        .val (.agg #[.string k1,.string k2,.string k3]),
        .val (int u64 (x:Int)),
        .val (.agg #[int u64 (tq.1:Int),int u64 (tq.2.1:Int),.bool tq.2.2]),
        .val (.agg #[int u64 (tr.1:Int),int u64 (tr.2.1:Int),.bool tr.2.2]),
        .val (.agg #[int u64 (tq.1:Int),int u64 (tq.2.1:Int),.bool tq.2.2]),
        .val (.agg #[int u64 (tc.1:Int),int u64 (tc.2.1:Int),.bool tc.2.2]),
        .val (.string sn),
        .val (.agg #[.string k1,.string k2,.string k3]),
        .val (.bool true),
        .val (.bool true),
        .val (.bool true),
        .val (.pointer (some ⟨b20,0+0,none⟩)),
        .val (.string k1),
        .val (.int .i64 32),
        .val (.bool true),
        .val (.bool true),
        .val (.bool true),
        .val (.pointer (some ⟨b20,0+1,none⟩)),
        .val (.string k2),
        .val (.int .i64 32),
        .val (.bool true),
        .val (.bool true),
        .val (.bool true),
        .val (.pointer (some ⟨b20,0+2,none⟩)),
        .val (.string k3),
        .val (.int .i64 32),
        .val (.bool true),
        .val (.bool true),
        .val (.bool true)] [[20],[21],[101,102],[103],[20],[12],[19],[106,107],[19],[16],[17],[108,109,110,111],[105,112],[104,113],[114],[20],[116],[117],[118],[115,119],[120],[20],[122],[123],[124],[121,125],[126],[20],[128],[129],[130],[127,131],[132]] (fun f=> [(some 101,.agg #[.string k1,.string k2,.string k3]),(some 102,.agg #[.string k1,.string k2,.string k3]),(some 103,.bool true),(some 104,.bool true),(some 105,.agg #[.string k1,.string k2,.string k3]),(some 106,int u64 (x:Int)),(some 107,.agg #[int u64 (tq.1:Int),int u64 (tq.2.1:Int),.bool tq.2.2]),(some 108,.agg #[int u64 (tr.1:Int),int u64 (tr.2.1:Int),.bool tr.2.2]),(some 109,.agg #[int u64 (tq.1:Int),int u64 (tq.2.1:Int),.bool tq.2.2]),(some 110,.agg #[int u64 (tc.1:Int),int u64 (tc.2.1:Int),.bool tc.2.2]),(some 111,.string sn),(some 112,.agg #[.string k1,.string k2,.string k3]),(some 113,.bool true),(some 114,.bool true),(some 115,.bool true),(some 116,.pointer (some ⟨b20,0+0,none⟩)),(some 117,.string k1),(some 118,.int .i64 32),(some 119,.bool true),(some 120,.bool true),(some 121,.bool true),(some 122,.pointer (some ⟨b20,0+1,none⟩)),(some 123,.string k2),(some 124,.int .i64 32),(some 125,.bool true),(some 126,.bool true),(some 127,.bool true),(some 128,.pointer (some ⟨b20,0+2,none⟩)),(some 129,.string k3),(some 130,.int .i64 32),(some 131,.bool true),(some 132,.bool true),(some 4,.bool true)]) (by kernel_rfl) (by kernel_rfl) (by kernel_rfl) (by kernel_rfl) (fun _=>by kernel_rfl) (G.last_of [] (fun F R hm=>by simp at hm) (fun ob ob' k hm=>by simp at hm) (fun b ob ob' hm=>by simp at hm)) (fun b ob ob' hm=>by simp at hm) ?_ ?_
    · intro ix hix
      match ix,hix with
      |0,_=>exact G.obv [(20,.pointer (some ⟨b20,0,none⟩))] rfl rfl (fun A w ⟨e0,_⟩ hB=>Y.ldT underlying46 rfl (by kernel_rfl) e0 (Y.side hB k20))
      |1,_=>exact G.obv [(21,.pointer (some ⟨b21,0,none⟩))] rfl rfl (fun A w ⟨e0,_⟩ hB=>Y.ldT underlying46 rfl (by kernel_rfl) e0 (Y.side hB k21))
      |2,_=>exact G.obv [(101,.agg #[.string k1,.string k2,.string k3]),(102,.agg #[.string k1,.string k2,.string k3])] rfl rfl (fun A w ⟨e0,e1,_⟩ hB=>eqKK e0 e1)
      |3,_=>exact G.obv [(103,.bool true)] rfl rfl (fun A w ⟨e0,_⟩ hB=>Y.move e0)
      |4,_=>exact G.obv [(20,.pointer (some ⟨b20,0,none⟩))] rfl rfl (fun A w ⟨e0,_⟩ hB=>Y.ldT underlying46 rfl (by kernel_rfl) e0 (Y.side hB k20))
      |5,_=>exact G.obv [(12,int u64 (x:Int))] rfl rfl (fun A w ⟨e0,_⟩ hB=>Y.move e0)
      |6,_=>exact G.obv [(19,.pointer (some ⟨b19,0,none⟩))] rfl rfl (fun A w ⟨e0,_⟩ hB=>Y.ldT underlying27 rfl (by kernel_rfl) e0 (Y.side hB h19))
      |7,_=>exact G.obv [(106,int u64 (x:Int)),(107,.agg #[int u64 (tq.1:Int),int u64 (tq.2.1:Int),.bool tq.2.2])] rfl rfl (fun A w ⟨e0,e1,_⟩ hB=>Y.cl2 cfTS e0 e1 (by have h:=TS w;exact h))
      |8,_=>exact G.obv [(19,.pointer (some ⟨b19,0,none⟩))] rfl rfl (fun A w ⟨e0,_⟩ hB=>Y.ldT underlying27 rfl (by kernel_rfl) e0 (Y.side hB h19))
      |9,_=>exact G.obv [(16,.pointer (some ⟨b16,0,none⟩))] rfl rfl (fun A w ⟨e0,_⟩ hB=>Y.ldT underlying27 rfl (by kernel_rfl) e0 (Y.side hB h16))
      |10,_=>exact G.obv [(17,.string sn)] rfl rfl (fun A w ⟨e0,_⟩ hB=>Y.move e0)
      |11,_=>exact G.obv [(108,.agg #[int u64 (tr.1:Int),int u64 (tr.2.1:Int),.bool tr.2.2]),(109,.agg #[int u64 (tq.1:Int),int u64 (tq.2.1:Int),.bool tq.2.2]),(110,.agg #[int u64 (tc.1:Int),int u64 (tc.2.1:Int),.bool tc.2.2]),(111,.string sn)] rfl rfl (fun A w ⟨e0,e1,e2,e3,_⟩ hB=>Y.cl4 cfAS e0 e1 e2 e3 (by have h:=AS w;exact h))
      |12,_=>exact G.obv [(105,.agg #[.string k1,.string k2,.string k3]),(112,.agg #[.string k1,.string k2,.string k3])] rfl rfl (fun A w ⟨e0,e1,_⟩ hB=>eqKK e0 e1)
      |13,_=>exact G.obv [(104,.bool true),(113,.bool true)] rfl rfl (fun A w ⟨e0,e1,_⟩ hB=>pkT e0 e1)
      |14,_=>exact G.obv [(114,.bool true)] rfl rfl (fun A w ⟨e0,_⟩ hB=>Y.move e0)
      |15,_=>exact G.obv [(20,.pointer (some ⟨b20,0,none⟩))] rfl rfl (fun A w ⟨e0,_⟩ hB=>fa_k0 e0)
      |16,_=>exact G.obv [(116,.pointer (some ⟨b20,0+0,none⟩))] rfl rfl (fun A w ⟨e0,_⟩ hB=>Y.ldS e0 (hB.cell c0 (by simp)))
      |17,_=>exact G.obv [(117,.string k1)] rfl rfl (fun A w ⟨e0,_⟩ hB=>lenT e0 z1.out)
      |18,_=>exact G.obv [(118,.int .i64 32)] rfl rfl (fun A w ⟨e0,_⟩ hB=>eqT32 e0)
      |19,_=>exact G.obv [(115,.bool true),(119,.bool true)] rfl rfl (fun A w ⟨e0,e1,_⟩ hB=>pkT e0 e1)
      |20,_=>exact G.obv [(120,.bool true)] rfl rfl (fun A w ⟨e0,_⟩ hB=>Y.move e0)
      |21,_=>exact G.obv [(20,.pointer (some ⟨b20,0,none⟩))] rfl rfl (fun A w ⟨e0,_⟩ hB=>fa_k1 e0)
      |22,_=>exact G.obv [(122,.pointer (some ⟨b20,0+1,none⟩))] rfl rfl (fun A w ⟨e0,_⟩ hB=>Y.ldS e0 (hB.cell c1 (by simp)))
      |23,_=>exact G.obv [(123,.string k2)] rfl rfl (fun A w ⟨e0,_⟩ hB=>lenT e0 z2.out)
      |24,_=>exact G.obv [(124,.int .i64 32)] rfl rfl (fun A w ⟨e0,_⟩ hB=>eqT32 e0)
      |25,_=>exact G.obv [(121,.bool true),(125,.bool true)] rfl rfl (fun A w ⟨e0,e1,_⟩ hB=>pkT e0 e1)
      |26,_=>exact G.obv [(126,.bool true)] rfl rfl (fun A w ⟨e0,_⟩ hB=>Y.move e0)
      |27,_=>exact G.obv [(20,.pointer (some ⟨b20,0,none⟩))] rfl rfl (fun A w ⟨e0,_⟩ hB=>fa_k2 e0)
      |28,_=>exact G.obv [(128,.pointer (some ⟨b20,0+2,none⟩))] rfl rfl (fun A w ⟨e0,_⟩ hB=>Y.ldS e0 (hB.cell c2 (by simp)))
      |29,_=>exact G.obv [(129,.string k3)] rfl rfl (fun A w ⟨e0,_⟩ hB=>lenT e0 z3.out)
      |30,_=>exact G.obv [(130,.int .i64 32)] rfl rfl (fun A w ⟨e0,_⟩ hB=>eqT32 e0)
      |31,_=>exact G.obv [(127,.bool true),(131,.bool true)] rfl rfl (fun A w ⟨e0,e1,_⟩ hB=>pkT e0 e1)
      |32,_=>exact G.obv [(132,.bool true)] rfl rfl (fun A w ⟨e0,_⟩ hB=>Y.assign e0)
      |ix+33,h=>exact absurd h (by simp)
    intro f3 W16 hS y1 y2 y3 y4;have d5:Bl W15 W16:=(Below.refl _ W15).drew.trans hS.below;replace hB:=hB.tr d5;clear hS y1 y2 y3 y4 d5 c0 c1 c2;simp only [puts,List.foldl,Act.put,List.setIfInBounds_toArray,List.set_cons_zero,List.set_cons_succ];go_wp2;go_ret;exact⟨rfl,hB⟩
end
section
open Go.ChangeShapes Go.WideShapes Go.ChangeAt
theorem cellsU8:prog.cellsOf 5=1:=by kernel_rfl
theorem cod_of {H:Type}{enc:TypeId×Value→H}{W:World}{a0:Option Addr}{len cap:Nat}{d0:DataW H}{p:List MemPlace}
    (h0:DataW.Trod enc prog W 0 (fun _=>true) true 35 (.slice a0 len cap) d0 p)(hl:len≤1048576):Cod W (.slice a0 len cap):=by
  obtain⟨fuel,hf⟩:=h0;rcases open_ints underlying35 underlying5 cellsU8 hf with ⟨hcs,hx⟩|⟨a,len',cap',zs,hcs,_,hl',hm,hz,hx,hcell,hwz⟩
  · simp [Value.cells] at hcs;obtain⟨rfl,rfl,rfl⟩:=hcs;exact .inl ⟨_,_,rfl⟩
  · simp [Value.cells] at hcs;obtain⟨rfl,rfl,rfl⟩:=hcs;simp only [if_true] at hz;by_cases h1:len=0
    · subst h1;exact .inl ⟨_,_,rfl⟩
    · have hsp:a.spot=none:=by
        have:=hcell 0 (by omega);simp only [Addr.add,if_true] at this;unfold World.cell? at this;split at this
        · split at this
          · cases this
          · rename_i h;simpa using h
        · cases this
      obtain⟨b,o,sp⟩:=a;obtain rfl:sp=none:=hsp;refine .inr ⟨b,o,len,cap,by omega,hl,rfl,fun i hi=> ?_⟩;have hc:=hcell i (by omega);have ha:(⟨b,o,none⟩:Addr).add i=⟨b,o+i,none⟩:=by unfold Addr.add;split<;>simp_all
      rw [ha] at hc;have hw:=hwz (zs.getD i 0) (by rw [List.getD_eq_getElem?_getD,List.getElem?_eq_getElem (by omega)];exact List.getElem_mem _);have h2:0≤zs.getD i 0∧zs.getD i 0≤255:=by simpa [Lit.wf,IntKind.min,IntKind.max,IntKind.signed,IntKind.bits] using hw
      exact⟨(zs.getD i 0).toNat,by omega,by rw [hc];congr 2;omega⟩
end
end Go.Proofs.YtjhbckngdclleaaGreatDoor
