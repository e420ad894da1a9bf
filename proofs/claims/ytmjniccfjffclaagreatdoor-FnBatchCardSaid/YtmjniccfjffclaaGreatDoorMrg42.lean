import Derived.Test.YtmjniccfjffclaaGreatDoorMrg41
set_option linter.unusedVariables false
set_option maxRecDepth 100000
set_option maxHeartbeats 16000000
namespace Go.Proofs.YtmjniccfjffclaaGreatDoor
open Go.Proofs.Tryz Go.RowKit
open Go.Value (int)
open Go.IntKind (u64)
section
open M
theorem base_pt:asPt 1 509478702933351334 false=gG:=asPt_some (toPt_self gG_on)
theorem bsT (k:Nat)(w:World)(hk:k<18446744073709551616):
    Cr 15 #[int u64 k,.agg #[int u64 1,int u64 509478702933351334,.bool false]] w (.agg #[int u64 (px (nt k gG)),int u64 (py (nt k gG)),.bool (pb (nt k gG))]):=by
  have:=timS_any k 1 509478702933351334 false w hk;rw [base_pt,ptW_eq] at this;exact this
theorem baseS' (w:World):Cr 16 #[] w (.agg #[int u64 1,int u64 509478702933351334,.bool false]):=baseS w
theorem dword_uni (v:Value)(p:Nat)(w0:World)(hv:Cod w0 v)(hp:p≤50000):
    ∃x:Nat,x<18446744073709551616∧∀w,Bl w0 w→Cr 60 #[v,.int .i64 p] w (.tuple #[int u64 x,.int .i64 (p+10:Nat)]):=by
  obtain⟨z,hz,T1⟩:=take_uni v p 12 w0 hv (by omega) (by omega) (by omega);obtain⟨y,hy,T2⟩:=take_uni v (p+1) 5 w0 hv (by omega) (by omega) (by omega);obtain⟨s,hs,T3⟩:=byt_uni v (p+2) 8 w0 hv (by omega) (by omega);have e1:((p+1:Nat):Int)=(p:Int)+1:=by omega
  have e2:((p+2:Nat):Int)=(p:Int)+1+1:=by omega
  have e3:((8:Nat):Int)=8:=rfl;rw [e1] at T2;rw [e2,e3] at T3;clear e1 e2 e3;have W:=fun w=>wdS_any s w hs
  have hl:=numL_8 s hs;obtain⟨x,hx0,hx1⟩:∃x:Int,0≤x∧x≤18446744073709551615∧x=(numL (byt s):Nat):=⟨_,by omega,by omega,rfl⟩;rw [←hx1.2] at W;have hx2:=hx1.1;clear hl hx1
  obtain⟨r,hr,hR⟩:∃r:Nat,r<18446744073709551616∧((z=0∧r=2305843009213693951+y-2)∨(z=1∧r=2305843010818082053+y-2)∨(z=2∧r=y)∨((3≤z∧z<9)∧r=(x%2305843009213693951).toNat)∨(9≤z∧r=x.toNat)):=by
    rcases(show z=0∨z=1∨z=2∨(3≤z∧z<9)∨9≤z by omega) with h|h|h|h|h
    · exact⟨_,by omega,.inl ⟨h,rfl⟩⟩
    · exact⟨_,by omega,.inr (.inl ⟨h,rfl⟩)⟩
    · exact⟨_,by omega,.inr (.inr (.inl ⟨h,rfl⟩))⟩
    · exact⟨_,by omega,.inr (.inr (.inr (.inl ⟨h,rfl⟩)))⟩
    · exact⟨_,by omega,.inr (.inr (.inr (.inr ⟨h,rfl⟩)))⟩
  refine⟨r,hr,fun w hw=> ?_⟩;go_enter func60,ntmps60;go_wp2_with fail;refine(T1 _ hw).mono ?_;rintro e w1 ⟨rfl,rfl⟩;go_wp2_with fail;refine(T2 _ hw).mono ?_;rintro e w1 ⟨rfl,rfl⟩;go_wp2_with fail;refine(T3 _ hw).mono ?_;rintro e w1 ⟨rfl,hb⟩;clear T1 T2 T3;go_wp2_with fail;refine(W _).mono ?_;rintro e w2 ⟨rfl,rfl⟩;clear W;rcases hR with ⟨rfl,hR⟩|⟨rfl,hR⟩|⟨rfl,hR⟩|⟨h,hR⟩|⟨h,hR⟩
  · go_wp2;go_ret2;exact⟨ret_ui (by omega) (by omega),hb⟩
  · go_wp2;go_ret2;exact⟨ret_ui (by omega) (by omega),hb⟩
  · go_wp2;go_ret2;exact⟨ret_ui (by omega) (by omega),hb⟩
  · have h0:((z:Int)==0)=false:=by simp;omega
    have h1:((z:Int)==1)=false:=by simp;omega
    have h2:((z:Int)==2)=false:=by simp;omega
    have h3:(z:Int)<9:=by omega
    go_wp2;go_ret2;exact⟨ret_ui (by omega) (by omega),hb⟩
  · have h0:((z:Int)==0)=false:=by simp;omega
    have h1:((z:Int)==1)=false:=by simp;omega
    have h2:((z:Int)==2)=false:=by simp;omega
    have h3: ¬ ((z:Int)<9):=by omega
    go_wp2;go_ret2;exact⟨ret_ui (by omega) (by omega),hb⟩
theorem dscal_uni (v:Value)(p:Nat)(w0:World)(hv:Cod w0 v)(hp:p≤40000):
    ∃k:Nat,k<18446744073709551616∧∀w,Bl w0 w→Cr 27 #[v,.int .i64 p] w (.tuple #[int u64 k,.int .i64 (p+10:Nat)]):=by
  obtain⟨x,hx,T1⟩:=dword_uni v p w0 hv (by omega);obtain⟨z,hz⟩:∃z:Nat,z=x%2305843010818082052:=⟨_,rfl⟩;have hz1:z<2305843010818082052:=by rw [hz];exact Nat.mod_lt _ (by decide)
  have e1:(x:Int)%2305843010818082052=(z:Int):=by rw [hz];rfl
  have e2:IntKind.u64.wrap ((z:Int)+1)=(z:Int)+1:=by rw [IntKind.wrap_u64];omega
  clear hz hx;refine⟨z+1,by omega,fun w hw=> ?_⟩;go_enter func27,ntmps27;go_wp2_with fail;refine(T1 _ hw).mono ?_;rintro e w1 ⟨rfl,hb⟩;clear T1;go_wp2;go_ret2;exact⟨rfl,hb⟩
theorem dpt_uni (v:Value)(p:Nat)(w0:World)(hv:Cod w0 v)(hp:p≤30000):
    ∃q:Pt,on q∧∀w,Bl w0 w→Cr 28 #[v,.int .i64 p] w (.tuple #[.agg #[int u64 (px q),int u64 (py q),.bool (pb q)],.int .i64 (p+11:Nat)]):=by
  obtain⟨z,hz,T1⟩:=take_uni v p 16 w0 hv (by omega) (by omega) (by omega);obtain⟨k,hk,T2⟩:=dscal_uni v (p+1) w0 hv (by omega);have e1:((p+1:Nat):Int)=(p:Int)+1:=by omega
  have e2:((p+1+10:Nat):Int)=(p:Int)+11:=by omega
  rw [e1,e2] at T2;clear e1 e2
  obtain⟨q,hq,hQ⟩:∃q:Pt,on q∧((z=0∧q=none)∨(1≤z∧z<6∧q=nt (k%20) gG)∨(6≤z∧q=nt k gG)):=by
    rcases(show z=0∨(1≤z∧z<6)∨6≤z by omega) with h|h|h
    · exact⟨none,trivial,.inl ⟨h,rfl⟩⟩
    · exact⟨_,nt_on gG_on _,.inr (.inl ⟨h.1,h.2,rfl⟩)⟩
    · exact⟨_,nt_on gG_on _,.inr (.inr ⟨h,rfl⟩)⟩
  refine⟨q,hq,fun w hw=> ?_⟩;have hr:=R3.new w 0 0 false;have hb:=balc w (Obj.cells #[int u64 0,int u64 0,.bool false] 34);have hw1:=hw.alloc hw.size (Obj.cells #[int u64 0,int u64 0,.bool false] 34);go_enter func28,ntmps28;go_wp2_with fail;refine(T1 _ hw1).mono ?_;rintro e w1 ⟨rfl,rfl⟩;go_wp2_with fail;refine(T2 _ hw1).mono ?_;rintro e w2 ⟨rfl,b2⟩;replace hr:=hr.keep b2;replace hb:=kpB hb hb.size b2;clear b2 T1 T2 hw1;rcases hQ with ⟨rfl,rfl⟩|⟨h,h',hQ⟩|⟨h,hQ⟩
  · go_wp2_with fail;refine(zeroS _).mono ?_;rintro e w3 ⟨rfl,rfl⟩;replace hr:=hr.alloc (Obj.cells #[int u64 0,int u64 0,.bool true] 34);replace hb:=hb.alloc hb.size (Obj.cells #[int u64 0,int u64 0,.bool true] 34);have c0:=hr.c0;have c1:=hr.c1;have c2:=hr.c2;have f0:=hr.frz 0;have f1:=hr.frz 1;have f2:=hr.frz 2;go_wp2;exact bodyPost_ret (v:= .tuple #[.agg #[int u64 0,int u64 0,.bool true],.int .i64 ((p:Int)+11)]) (pt_ct (fn:=Tryz.f28) (p:=4) (u:=5) results28 _ rfl (hr.set _ _ _)) rfl ⟨rfl,set3_below hb (Nat.le_refl _)⟩
  · have h0:((z:Int)==0)=false:=by simp;omega
    have h1:(z:Int)<6:=by omega
    obtain⟨j,hj⟩:∃j:Nat,j=k%20:=⟨_,rfl⟩;have hj1:j<18446744073709551616:=by omega
    have e1:(k:Int)%20=(j:Int):=by rw [hj];rfl
    have T:=fun w=>bsT j w hj1
    rw [←hj] at hQ;rw [←hQ] at T;clear hj hj1 hk hQ;go_wp2_with fail;refine(baseS' _).mono ?_;rintro e w3 ⟨rfl,b3⟩;go_wp2_with fail;refine(T _).mono ?_;rintro e w4 ⟨rfl,b4⟩;replace hr:=(hr.keep b3).keep b4;replace hb:=kpB hb hb.size b3;replace hb:=kpB hb hb.size b4;clear b3 b4 T;have c0:=hr.c0;have c1:=hr.c1;have c2:=hr.c2;have f0:=hr.frz 0;have f1:=hr.frz 1;have f2:=hr.frz 2;go_wp2;exact bodyPost_ret (v:= .tuple #[.agg #[int u64 (px q),int u64 (py q),.bool (pb q)],.int .i64 ((p:Int)+11)]) (pt_ct (fn:=Tryz.f28) (p:=4) (u:=5) results28 _ rfl (hr.set _ _ _)) rfl ⟨rfl,set3_below hb (Nat.le_refl _)⟩
  · have h0:((z:Int)==0)=false:=by simp;omega
    have h1: ¬ (z:Int)<6:=by omega
    have T:=fun w=>bsT k w hk
    rw [←hQ] at T;clear hk hQ;go_wp2_with fail;refine(baseS' _).mono ?_;rintro e w3 ⟨rfl,b3⟩;go_wp2_with fail;refine(T _).mono ?_;rintro e w4 ⟨rfl,b4⟩;replace hr:=(hr.keep b3).keep b4;replace hb:=kpB hb hb.size b3;replace hb:=kpB hb hb.size b4;clear b3 b4 T;have c0:=hr.c0;have c1:=hr.c1;have c2:=hr.c2;have f0:=hr.frz 0;have f1:=hr.frz 1;have f2:=hr.frz 2;go_wp2;exact bodyPost_ret (v:= .tuple #[.agg #[int u64 (px q),int u64 (py q),.bool (pb q)],.int .i64 ((p:Int)+11)]) (pt_ct (fn:=Tryz.f28) (p:=4) (u:=5) results28 _ rfl (hr.set _ _ _)) rfl ⟨rfl,set3_below hb (Nat.le_refl _)⟩
theorem dtxt_uni (v:Value)(p:Nat)(w0:World)(hv:Cod w0 v)(hp:p≤20000):
    ∃(m:Int) (s t:ByteArray) (q:Nat),(-1≤m∧m≤5)∧s.size≤65537∧t.size≤65537∧q≤p+86∧∀w,Bl w0 w→Cr 24 #[v,.int .i64 p] w (.tuple #[.int .i64 m,.string s,.string t,.int .i64 q]):=by
  obtain⟨m,hm,T1⟩:=take_uni v p 3 w0 hv (by omega) (by omega) (by omega);obtain⟨h,hh,T2⟩:=take_uni v (p+1) 24 w0 hv (by omega) (by omega) (by omega);obtain⟨s,q,hs,hq,T3⟩:=some_uni v (p+2) w0 hv (by omega);obtain⟨t,q2,ht,hq2,T4⟩:=some_uni v q w0 hv (by omega);have e1:((p+1:Nat):Int)=(p:Int)+1:=by omega
  have e2:((p+2:Nat):Int)=(p:Int)+1+1:=by omega
  rw [e1] at T2;rw [e2] at T3;have hp':(p:Int)≤20000:=by omega
  obtain⟨M,U,hM,hU,hX⟩:∃(M:Int) (U:ByteArray),(-1≤M∧M≤5)∧U.size≤65537∧((h=23∧M=(m:Int)*3-1∧U=t)∨(¬ h=23∧m<2∧0<h∧M=m∧U=⟨#[]⟩)∨(¬ h=23∧m<2∧ ¬ 0<h∧M=m∧U=t)∨(¬ h=23∧m=2∧M=2∧U=t)):=by
    by_cases h1:h=23
    · exact⟨_,t,by omega,ht,.inl ⟨h1,rfl,rfl⟩⟩
    by_cases h2:m<2
    · by_cases h3:0<h
      · exact⟨m,⟨#[]⟩,by omega,by decide,.inr (.inl ⟨h1,h2,h3,rfl,rfl⟩)⟩
      · exact⟨m,t,by omega,ht,.inr (.inr (.inl ⟨h1,h2,h3,rfl,rfl⟩))⟩
    · exact⟨2,t,by omega,ht,.inr (.inr (.inr ⟨h1,by omega,rfl,rfl⟩))⟩
  refine⟨M,s,U,q2,hM,hs,hU,by omega,fun w hw=> ?_⟩;go_enter func24,ntmps24;go_wp2_with fail;refine(T1 _ hw).mono ?_;rintro e w1 ⟨rfl,rfl⟩;go_wp2_with fail;refine(T2 _ hw).mono ?_;rintro e w1 ⟨rfl,rfl⟩;go_wp2_with fail;refine(T3 _ hw).mono ?_;rintro e w3 ⟨rfl,b3⟩;replace T4:=T4 _ (hw.tr b3);clear T1 T2 T3 e1 e2;go_wp2_with fail;refine T4.mono ?_;rintro e w4 ⟨rfl,b4⟩;have hb:=b3.tr b4;clear T4 b3 b4;rcases hX with ⟨rfl,rfl,rfl⟩|⟨h1,h2,h3,rfl,rfl⟩|⟨h1,h2,h3,rfl,rfl⟩|⟨h1,rfl,rfl,rfl⟩
  · go_wp2;exact bodyPost_ret (v:= .tuple #[.int .i64 ((m:Int)*3-1),.string s,.string U,.int .i64 q2]) (by simp [results,results24]) rfl ⟨rfl,hb⟩
  · have g1: ¬ (h:Int)=23:=by omega
    have g2:(m:Int)<2:=by omega
    have g3:(0:Int)<(h:Int):=by omega
    go_wp2;exact bodyPost_ret (v:= .tuple #[.int .i64 m,.string s,.string ⟨#[]⟩,.int .i64 q2]) (by simp [results,results24]) rfl ⟨rfl,hb⟩
  · have g1: ¬ (h:Int)=23:=by omega
    have g2:(m:Int)<2:=by omega
    have g3: ¬ (0:Int)<(h:Int):=by omega
    go_wp2;exact bodyPost_ret (v:= .tuple #[.int .i64 m,.string s,.string U,.int .i64 q2]) (by simp [results,results24]) rfl ⟨rfl,hb⟩
  · have g1: ¬ (h:Int)=23:=by omega
    clear hm;go_wp2;exact bodyPost_ret (v:= .tuple #[.int .i64 2,.string s,.string U,.int .i64 q2]) (by simp [results,results24]) rfl ⟨rfl,hb⟩
theorem dkey_uni (v:Value)(p:Nat)(w0:World)(hv:Cod w0 v)(hp:p≤20000):
    ∃k:Nat,k<18446744073709551616∧∀w,Bl w0 w→Cr 25 #[v,.int .i64 p] w (.tuple #[int u64 k,.int .i64 (p+11:Nat)]):=by
  obtain⟨h,hh,T1⟩:=take_uni v p 40 w0 hv (by omega) (by omega) (by omega);obtain⟨k,hk,T2⟩:=dscal_uni v (p+1) w0 hv (by omega);have e1:((p+1:Nat):Int)=(p:Int)+1:=by omega
  have e2:((p+1+10:Nat):Int)=(p+11:Nat):=by omega
  rw [e1,e2] at T2;generalize ((p+11:Nat):Int)=P11 at*
  obtain⟨K,hK,hX⟩:∃K:Nat,K<18446744073709551616∧((h=38∧K=0)∨(h=39∧K=2305843010818082053)∨(¬ h=38∧ ¬ h=39∧k=2305843010818082053∧K=1)∨(¬ h=38∧ ¬ h=39∧ ¬ k=2305843010818082053∧K=k)):=by
    by_cases h1:h=38
    · exact⟨0,by decide,.inl ⟨h1,rfl⟩⟩
    by_cases h2:h=39
    · exact⟨_,by decide,.inr (.inl ⟨h2,rfl⟩)⟩
    by_cases h3:k=2305843010818082053
    · exact⟨1,by decide,.inr (.inr (.inl ⟨h1,h2,h3,rfl⟩))⟩
    · exact⟨k,hk,.inr (.inr (.inr ⟨h1,h2,h3,rfl⟩))⟩
  refine⟨K,hK,fun w hw=> ?_⟩;go_enter func25,ntmps25;go_wp2_with fail;refine(T1 _ hw).mono ?_;rintro e w1 ⟨rfl,rfl⟩;go_wp2_with fail;refine(T2 _ hw).mono ?_;rintro e w2 ⟨rfl,b2⟩;clear T1 T2 e1 e2;rcases hX with ⟨rfl,rfl⟩|⟨rfl,rfl⟩|⟨h1,h2,rfl,rfl⟩|⟨h1,h2,h3,rfl⟩
  · go_wp2;go_ret2;exact⟨rfl,b2⟩
  · go_wp2;go_ret2;exact⟨rfl,b2⟩
  · have g1: ¬ (h:Int)=38:=by omega
    have g2: ¬ (h:Int)=39:=by omega
    go_wp2;go_ret2;exact⟨rfl,b2⟩
  · have g1: ¬ (h:Int)=38:=by omega
    have g2: ¬ (h:Int)=39:=by omega
    have g3: ¬ (K:Int)=2305843010818082053:=by omega
    go_wp2;go_ret2;exact⟨rfl,b2⟩
end
end Go.Proofs.YtmjniccfjffclaaGreatDoor
