import Derived.Test.YtjmhmajfkdglnabGreatDoorMrg10
set_option linter.unusedVariables false
set_option maxRecDepth 100000
set_option maxHeartbeats 16000000
namespace Go.Proofs.YtjmhmajfkdglnabGreatDoor
open Go.Proofs.Tryz Go.RowKit
open Go.Value (int)
open Go.IntKind (u64)
theorem wdS_any (s:ByteArray)(w:World)(hs:s.size=8):
    Calls prog 113 #[.string s] w fun e w'=>e= .returned (int u64 (numL (byt s):Nat))∧w=w':=by
  obtain⟨c,hc⟩:∃c,Hid (c=numL (byt s)):=⟨_,rfl⟩;rw [←hc.out];go_enter func113,ntmps113;go_wp2
  go_loop [3,4] (fun rv iv=>∃(k r:Nat),k≤8∧iv= .int .i64 (k:Int)∧rv=int u64 (r:Int)∧Hid (r=numL ((byt s).take k))) (fun _ i=>8-(intOf i).toNat)
  case atStart=>exact ⟨0,0,by omega,rfl,rfl,by simp [Hid,numL]⟩
  case round=>
    obtain⟨k,r,hk,rfl,rfl,hr⟩:=hrel;by_cases hlt:k<8
    · have hlt':k<s.size:=by omega
      have hlti:(k:Int)<(s.size:Int):=by omega
      have hv:=s[k].toNat_lt;have hl:=numL_take_lt s k hlt;rw [←hr.out] at hl;have e0:IntKind.u64.wrap (s[k].toNat:Int)=(s[k].toNat:Int):=by simp only [IntKind.wrap_u64];omega
      have e1:IntKind.u64.wrap (IntKind.u64.wrap ((r:Int)*256)+(s[k].toNat:Int))=((r*256+s[k].toNat:Nat):Int):=by simp only [IntKind.wrap_u64];omega
      have hn:Hid (r*256+s[k].toNat=numL ((byt s).take (k+1))):=by simp only [Hid];rw [numL_take s k hlt',←hr.out]
      generalize r*256+s[k].toNat=r' at*;clear hl hv;go_wp2;go_round
      case rel=>exact ⟨k+1,r',by omega,by go_num,rfl,hn⟩
      case measure=>simp [intOf];omega
    · obtain rfl:k=8:=by omega
      rw [List.take_of_length_le (by rw [byt_length];omega)] at hr;go_wp2;go_ret;exact⟨ret_u64 (by rw [hc.out,hr.out]),rfl⟩
theorem dword_any (v:Value)(p:Nat)(w:World)(hv:Cod w v)(hp:p≤50000):
    Calls prog 78 #[v,.int .i64 p] w fun e w'=>(∃x:Nat,x<18446744073709551616∧e= .returned (.tuple #[int u64 x,.int .i64 (p+10:Nat)]))∧Bl w w':=by
  have T1:=take_any v p 12 w hv (by omega) (by omega) (by omega);have T2:=take_any v (p+1) 5 w hv (by omega) (by omega) (by omega);have T3:=byt_any v (p+2) 8 w hv (by omega) (by omega);have e1:((p+1:Nat):Int)=(p:Int)+1:=by omega
  have e2:((p+2:Nat):Int)=(p:Int)+1+1:=by omega
  have e3:((8:Nat):Int)=8:=rfl;rw [e1] at T2;rw [e2,e3] at T3;clear e1 e2 e3;go_enter func78,ntmps78;go_wp2_with fail;refine T1.mono ?_;rintro e w1 ⟨⟨z,hz,rfl⟩,rfl⟩;go_wp2_with fail;refine T2.mono ?_;rintro e w1 ⟨⟨y,hy,rfl⟩,rfl⟩;go_wp2_with fail;refine T3.mono ?_;rintro e w1 ⟨⟨s,hs,rfl⟩,hb⟩;have W:=wdS_any s w1 hs;have hl:=numL_8 s hs;obtain⟨x,hx0,hx1⟩:∃x:Int,0≤x∧x≤18446744073709551615∧x=(numL (byt s):Nat):=⟨_,by omega,by omega,rfl⟩;rw [←hx1.2] at W;have hx2:=hx1.1;clear T1 T2 T3 hl hx1;go_wp2_with fail;refine W.mono ?_;rintro e w2 ⟨rfl,rfl⟩;clear W;rcases(show z=0∨z=1∨z=2∨(3≤z∧z<9)∨9≤z by omega) with rfl|rfl|rfl|h|h
  · go_wp2;go_ret2;exact⟨⟨2305843009213693951+y-2,by omega,ret_ui (by omega) (by omega)⟩,hb⟩
  · go_wp2;go_ret2;exact⟨⟨2305843010818082053+y-2,by omega,ret_ui (by omega) (by omega)⟩,hb⟩
  · go_wp2;go_ret2;exact⟨⟨y,by omega,ret_ui (by omega) (by omega)⟩,hb⟩
  · have h0:((z:Int)==0)=false:=by simp;omega
    have h1:((z:Int)==1)=false:=by simp;omega
    have h2:((z:Int)==2)=false:=by simp;omega
    have h3:(z:Int)<9:=by omega
    go_wp2;go_ret2;exact⟨⟨(x%2305843009213693951).toNat,by omega,ret_ui (by omega) (by omega)⟩,hb⟩
  · have h0:((z:Int)==0)=false:=by simp;omega
    have h1:((z:Int)==1)=false:=by simp;omega
    have h2:((z:Int)==2)=false:=by simp;omega
    have h3: ¬ ((z:Int)<9):=by omega
    go_wp2;go_ret2;exact⟨⟨x.toNat,by omega,ret_ui (by omega) (by omega)⟩,hb⟩
section
open M
theorem baseS (w:World):Cr 8 #[] w (ptW gG):=by
  go_enter func8,ntmps8;go_wp2;refine bodyPost_ret (v:= .agg #[int u64 1,int u64 509478702933351334,.bool false]) (by simp [results,results8,go_sem]) rfl ⟨rfl,(Below.refl _ w).alloc (Nat.le_refl _) _⟩
theorem dscal_any (v:Value)(p:Nat)(w:World)(hv:Cod w v)(hp:p≤40000):
    Calls prog 43 #[v,.int .i64 p] w fun e w'=>(∃k:Nat,k<18446744073709551616∧e= .returned (.tuple #[int u64 k,.int .i64 (p+10:Nat)]))∧Bl w w':=by
  have T1:=dword_any v p w hv (by omega);go_enter func43,ntmps43;go_wp2_with fail;refine T1.mono ?_;rintro e w1 ⟨⟨x,hx,rfl⟩,hb⟩;clear T1;obtain⟨z,hz⟩:∃z:Nat,z=x%2305843010818082052:=⟨_,rfl⟩;have hz1:z<2305843010818082052:=by rw [hz];exact Nat.mod_lt _ (by decide)
  have e1:(x:Int)%2305843010818082052=(z:Int):=by rw [hz];rfl
  have e2:IntKind.u64.wrap ((z:Int)+1)=(z:Int)+1:=by rw [IntKind.wrap_u64];omega
  clear hz hx;go_wp2;go_ret2;exact⟨⟨z+1,by omega,rfl⟩,hb⟩
theorem base_pt:asPt 1 509478702933351334 false=gG:=asPt_some (toPt_self gG_on)
theorem bsT (k:Nat)(w:World)(hk:k<18446744073709551616):
    Cr 7 #[int u64 k,.agg #[int u64 1,int u64 509478702933351334,.bool false]] w (.agg #[int u64 (px (nt k gG)),int u64 (py (nt k gG)),.bool (pb (nt k gG))]):=by
  have:=timS_any k 1 509478702933351334 false w hk;rw [base_pt,ptW_eq] at this;exact this
theorem baseS' (w:World):Cr 8 #[] w (.agg #[int u64 1,int u64 509478702933351334,.bool false]):=baseS w
theorem dpt_any (v:Value)(p:Nat)(w:World)(hv:Cod w v)(hp:p≤30000):
    Calls prog 54 #[v,.int .i64 p] w fun e w'=>(∃q:Pt,on q∧e= .returned (.tuple #[.agg #[int u64 (px q),int u64 (py q),.bool (pb q)],.int .i64 (p+11:Nat)]))∧Bl w w':=by
  have hr:=R3.new w 0 0 false;have hb:=balc w (Obj.cells #[int u64 0,int u64 0,.bool false] 25);have hv0:=hv.below ((Below.refl w.heap.size w).alloc (Nat.le_refl _) (Obj.cells #[int u64 0,int u64 0,.bool false] 25));have T1:=take_any v p 16 _ hv0 (by omega) (by omega) (by omega);have T2:=dscal_any v (p+1) _ hv0 (by omega);have e1:((p+1:Nat):Int)=(p:Int)+1:=by omega
  have e2:((p+1+10:Nat):Int)=(p:Int)+11:=by omega
  rw [e1,e2] at T2;clear e1 e2 hv0;go_enter func54,ntmps54;go_wp2_with fail;refine T1.mono ?_;rintro e w1 ⟨⟨z,hz,rfl⟩,rfl⟩;go_wp2_with fail;refine T2.mono ?_;rintro e w2 ⟨⟨k,hk,rfl⟩,b2⟩;replace hr:=hr.keep b2;replace hb:=kpB hb hb.size b2;clear b2 T1 T2;rcases(show z=0∨(1≤z∧z<6)∨6≤z by omega) with rfl|h|h
  · go_wp2_with fail;refine(zeroS _).mono ?_;rintro e w3 ⟨rfl,rfl⟩;replace hr:=hr.alloc (Obj.cells #[int u64 0,int u64 0,.bool true] 25);replace hb:=hb.alloc hb.size (Obj.cells #[int u64 0,int u64 0,.bool true] 25);have c0:=hr.c0;have c1:=hr.c1;have c2:=hr.c2;have f0:=hr.frz 0;have f1:=hr.frz 1;have f2:=hr.frz 2;go_wp2;exact bodyPost_ret (v:= .tuple #[.agg #[int u64 0,int u64 0,.bool true],.int .i64 ((p:Int)+11)]) (pt_ct (fn:=Tryz.f54) (p:=4) (u:=5) results54 _ rfl (hr.set _ _ _)) rfl ⟨⟨none,trivial,rfl⟩,set3_below hb (Nat.le_refl _)⟩
  · have h0:((z:Int)==0)=false:=by simp;omega
    have h1:(z:Int)<6:=by omega
    obtain⟨j,hj⟩:∃j:Nat,j=k%20:=⟨_,rfl⟩;have hj1:j<18446744073709551616:=by omega
    have e1:(k:Int)%20=(j:Int):=by rw [hj];rfl
    have T:=fun w=>bsT j w hj1
    have hon:on (nt j gG):=nt_on gG_on j;clear hj hj1 hk;generalize nt j gG=q at*;go_wp2_with fail;refine(baseS' _).mono ?_;rintro e w3 ⟨rfl,b3⟩;go_wp2_with fail;refine(T _).mono ?_;rintro e w4 ⟨rfl,b4⟩;replace hr:=(hr.keep b3).keep b4;replace hb:=kpB hb hb.size b3;replace hb:=kpB hb hb.size b4;clear b3 b4 T;have c0:=hr.c0;have c1:=hr.c1;have c2:=hr.c2;have f0:=hr.frz 0;have f1:=hr.frz 1;have f2:=hr.frz 2;go_wp2;exact bodyPost_ret (v:= .tuple #[.agg #[int u64 (px q),int u64 (py q),.bool (pb q)],.int .i64 ((p:Int)+11)]) (pt_ct (fn:=Tryz.f54) (p:=4) (u:=5) results54 _ rfl (hr.set _ _ _)) rfl ⟨⟨q,hon,rfl⟩,set3_below hb (Nat.le_refl _)⟩
  · have h0:((z:Int)==0)=false:=by simp;omega
    have h1: ¬ (z:Int)<6:=by omega
    have T:=fun w=>bsT k w hk
    have hon:on (nt k gG):=nt_on gG_on k;clear hk;generalize nt k gG=q at*;go_wp2_with fail;refine(baseS' _).mono ?_;rintro e w3 ⟨rfl,b3⟩;go_wp2_with fail;refine(T _).mono ?_;rintro e w4 ⟨rfl,b4⟩;replace hr:=(hr.keep b3).keep b4;replace hb:=kpB hb hb.size b3;replace hb:=kpB hb hb.size b4;clear b3 b4 T;have c0:=hr.c0;have c1:=hr.c1;have c2:=hr.c2;have f0:=hr.frz 0;have f1:=hr.frz 1;have f2:=hr.frz 2;go_wp2;exact bodyPost_ret (v:= .tuple #[.agg #[int u64 (px q),int u64 (py q),.bool (pb q)],.int .i64 ((p:Int)+11)]) (pt_ct (fn:=Tryz.f54) (p:=4) (u:=5) results54 _ rfl (hr.set _ _ _)) rfl ⟨⟨q,hon,rfl⟩,set3_below hb (Nat.le_refl _)⟩
end
end Go.Proofs.YtjmhmajfkdglnabGreatDoor
