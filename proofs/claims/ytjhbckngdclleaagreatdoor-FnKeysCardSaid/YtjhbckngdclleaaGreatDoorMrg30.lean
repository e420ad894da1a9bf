import Derived.Test.YtjhbckngdclleaaGreatDoorMrg24
import Derived.Test.YtjhbckngdclleaaGreatDoorMrg28
import Derived.Test.YtjhbckngdclleaaGreatDoorMrg29
set_option linter.unusedVariables false
set_option maxRecDepth 100000
set_option maxHeartbeats 16000000
namespace Go.Proofs.YtjhbckngdclleaaGreatDoor
open Go.Proofs.Tryz Go.RowKit
open Go.Value (int)
open Go.IntKind (u64)
section
open M
theorem dtxt_any (v:Value)(p:Nat)(w:World)(hv:Cod w v)(hp:p≤20000):
    Calls prog 49 #[v,.int .i64 p] w fun e w'=>(∃(m:Int) (s t:ByteArray) (q:Nat),(-1≤m∧m≤5)∧s.size≤65537∧t.size≤65537∧q≤p+86∧e= .returned (.tuple #[.int .i64 m,.string s,.string t,.int .i64 q]))∧Bl w w':=by
  have T1:=take_any v p 3 w hv (by omega) (by omega) (by omega);have T2:=take_any v (p+1) 24 w hv (by omega) (by omega) (by omega);have T3:=some_any v (p+2) w hv (by omega);have e1:((p+1:Nat):Int)=(p:Int)+1:=by omega
  have e2:((p+2:Nat):Int)=(p:Int)+1+1:=by omega
  rw [e1] at T2;rw [e2] at T3;have hp':(p:Int)≤20000:=by omega
  go_enter func49,ntmps49;go_wp2_with fail;refine T1.mono ?_;rintro e w1 ⟨⟨m,hm,rfl⟩,rfl⟩;go_wp2_with fail;refine T2.mono ?_;rintro e w1 ⟨⟨h,hh,rfl⟩,rfl⟩;go_wp2_with fail;refine T3.mono ?_;rintro e w3 ⟨⟨s,q,hs,hq,rfl⟩,b3⟩;have T4:=some_any v q w3 (hv.below b3) (by omega);clear T1 T2 T3 e1 e2;go_wp2_with fail;refine T4.mono ?_;rintro e w4 ⟨⟨t,q2,ht,hq2,rfl⟩,b4⟩;have hb:=b3.tr b4;clear T4 b3 b4;by_cases h23:h=23
  · subst h23;have g1:((m:Int)*3-1)≤5∧ -1≤((m:Int)*3-1):=by omega
    have g2:(m:Int)≤2:=by omega
    go_wp2;exact bodyPost_ret (v:= .tuple #[.int .i64 ((m:Int)*3-1),.string s,.string t,.int .i64 q2]) (by simp [results,results49]) rfl ⟨⟨_,s,t,q2,by omega,hs,ht,by omega,rfl⟩,hb⟩
  · have g1: ¬ (h:Int)=23:=by omega
    by_cases hm2:m<2
    · have g2:(m:Int)<2:=by omega
      by_cases h0:0<h
      · have g3:(0:Int)<(h:Int):=by omega
        go_wp2;exact bodyPost_ret (v:= .tuple #[.int .i64 m,.string s,.string ⟨#[]⟩,.int .i64 q2]) (by simp [results,results49]) rfl ⟨⟨_,s,⟨#[]⟩,q2,by omega,hs,by decide,by omega,rfl⟩,hb⟩
      · have g3: ¬ (0:Int)<(h:Int):=by omega
        go_wp2;exact bodyPost_ret (v:= .tuple #[.int .i64 m,.string s,.string t,.int .i64 q2]) (by simp [results,results49]) rfl ⟨⟨_,s,t,q2,by omega,hs,ht,by omega,rfl⟩,hb⟩
    · obtain rfl:m=2:=by omega
      clear hm hm2;go_wp2;exact bodyPost_ret (v:= .tuple #[.int .i64 2,.string s,.string t,.int .i64 q2]) (by simp [results,results49]) rfl ⟨⟨2,s,t,q2,by omega,hs,ht,by omega,rfl⟩,hb⟩
end
theorem wpick_none (q:Option Addr)(c i:Nat)(w:World):
    Calls prog 88 #[.slice q 0 c,.int .i64 i] w fun e w'=>e= .returned (.int .i64 i)∧w=w':=by
  go_enter func88,ntmps88;go_wp2;go_ret;exact⟨rfl,rfl⟩
theorem wpick_some (b o l c i j x:Nat)(w:World)(hl0:0<l)(hl:l≤1048576)(hi:i≤1000)(hj:j=i%l)(hx:x<256)(hc:w.cell? ⟨b,o+j,none⟩=some (.int .u8 x)):
    Calls prog 88 #[.slice (some ⟨b,o,none⟩) l c,.int .i64 i] w fun e w'=>e= .returned (.int .i64 x)∧w=w':=by
  have h2:((l:Int)==0)=false:=by simp;omega
  have h6: ¬ (l=0):=by omega
  have hj1:j<l:=by rw [hj];exact Nat.mod_lt _ hl0
  have ej:(i:Int)%(l:Int)=(j:Int):=by rw [hj];simp
  have hj2:(j:Int)<(l:Int):=by omega
  clear hj;go_enter func88,ntmps88;go_wp2;go_ret;exact⟨rfl,rfl⟩
def Gives (w:World)(v:Value)(pk:Nat→Nat):Prop:=(∀i:Nat,i≤1000→pk i≤1000)∧∀w',Bl w w'→∀i:Nat,i≤1000→Calls prog 88 #[v,.int .i64 i] w' fun e w''=>e= .returned (.int .i64 (pk i:Nat))∧w'=w''
theorem gives_of (v:Value)(w:World)(hv:Cod w v):∃pk,Gives w v pk:=by
  rcases hv with ⟨q,c,rfl⟩|⟨b,o,l,c,h0,h1,rfl,hc⟩
  · exact⟨fun i=>i,fun i hi=>hi,fun w' _ i _=>wpick_none q c i w'⟩
  · have hx:∀i:Nat,∃x:Nat,x<256∧w.cell? ⟨b,o+i%l,none⟩=some (.int .u8 x):=fun i=>hc (i%l) (Nat.mod_lt _ h0)
    refine⟨fun i=>(hx i).choose,fun i _=>Nat.le_trans (Nat.le_of_lt (hx i).choose_spec.1) (by decide),fun w' hb i hi=> ?_⟩;have h2:=(hx i).choose_spec;exact wpick_some b o l c i _ _ w' h0 h1 hi rfl h2.1 ((hb.cell (p:=⟨b,o+i%l,none⟩) (World.block_lt_of_cell? w _ h2.2)).trans h2.2)
theorem Gives.below {w w':World}{v:Value}{pk:Nat→Nat}(h:Gives w v pk)(hb:Bl w w'):Gives w' v pk:=⟨h.1,fun w2 hb2 i hi=>h.2 w2 (hb.tr hb2) i hi⟩
theorem Gives.pick {w:World}{v:Value}{pk:Nat→Nat}(h:Gives w v pk)(i:Nat)(hi:i≤1000):Calls prog 88 #[v,.int .i64 i] w fun e w''=>e= .returned (.int .i64 (pk i:Nat))∧w=w'':=h.2 w (Below.refl _ _) i hi
def wdTo (pk:Nat→Nat)(p:Nat):Nat→Nat
  |0=>0
  |k+1=>(wdTo pk p k*256%18446744073709551616+pk (p+k))%18446744073709551616
def wd (pk:Nat→Nat)(p:Nat):Nat:=wdTo pk p 8
def ky (pk:Nat→Nat)(p:Nat):Nat:=wd pk p%2305843010818082052+1
theorem ky_lt (pk:Nat→Nat)(p:Nat):ky pk p<2305843010818082053:=by have:=Nat.mod_lt (wd pk p) (show 0<2305843010818082052 by decide);unfold ky;omega
theorem Gives.word {w:World}{v:Value}{pk:Nat→Nat}(hv:Gives w v pk)(p:Nat)(hp:p≤900):
    Calls prog 34 #[v,.int .i64 p] w fun e w'=>e= .returned (int u64 (wd pk p:Nat))∧w=w':=by
  have T:=fun i hi=>hv.pick (p+i) (by omega:p+i≤1000)
  have Z:=fun i hi=>hv.1 (p+i) (by omega:p+i≤1000)
  obtain⟨R,hR⟩:∃R,Hid (R=wd pk p):=⟨_,rfl⟩;rw [←hR.out];go_enter func34,ntmps34;go_wp2
  go_loop [5,6] (fun rv iv=>∃(k r:Nat),k≤8∧iv= .int .i64 (k:Int)∧rv=int u64 (r:Int)∧Hid (r=wdTo pk p k)) (fun _ i=>8-(intOf i).toNat)
  case atStart=>exact ⟨0,0,by omega,rfl,rfl,rfl⟩
  case round=>
    obtain⟨k,r,hk,rfl,rfl,hr⟩:=hrel;by_cases hlt:k<8
    · have hki:(k:Int)<8:=by omega
      have T:=T k (by omega);have Z:=Z k (by omega);have e1:((p+k:Nat):Int)=(p:Int)+(k:Int):=by omega
      rw [e1] at T;have hn:Hid ((r*256%18446744073709551616+pk (p+k))%18446744073709551616=wdTo pk p (k+1)):=by simp only [Hid];rw [hr.out];rfl
      generalize pk (p+k)=z at*;obtain⟨a,ha⟩:∃a:Nat,a=r*256%18446744073709551616:=⟨_,rfl⟩;have ha1:a<18446744073709551616:=by rw [ha];exact Nat.mod_lt _ (by decide)
      have e2:IntKind.u64.wrap ((r:Int)*256)=(a:Int):=by rw [IntKind.wrap_u64,ha];omega
      rw [←ha] at hn;obtain⟨d,hd⟩:∃d:Nat,d=(a+z)%18446744073709551616:=⟨_,rfl⟩;have e3:IntKind.u64.wrap (z:Int)=(z:Int):=by rw [IntKind.wrap_u64];omega
      have e4:IntKind.u64.wrap ((a:Int)+(z:Int))=(d:Int):=by rw [IntKind.wrap_u64,hd];omega
      rw [←hd] at hn;clear hr ha e1 hlt hk hd ha1 Z;go_wp2_with fail;refine T.mono ?_;rintro e w' ⟨rfl,rfl⟩;clear T;go_wp2;go_round
      case rel=>exact ⟨k+1,d,by omega,by go_num,rfl,hn⟩
      case measure=>simp [intOf];omega
    · obtain rfl:k=8:=by omega
      obtain rfl:r=R:=hr.out.trans hR.out.symm;go_wp2;go_ret;exact⟨rfl,rfl⟩
theorem Gives.key {w:World}{v:Value}{pk:Nat→Nat}(hv:Gives w v pk)(p:Nat)(hp:p≤900):
    Calls prog 18 #[v,.int .i64 p] w fun e w'=>e= .returned (int u64 (ky pk p:Nat))∧w=w':=by
  have T:=hv.word p hp;unfold ky;generalize wd pk p=x at*;have e1:(x:Int)%2305843010818082052=((x%2305843010818082052:Nat):Int):=rfl;have hz:x%2305843010818082052<2305843010818082052:=Nat.mod_lt _ (by decide);generalize x%2305843010818082052=z at*;have e2:IntKind.u64.wrap ((z:Int)+1)=(z:Int)+1:=by rw [IntKind.wrap_u64];omega
  go_enter func18,ntmps18;go_wp2_with fail;refine T.mono ?_;rintro e w1 ⟨rfl,rfl⟩;clear T;go_wp2;go_ret;exact⟨rfl,rfl⟩
end Go.Proofs.YtjhbckngdclleaaGreatDoor
