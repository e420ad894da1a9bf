import Derived.Test.YtmjniccfjffclaaGreatDoorMrg39
set_option linter.unusedVariables false
set_option maxRecDepth 100000
set_option maxHeartbeats 16000000
namespace Go.Proofs.YtmjniccfjffclaaGreatDoor
open Go.Proofs.Tryz Go.RowKit
open Go.Value (int)
open Go.IntKind (u64)
section
open M
noncomputable def dEl (h:Nat) (q:Pt):Pt:=if pb q=true∧ ¬ h=3 then gG else q
noncomputable def dEls (h N:Nat) (Q:Nat→Pt):List Pt:=(List.range N).map fun i=>dEl h (Q i)
theorem dEls_step (h j:Nat)(Q:Nat→Pt):cells3 (dEls h (j+1) Q)=cells3 (dEls h j Q)++ [int u64 (px (dEl h (Q j))),int u64 (py (dEl h (Q j))),.bool (pb (dEl h (Q j)))]:=by
  unfold dEls;rw [List.range_succ,List.map_append,cells3_app];rfl
theorem res_5t {W:World}{fn:Func}{t1 t2 t3 t4 t5:Tmp}(h:fn.results=#[.tmp t1,.tmp t2,.tmp t3,.tmp t4,.tmp t5])(tmps:Array Value){v1 v2 v3 v4 v5:Value}(h1:tmps.getD t1 undef=v1)(h2:tmps.getD t2 undef=v2)(h3:tmps.getD t3 undef=v3)(h4:tmps.getD t4 undef=v4)(h5:tmps.getD t5 undef=v5):(results fn tmps).run prog W= .ok (.tuple #[v1,v2,v3,v4,v5]) W:=by
  subst h1 h2 h3 h4 h5;simp [results,h]
theorem dev_of (v:Value)(w:World)(m P1 P2 P3 P4:Int)(x0 N:Nat)(s t:ByteArray)(k h n r tw:Nat)(key' r':Int)(Q:Nat→Pt)(hn:n≤4)(hx0:x0≤20000)(htw:tw≤2305843010818082053)
    (hN:h=2∧N=0∨ ¬ h=2∧N=n+1)
    (hK:h<2∧m=2∧key'=2305843010818082053-(tw:Int)∨ ¬ (h<2∧m=2)∧key'=(k:Int))
    (hR:h=4∧r'=IntKind.u64.wrap ((r:Int)+2305843010818082053)∨ ¬ h=4∧r'=(r:Int)%2305843010818082053)
    (TX:Cb w 24 #[v,.int .i64 0] (.tuple #[.int .i64 m,.string s,.string t,.int .i64 P1]))
    (K1:Cb w 25 #[v,.int .i64 P1] (.tuple #[int u64 (k:Int),.int .i64 P2]))
    (T1:∀w',Bl w w'→Calls prog 26 #[v,.int .i64 P2,.int .i64 24] w' fun e w''=>e= .returned (.tuple #[.int .i64 (h:Int),.int .i64 P3])∧w'=w'')
    (T2:∀w',Bl w w'→Calls prog 26 #[v,.int .i64 P3,.int .i64 4] w' fun e w''=>e= .returned (.tuple #[.int .i64 (n:Int),.int .i64 P4])∧w'=w'')
    (SC:Cb w 27 #[v,.int .i64 P4] (.tuple #[int u64 (r:Int),.int .i64 (x0:Int)]))
    (DP:∀i w',i≤4→Bl w w'→Cr 28 #[v,.int .i64 ((x0+11*i:Nat):Int)] w' (.tuple #[.agg #[int u64 (px (Q i)),int u64 (py (Q i)),.bool (pb (Q i))],.int .i64 ((x0+11*(i+1):Nat):Int)]))
    (TW:Cc 29 #[.string t] (int u64 (tw:Int))):
    Calls prog 6 #[v] w fun e w'=>(∃g cap,e= .returned (.tuple #[.int .i64 m,int u64 key',.string t,.slice (some ⟨g,0,none⟩) N cap,int u64 r'])∧w'.ownsRow w.heap.size 34 3 (.slice (some ⟨g,0,none⟩) N cap) N (cells3 (dEls h N Q)))∧Bl w w':=by
  obtain⟨CS,hCS⟩:∃CS,Hid (CS=fun j=>cells3 (dEls h j Q)):=⟨_,rfl⟩;have hst:Hid (∀j,CS (j+1)=CS j++ [int u64 (px (dEl h (Q j))),int u64 (py (dEl h (Q j))),.bool (pb (dEl h (Q j)))]):=fun j=>by rw [hCS.out];exact dEls_step h j Q
  have hC0:CS 0= []:=by rw [hCS.out];rfl
  rw [show cells3 (dEls h N Q)=CS N by rw [hCS.out]];clear hCS;go_enter func6,ntmps6;go_wp2_with fail;refine(TX _ (Below.refl _ _)).mono ?_;rintro e w1 ⟨rfl,hb⟩;clear TX;go_wp2_with fail;refine(K1 _ hb).mono ?_;rintro e w2 ⟨rfl,b⟩;replace hb:=hb.tr b;clear b K1;go_wp2_with fail;refine(T1 _ hb).mono ?_;rintro e w3 ⟨rfl,rfl⟩;clear T1;go_wp2_with fail;refine(T2 _ hb).mono ?_;rintro e w3 ⟨rfl,rfl⟩;clear T2;go_wp2_with fail;refine(SC _ hb).mono ?_;rintro e w3 ⟨rfl,b⟩;replace hb:=hb.tr b;clear b SC;have ha:=balc w3 (Obj.cells #[] 34);have so:=World.ownsRow_lit (base:=w3.heap.size) (e:=34) (size:=3) w3 #[] 0 (by omega) (by decide) rfl;have hw3:=hb.size;go_wp2
  go_loopw [18,19,20] (fun xv ov iv wr=>∃(j g cap:Nat),j≤N∧xv= .int .i64 ((x0+11*j:Nat):Int)∧iv= .int .i64 (j:Int)∧ov= .slice (some ⟨g,0,none⟩) j cap∧wr.ownsRow w3.heap.size 34 3 (.slice (some ⟨g,0,none⟩) j cap) j (CS j)∧Bl w3 wr) (fun _ _ i _=>N-(intOf i).toNat)
  case atStart=>exact ⟨0,w3.heap.size,0,by omega,rfl,rfl,rfl,by rw [hC0];exact so,ha⟩
  case round=>
    clear hC0 so ha
    revert u64
    intro v64;obtain⟨j,g,cap,hj,rfl,rfl,rfl,hown,hbl⟩:=hrel;by_cases hlt:j<N
    · have h2 : ¬ (h:Int)=2:=by omega
      have hli:(j:Int)≤(n:Int):=by omega
      have hB:=hb.tr hbl;have hnx:=hst.out j;go_wp2_with fail;refine(DP j _ (by omega) hB).mono ?_;rintro e w4 ⟨rfl,b⟩;generalize Q j=q at*;have hal:=balc w4 (Obj.cells #[int u64 (px q),int u64 (py q),.bool (pb q)] 34);have re:=Bk.new w4 34 #[int u64 (px q),int u64 (py q),.bool (pb q)];replace hown:=below_own3 hown b;have ne:some w4.heap.size≠(Value.slice (some ⟨g,0,none⟩) j cap).ownBlock:=fun e=>Nat.lt_irrefl _ (hown.lt _ e.symm).2
      replace hown:=below_own3 hown hal;replace hbl:=hbl.tr b;have hs4:=hbl.size;replace hbl:=hbl.tr hal;clear b hal hB;have e0:=re.cell (k:=0) rfl;have e1:=re.cell (k:=1) rfl;have e2:=re.cell (k:=2) rfl;by_cases hq:pb q=true∧ ¬ h=3
      · rw [show dEl h q=gG from if_pos hq] at hnx;obtain⟨hq1,h3⟩:=hq;have h3': ¬ (h:Int)=3:=by omega
        rw [hq1] at re e0 e1 e2 hown hbl;go_wp2_with fail;refine(bsG _).mono ?_;rintro e w5 ⟨rfl,b⟩;replace re:=re.keep b;replace hown:=below_own3 hown b;replace hbl:=hbl.tr b;clear b e0 e1 e2;have e0:=re.cell (k:=0) rfl;have e1:=re.cell (k:=1) rfl;have e2:=re.cell (k:=2) rfl;have ef:=re.frz;replace hown:=own_set (own_set (own_set hown ne 0 (int u64 (px gG))) ne 1 (int u64 (py gG))) ne 2 (.bool (pb gG));replace hbl:=((hbl.setCell (p:=⟨w4.heap.size,0,none⟩) hs4 (int u64 (px gG))).setCell (p:=⟨w4.heap.size,1,none⟩) hs4 (int u64 (py gG))).setCell (p:=⟨w4.heap.size,2,none⟩) hs4 (.bool (pb gG))
        go_wp2_with (first
          |(at_builtin;have u1:=hown.alloc (Obj.cells #[int u64 (px gG),int u64 (py gG),.bool (pb gG)] 34);have u2:=(Bk.new (((w5.setCell ⟨w4.heap.size,0,none⟩ (int u64 (px gG))).setCell ⟨w4.heap.size,1,none⟩ (int u64 (py gG))).setCell ⟨w4.heap.size,2,none⟩ (.bool (pb gG))) 34 #[int u64 (px gG),int u64 (py gG),.bool (pb gG)]).at (b':=w5.heap.size) (by simp);have u4:w3.heap.size≤((((w5.setCell ⟨w4.heap.size,0,none⟩ (int u64 (px gG))).setCell ⟨w4.heap.size,1,none⟩ (int u64 (py gG))).setCell ⟨w4.heap.size,2,none⟩ (.bool (pb gG))).alloc (Obj.cells #[int u64 (px gG),int u64 (py gG),.bool (pb gG)] 34)).heap.size:=(hbl.alloc hbl.size (Obj.cells #[int u64 (px gG),int u64 (py gG),.bool (pb gG)] 34)).size;refine app_pt rfl _ _ rfl w3.heap.size _ j (CS j) rfl u1 w5.heap.size (px gG) (py gG) (pb gG) rfl u2 (by omega) u4 ?_;intro g2 cap2 w6 hown2 hgr2;have hbl6:=(hbl.alloc hbl.size (Obj.cells #[int u64 (px gG),int u64 (py gG),.bool (pb gG)] 34)).grown hgr2 u4 (fun r hr=>(hown.lt r hr).1);rw [←hnx] at hown2;clear u1 u2 u4 hgr2)
          |go_in)
        clear hown hbl;go_roundw
        case rel=>
          first
            |exact ⟨j+1,g2,cap2,by omega,by go_num,by go_num,rfl,hown2,hbl6⟩
            |((repeat apply Exists.intro);exact⟨⟨j+1,g2,cap2,by omega,by go_num,by go_num,rfl,hown2,hbl6⟩,rfl⟩)
        case measure=>simp [intOf];omega
      · rw [show dEl h q=q from if_neg hq] at hnx;by_cases hq1:pb q=true
        · have h3:((h:Int) !=3)=false:=by
            by_cases h3:h=3
            · subst h3;rfl
            · exact absurd ⟨hq1,h3⟩ hq
          clear hq;rw [hq1] at re e0 e1 e2 hown hbl hnx
          go_wp2_with (first
            |(at_builtin;have u1:=hown.alloc (Obj.cells #[int u64 (px q),int u64 (py q),.bool true] 34);have u2:=(Bk.new (w4.alloc (Obj.cells #[int u64 (px q),int u64 (py q),.bool true] 34)) 34 #[int u64 (px q),int u64 (py q),.bool true]).at (b':=w4.heap.size+1) (by simp);have u4:w3.heap.size≤((w4.alloc (Obj.cells #[int u64 (px q),int u64 (py q),.bool true] 34)).alloc (Obj.cells #[int u64 (px q),int u64 (py q),.bool true] 34)).heap.size:=(hbl.alloc hbl.size (Obj.cells #[int u64 (px q),int u64 (py q),.bool true] 34)).size;refine app_pt rfl _ _ rfl w3.heap.size _ j (CS j) rfl u1 (w4.heap.size+1) (px q) (py q) true rfl u2 (by omega) u4 ?_;intro g2 cap2 w6 hown2 hgr2;have hbl6:=(hbl.alloc hbl.size (Obj.cells #[int u64 (px q),int u64 (py q),.bool true] 34)).grown hgr2 u4 (fun r hr=>(hown.lt r hr).1);rw [←hnx] at hown2;clear u1 u2 u4 hgr2)
            |go_in)
          clear hown hbl;go_roundw
          case rel=>
            first
              |exact ⟨j+1,g2,cap2,by omega,by go_num,by go_num,rfl,hown2,hbl6⟩
              |((repeat apply Exists.intro);exact⟨⟨j+1,g2,cap2,by omega,by go_num,by go_num,rfl,hown2,hbl6⟩,rfl⟩)
          case measure=>simp [intOf];omega
        · have hq2:pb q=false:=by simpa using hq1
          clear hq hq1;rw [hq2] at re e0 e1 e2 hown hbl hnx
          go_wp2_with (first
            |(at_builtin;have u1:=hown.alloc (Obj.cells #[int u64 (px q),int u64 (py q),.bool false] 34);have u2:=(Bk.new (w4.alloc (Obj.cells #[int u64 (px q),int u64 (py q),.bool false] 34)) 34 #[int u64 (px q),int u64 (py q),.bool false]).at (b':=w4.heap.size+1) (by simp);have u4:w3.heap.size≤((w4.alloc (Obj.cells #[int u64 (px q),int u64 (py q),.bool false] 34)).alloc (Obj.cells #[int u64 (px q),int u64 (py q),.bool false] 34)).heap.size:=(hbl.alloc hbl.size (Obj.cells #[int u64 (px q),int u64 (py q),.bool false] 34)).size;refine app_pt rfl _ _ rfl w3.heap.size _ j (CS j) rfl u1 (w4.heap.size+1) (px q) (py q) false rfl u2 (by omega) u4 ?_;intro g2 cap2 w6 hown2 hgr2;have hbl6:=(hbl.alloc hbl.size (Obj.cells #[int u64 (px q),int u64 (py q),.bool false] 34)).grown hgr2 u4 (fun r hr=>(hown.lt r hr).1);rw [←hnx] at hown2;clear u1 u2 u4 hgr2)
            |go_in)
          clear hown hbl;go_roundw
          case rel=>
            first
              |exact ⟨j+1,g2,cap2,by omega,by go_num,by go_num,rfl,hown2,hbl6⟩
              |((repeat apply Exists.intro);exact⟨⟨j+1,g2,cap2,by omega,by go_num,by go_num,rfl,hown2,hbl6⟩,rfl⟩)
          case measure=>simp [intOf];omega
    · obtain rfl:j=N:=by omega
      replace hown:=hown.mono (base':=w.heap.size) hw3;replace hb:=hb.tr hbl;have hx: ¬ ((j:Int)≤(n:Int)∧ ¬ (h:Int)=2):=by omega
      clear hbl hst DP hj hlt;have tail:True:=trivial;rcases hN with ⟨rfl,rfl⟩|⟨h2,rfl⟩
      · rcases hK with ⟨hh,-,-⟩|⟨-,rfl⟩
        · omega
        · rcases hR with ⟨hr,-⟩|⟨-,rfl⟩
          · omega
          · go_wp2;exact bodyPost_ret (v:= .tuple #[_,_,_,_,_]) (res_5t results6 _ rfl rfl rfl rfl rfl) rfl ⟨⟨g,cap,rfl,hown⟩,hb⟩
      · have h2i: ¬ (h:Int)=2:=by omega
        have hji: ¬ ((n+1:Nat):Int)≤(n:Int):=by omega
        rcases hK with ⟨hh,rfl,rfl⟩|⟨hh,rfl⟩
        · have ea:IntKind.u64.wrap (2305843010818082053-(tw:Int))=2305843010818082053-(tw:Int):=by rw [IntKind.wrap_u64];omega
          have hh1:(h:Int)<2:=by omega
          rcases hR with ⟨hr,-⟩|⟨-,rfl⟩
          · omega
          · have hr1: ¬ (h:Int)=4:=by omega
            go_wp2_with fail;refine(TW _).mono ?_;rintro e w5 ⟨rfl,b⟩;replace hown:=below_own3 hown b;replace hb:=hb.tr b;clear b TW;go_wp2;exact bodyPost_ret (v:= .tuple #[_,_,_,_,_]) (res_5t results6 _ rfl rfl rfl rfl rfl) rfl ⟨⟨g,cap,rfl,hown⟩,hb⟩
        · by_cases h4:h=4
          · subst h4;rcases hR with ⟨-,rfl⟩|⟨hr,-⟩
            · clear hh hx;go_wp2;exact bodyPost_ret (v:= .tuple #[_,_,_,_,_]) (res_5t results6 _ rfl rfl rfl rfl rfl) rfl ⟨⟨g,cap,rfl,hown⟩,hb⟩
            · exact absurd rfl hr
          · rcases hR with ⟨hr,-⟩|⟨-,rfl⟩
            · exact absurd hr h4
            · have hr1: ¬ (h:Int)=4:=by omega
              by_cases hh1:(h:Int)<2
              · have hm: ¬ m=2:=fun e=>hh ⟨by omega,e⟩
                go_wp2;exact bodyPost_ret (v:= .tuple #[_,_,_,_,_]) (res_5t results6 _ rfl rfl rfl rfl rfl) rfl ⟨⟨g,cap,rfl,hown⟩,hb⟩
              · go_wp2;exact bodyPost_ret (v:= .tuple #[_,_,_,_,_]) (res_5t results6 _ rfl rfl rfl rfl rfl) rfl ⟨⟨g,cap,rfl,hown⟩,hb⟩
end
def Cod (W:World)(v:Value):Prop:=(∃p c,v= .slice p 0 c)∨∃b o n c:Nat,0<n∧n≤1048576∧v= .slice (some ⟨b,o,none⟩) n c∧∀i,i<n→∃x:Nat,x<256∧W.cell? ⟨b,o+i,none⟩=some (.int .u8 x)
theorem xor_i64 (a b:Nat)(ha:a<9223372036854775808)(hb:b<9223372036854775808):bits .xor .i64 (a:Int) (b:Int)=((a^^^b:Nat):Int):=by
  have hx:a^^^b<2^63:=Nat.xor_lt_two_pow (by omega) (by omega)
  have h1:(BitVec.ofInt 64 (a:Int)).toNat=a:=by
    rw [BitVec.ofInt_natCast,BitVec.toNat_ofNat];exact Nat.mod_eq_of_lt (by omega)
  have h2:(BitVec.ofInt 64 (b:Int)).toNat=b:=by
    rw [BitVec.ofInt_natCast,BitVec.toNat_ofNat];exact Nat.mod_eq_of_lt (by omega)
  show IntKind.i64.wrap ((BitVec.ofInt 64 (a:Int)^^^BitVec.ofInt 64 (b:Int)).toNat:Int)=_;rw [BitVec.toNat_xor,h1,h2];generalize a^^^b=z at*;simp [IntKind.wrap,IntKind.bits,IntKind.signed];omega
theorem ret_ii {a b c d:Int}(h:a=c)(h2:b=d):Ending.returned (.tuple #[.int .i64 a,.int .i64 b])= .returned (.tuple #[.int .i64 c,.int .i64 d]):=by rw [h,h2]
theorem take_none_any (q:Option Addr)(c:Nat)(p n:Nat)(w:World)(hp:p≤1000000)(hn:1≤n):
    Calls prog 26 #[.slice q 0 c,.int .i64 p,.int .i64 n] w fun e w'=>e= .returned (.tuple #[.int .i64 0,.int .i64 ((p:Int)+1)])∧w=w':=by
  have h1: ¬ ((n:Int)<1):=by omega
  go_enter func26,ntmps26;go_wp2;go_ret2;exact⟨rfl,rfl⟩
theorem take_near (b o l c:Nat)(p n x:Nat)(w:World)(hl:l≤1048576)(hn:1≤n)(hn2:n≤256)(hpl:p<l)(hx:x<256)(hc:w.cell? ⟨b,o+p,none⟩=some (.int .u8 x)):
    Calls prog 26 #[.slice (some ⟨b,o,none⟩) l c,.int .i64 p,.int .i64 n] w fun e w'=>e= .returned (.tuple #[.int .i64 (x%n:Nat),.int .i64 ((p:Int)+1)])∧w=w':=by
  have h1: ¬ ((n:Int)<1):=by omega
  have h2:((l:Int)==0)=false:=by simp;omega
  have h3:(p:Int)<(l:Int):=by omega
  have h4:(n:Int)≤256:=by omega
  have h5: ¬ (n=0):=by omega
  go_enter func26,ntmps26;go_wp2;go_ret2;exact⟨ret_ii (by simp) rfl,rfl⟩
theorem infoU8d:(prog.info? 5).map (fun i=>(i.zero,i.size,i.bytes))=some (some (.int .u8 0),1,1):=by kernel_rfl
def strLen:Value→Nat
  | .string s=>s.size
  |_=>0
theorem ret_si {s t:ByteArray}{a b:Int}(h:s=t)(h2:a=b):Ending.returned (.tuple #[.string s,.int .i64 a])= .returned (.tuple #[.string t,.int .i64 b]):=by rw [h,h2]
theorem ret_ui {a b c d:Int}(h:a=c)(h2:b=d):Ending.returned (.tuple #[int u64 a,.int .i64 b])= .returned (.tuple #[int u64 c,.int .i64 d]):=by rw [h,h2]
theorem take_faru (b o l c:Nat)(p n x y:Nat)(hl0:0<l)(hl:l≤1048576)(hn:1≤n)(hn2:n≤256)(hpl: ¬ p<l)(hp:p≤1000000)(hx:x<256)(hy:y<256):
    ∃z:Nat,z<n∧∀w:World,w.cell? ⟨b,o+p%l,none⟩=some (.int .u8 x)→w.cell? ⟨b,o+(p*7+3)%l,none⟩=some (.int .u8 y)→
    Calls prog 26 #[.slice (some ⟨b,o,none⟩) l c,.int .i64 p,.int .i64 n] w fun e w'=>e= .returned (.tuple #[.int .i64 z,.int .i64 ((p:Int)+1)])∧w=w':=by
  obtain⟨i,hi⟩:∃i,i=p%l:=⟨_,rfl⟩;obtain⟨j,hj⟩:∃j,j=(p*7+3)%l:=⟨_,rfl⟩;obtain⟨k,hk⟩:∃k,k=p/l:=⟨_,rfl⟩;rw [←hi,←hj];have h1: ¬ ((n:Int)<1):=by omega
  have h2:((l:Int)==0)=false:=by simp;omega
  have h3: ¬ ((p:Int)<(l:Int)):=by omega
  have h5: ¬ (n=0):=by omega
  have h6: ¬ (l=0):=by omega
  have hi1:i<l:=by rw [hi];exact Nat.mod_lt _ hl0
  have hj1:j<l:=by rw [hj];exact Nat.mod_lt _ hl0
  have hk1:k≤p:=by rw [hk];exact Nat.div_le_self _ _
  have ei:(p:Int)%(l:Int)=(i:Int):=by rw [hi];simp
  have ej:((p:Int)*7+3)%(l:Int)=(j:Int):=by rw [hj];simp
  have ek:(p:Int)/(l:Int)=(k:Int):=by rw [hk];simp
  have hi2:(i:Int)<(l:Int):=by omega
  have hj2:(j:Int)<(l:Int):=by omega
  clear hi hj hk;obtain⟨t,ht⟩:∃t:Nat,t=x*131+y*1117+p*29+k*53:=⟨_,rfl⟩;have ht1:t≤1000000000:=by omega
  have e1:(x:Int)*131+(y:Int)*1117+(p:Int)*29+(k:Int)*53=(t:Int):=by rw [ht];simp
  have e2:(t:Int)/64=((t/64:Nat):Int):=by omega
  have e3:=xor_i64 t (t/64) (by omega) (by omega);rw [←e2] at e3;have ez:((t^^^(t/64):Nat):Int).tmod (n:Int)=(((t^^^(t/64))%n:Nat):Int):=by rw [Int.tmod_eq_emod_of_nonneg (Int.natCast_nonneg _)];simp
  have hz:(t^^^(t/64))%n<n:=Nat.mod_lt _ (by omega);generalize (t^^^(t/64))%n=z at*;generalize t^^^(t/64)=y' at*;clear ht e2;refine⟨z,hz,fun w hc hd=> ?_⟩;go_enter func26,ntmps26;go_wp2;go_ret2;exact⟨rfl,rfl⟩
theorem take_uni (v:Value)(p n:Nat)(w0:World)(hv:Cod w0 v)(hn:1≤n)(hn2:n≤256)(hp:p≤1000000):
    ∃z:Nat,z<n∧∀w,Bl w0 w→Calls prog 26 #[v,.int .i64 p,.int .i64 n] w fun e w'=>e= .returned (.tuple #[.int .i64 z,.int .i64 ((p:Int)+1)])∧w=w':=by
  rcases hv with ⟨q,c,rfl⟩|⟨b,o,l,c,h0,h1,rfl,hc⟩
  · exact⟨0,by omega,fun w _=>take_none_any q c p n w hp hn⟩
  · have up:∀(w:World),Bl w0 w→∀(i x:Nat),w0.cell? ⟨b,o+i,none⟩=some (.int .u8 x)→w.cell? ⟨b,o+i,none⟩=some (.int .u8 x):=fun w hb i x h=>(hb.cell (p:=⟨b,o+i,none⟩) (World.block_lt_of_cell? w0 _ h)).trans h
    by_cases hpl:p<l
    · obtain⟨x,hx,hcell⟩:=hc p hpl;exact⟨x%n,Nat.mod_lt _ (by omega),fun w hb=>take_near b o l c p n x w h1 hn hn2 hpl hx (up w hb p x hcell)⟩
    · obtain⟨x,hx,hcell⟩:=hc (p%l) (Nat.mod_lt _ h0);obtain⟨y,hy,hcell2⟩:=hc ((p*7+3)%l) (Nat.mod_lt _ h0);obtain⟨z,hz,H⟩:=take_faru b o l c p n x y h0 h1 hn hn2 hpl hp hx hy;exact⟨z,hz,fun w hb=>H w (up w hb _ x hcell) (up w hb _ y hcell2)⟩
theorem byt_uni (v:Value)(p n:Nat)(w0:World)(hv:Cod w0 v)(hn:n≤1000)(hp:p≤100000):
    ∃s:ByteArray,s.size=n∧∀w,Bl w0 w→Cr 103 #[v,.int .i64 p,.int .i64 n] w (.tuple #[.string s,.int .i64 ((p:Int)+(n:Int))]):=by
  have T0:=fun j (hj:j<n)=>take_uni v (p+j) 256 w0 hv (by omega) (by omega) (by omega)
  obtain⟨f,hf⟩:∃f:Nat→Nat,∀j,j<n→f j<256∧∀w,Bl w0 w→Calls prog 26 #[v,.int .i64 (p+j:Nat),.int .i64 (256:Nat)] w fun e w'=>e= .returned (.tuple #[.int .i64 (f j:Nat),.int .i64 (((p+j:Nat):Int)+1)])∧w=w':=
    ⟨fun j=>if h:j<n then Classical.choose (T0 j h) else 0,fun j hj=>by simp only [dif_pos hj];exact Classical.choose_spec (T0 j hj)⟩
  clear T0;have hL:∀j,(List.range (j+1)).map (fun j=>(f j:Int))=(List.range j).map (fun j=>(f j:Int))++ [(f j:Int)]:=fun j=>by rw [List.range_succ,List.map_append];rfl
  have hLl:∀j,((List.range j).map (fun j=>(f j:Int))).length=j:=fun j=>by simp
  have hL0:(List.range 0).map (fun j=>(f j:Int))= []:=rfl;generalize hLF:(fun j=>(List.range j).map (fun j=>(f j:Int)))=L at*;have eL:∀j,(List.range j).map (fun j=>(f j:Int))=L j:=fun j=>by rw [←hLF]
  simp only [eL] at hL hLl hL0;clear eL hLF;refine⟨strOfNums (L n),by rw [strOfNums_size];exact hLl n,fun w hw=> ?_⟩;obtain⟨i0,hi,hz0,hz1,hz2⟩:=info_parts infoU8d;go_enter func103,ntmps103;go_wp2
  go_loopw [1,8,9] (fun q u i wr=>∃(j g cap:Nat),j≤n∧i= .int .i64 (j:Int)∧q= .int .i64 ((p:Int)+(j:Int))∧u= .slice (some ⟨g,0,none⟩) j cap∧Row wr w.heap.size g j cap ((L j).map (Value.int .u8))∧Bl w wr) (fun _ _ i _=>n-(intOf i).toNat)
  case atStart=>exact ⟨0,w.heap.size,0,by omega,rfl,by simp,rfl,by rw [hL0];exact Row.of_block (n:=0) (cs:=#[]) (heap_alloc_new w _) (Nat.le_refl _) (by simp) (by simp),(Below.refl _ _).alloc (Nat.le_refl _) _⟩
  case round=>
    obtain⟨j,g1,cap1,hj,rfl,rfl,rfl,hrow,hbl⟩:=hrel;have hsz1:w.heap.size≤wr.heap.size:=hbl.size;by_cases hlt:j<n
    · obtain⟨hz,T⟩:=hf j hlt;have e1:((p+j:Nat):Int)=(p:Int)+(j:Int):=by omega
      rw [e1] at T;have hlti:(j:Int)<(n:Int):=by omega
      clear e1;go_wp2_with fail;refine(T _ (hw.tr hbl)).mono ?_;rintro e w2 ⟨rfl,rfl⟩;clear T;have hLj:=hL j;have hll:=hLl j;generalize f j=z at*;have ez:IntKind.u8.wrap (z:Int)=(z:Int):=by rw [IntKind.wrap_u8];omega
      go_wp2_with (first
        |(at_builtin;refine wpList_append_row rfl _ _ 22 rfl w.heap.size 5 i0 (.int .u8 0) 1 underlying22 hi hz0 hz1 hz2 rfl g1 j cap1 ((L j).map (Value.int .u8)) rfl (hrow.alloc _) ⟨wr.heap.size,0,none⟩ 1 1 [.int .u8 z] rfl rfl (World.news_of_block (cs:=#[.int .u8 z]) (heap_alloc_new wr _)) (by simp [Value.oneCell']) (by unfold maxLen;omega) (by omega) (by simp;omega) _ rfl ?_;intro g3 cap3 w3 hrow3 hgr3 _ _)
        |go_in)
      have R1:Row w3 w.heap.size g3 (j+1) cap3 ((L (j+1)).map (Value.int .u8)):=by rw [hLj,List.map_append];exact hrow3
      have R2:Bl w w3:=(hbl.alloc hsz1 _).grown hgr3 (by simp;omega) (fun r hr=>by simp at hr;have:=hrow.lo;omega);go_roundw
      case rel=>exact ⟨j+1,g3,cap3,by omega,by go_num,(by first|(congr 1;omega)|congr 1),rfl,R1,R2⟩
      case measure=>simp [intOf];omega
    · obtain rfl:j=n:=by omega
      have hll:=hLl j;have hcv:=run_convert_bytes_arg (P:=prog) wr 22 5 underlying22 underlying5 g1 0 j cap1 (L j) hll (fun i h=>by rw [Nat.zero_add];exact hrow.cell i h) 9 underlying9;go_wp2;go_ret2;exact⟨rfl,hbl⟩
def dbl (n:Nat)(s:ByteArray):Nat→ByteArray
  |0=>s
  |k+1=>if s.size*2≤n then dbl n (s++s) k else s
theorem dbl_end {n:Nat}{s:ByteArray}(h: ¬ s.size*2≤n):∀k,dbl n s k=s
  |0=>rfl
  |k+1=>if_neg h
theorem dbl_size (n:Nat):∀(k:Nat) (s:ByteArray),2≤s.size→s.size≤n+1→2≤(dbl n s k).size∧(dbl n s k).size≤n+1
  |0,s,h,h'=>⟨h,h'⟩
  | k +1,s,h,h'=>by
    unfold dbl;by_cases hs:s.size*2≤n
    · rw [if_pos hs];have hz:(s++s).size=s.size+s.size:=by simp
      exact dbl_size n k (s++s) (by omega) (by omega)
    · rw [if_neg hs];exact⟨h,h'⟩
theorem long_uni (b:ByteArray)(hb:b.size=2):∀(n:Nat),n≤65536→∃s:ByteArray,s.size≤n+1∧∀(w:World),
    Calls prog 102 #[.int .i64 n,.string b] w fun e w'=>e= .returned (.string s)∧w=w':=by
  intro n
  induction n using Nat.strongRecOn with
  |_ n ih=>
  intro hn;by_cases h0:n=0
  · subst h0;refine⟨ByteArray.empty,by decide,fun w=> ?_⟩;go_enter func102,ntmps102;go_wp2
    go_loop [5] (fun v=>v= .string ByteArray.empty) (fun _=>0)
    case atStart=>rfl
    case round=>
      subst hrel;go_wp2;go_ret;exact⟨rfl,rfl⟩
  · have hpos:(0:Int)<(n:Int):=by omega
    obtain⟨D,hD⟩:∃D,dbl n b (n+2)=D:=⟨_,rfl⟩;obtain⟨hD1,hD2⟩:=dbl_size n (n+2) b (by omega) (by omega);rw [hD] at hD1 hD2
    obtain⟨r,hr,I⟩:∃r:ByteArray,r.size≤n+1∧((D.size<n∧r.size≤n-D.size+1∧∀w,Calls prog 102 #[.int .i64 ((n:Int)-(D.size:Int)),.string b] w fun e w'=>e= .returned (.string r)∧w=w')∨(¬ D.size<n∧r=ByteArray.empty)):=by
      by_cases hl:D.size<n
      · obtain⟨r,hr,H⟩:=ih (n-D.size) (by omega) (by omega);have e1:((n-D.size:Nat):Int)=(n:Int)-(D.size:Int):=by omega
        rw [e1] at H;exact⟨r,by omega,.inl ⟨hl,hr,H⟩⟩
      · exact⟨ByteArray.empty,by simp,.inr ⟨hl,rfl⟩⟩
    refine⟨D++r,?_,fun w=> ?_⟩
    · rcases I with ⟨hl,h2,-⟩|⟨hl,rfl⟩
      · simp;omega
      · simp;omega
    clear ih;go_enter func102,ntmps102;go_wp2
    go_loop [5] (fun v=>∃(s:ByteArray) (k:Nat),v= .string s∧2≤s.size∧s.size≤n+1∧n+2-s.size≤k∧dbl n s k=D) (fun v=>n+2-strLen v)
    case atStart=>exact ⟨b,n+2,rfl,by omega,by omega,by omega,hD⟩
    case round=>
      obtain⟨s,k,rfl,h2,h3,hk,hs⟩:=hrel;by_cases hm:s.size*2≤n
      · have hmi:(s.size:Int)*2≤(n:Int):=by omega
        obtain⟨k',rfl⟩:∃k',k=k'+1:=⟨k-1,by omega⟩;have hsz:(s++s).size=s.size+s.size:=by simp
        unfold dbl at hs;rw [if_pos hm] at hs;clear I hD;go_wp2;go_round
        case rel=>exact ⟨s++s,k',rfl,by omega,by omega,by omega,hs⟩
        case measure=>simp [strLen];omega
      · have hmi: ¬ ((s.size:Int)*2≤(n:Int)):=by omega
        rw [dbl_end hm] at hs;subst hs;rcases I with ⟨hl,-,I⟩|⟨hl,rfl⟩
        · have hli:(s.size:Int)<(n:Int):=by omega
          clear hD;go_wp2_with fail;refine(I _).mono ?_;rintro e w' ⟨rfl,rfl⟩;clear I;go_wp2;go_ret;exact⟨rfl,rfl⟩
        · have hli: ¬ ((s.size:Int)<(n:Int)):=by omega
          clear hD;go_wp2;go_ret;exact⟨rfl,rfl⟩
theorem some_uni (v:Value)(p:Nat)(w0:World)(hv:Cod w0 v)(hp:p≤50000):
    ∃(s:ByteArray) (q:Nat),s.size≤65537∧q≤p+42∧∀w,Bl w0 w→Cr 59 #[v,.int .i64 p] w (.tuple #[.string s,.int .i64 q]):=by
  obtain⟨z,hz,T1⟩:=take_uni v p 80 w0 hv (by omega) (by omega) (by omega);obtain⟨y,hy,T2⟩:=take_uni v (p+1) 40 w0 hv (by omega) (by omega) (by omega);have e1:((p+1:Nat):Int)=(p:Int)+1:=by omega
  rw [e1] at T2;clear e1;by_cases h79:z=79
  · subst h79;obtain⟨s,hs,L⟩:=long_uni ⟨#[105,110]⟩ rfl (65535+y%2) (by omega);have e1:((65535+y%2:Nat):Int)=65535+(y:Int)%2:=by omega
    rw [e1] at L;clear e1;refine⟨s,p+2,by omega,by omega,fun w hw=> ?_⟩;go_enter func59,ntmps59;go_wp2_with fail;refine(T1 _ hw).mono ?_;rintro e w1 ⟨rfl,rfl⟩;go_wp2_with fail;refine(T2 _ hw).mono ?_;rintro e w1 ⟨rfl,rfl⟩;clear T1 T2;go_wp2_with fail;refine(L _).mono ?_;rintro e w1 ⟨rfl,rfl⟩;go_wp2;go_ret2;exact⟨ret_si rfl (by omega),Below.refl _ _⟩
  · have h79i:((z:Int)==79)=false:=by simp;omega
    by_cases h8:z<8
    · have h8i:(z:Int)<8:=by omega
      refine⟨ByteArray.empty,p+2,by decide,by omega,fun w hw=> ?_⟩;go_enter func59,ntmps59;go_wp2_with fail;refine(T1 _ hw).mono ?_;rintro e w1 ⟨rfl,rfl⟩;go_wp2_with fail;refine(T2 _ hw).mono ?_;rintro e w1 ⟨rfl,rfl⟩;clear T1 T2;go_wp2;go_ret2;exact⟨ret_si rfl (by omega),Below.refl _ _⟩
    · have h8i: ¬ ((z:Int)<8):=by omega
      obtain⟨s,hs,L⟩:=byt_uni v (p+2) y w0 hv (by omega) (by omega);have e1:((p+2:Nat):Int)=(p:Int)+1+1:=by omega
      rw [e1] at L;clear e1;refine⟨s,p+2+y,by omega,by omega,fun w hw=> ?_⟩;go_enter func59,ntmps59;go_wp2_with fail;refine(T1 _ hw).mono ?_;rintro e w1 ⟨rfl,rfl⟩;go_wp2_with fail;refine(T2 _ hw).mono ?_;rintro e w1 ⟨rfl,rfl⟩;clear T1 T2;go_wp2_with fail;refine(L _ hw).mono ?_;rintro e w1 ⟨rfl,hb⟩;go_wp2;go_ret2;exact⟨ret_si rfl (by omega),hb⟩
end Go.Proofs.YtmjniccfjffclaaGreatDoor
