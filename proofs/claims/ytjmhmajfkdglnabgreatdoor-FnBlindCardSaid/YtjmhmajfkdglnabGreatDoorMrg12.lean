import Derived.Test.YtjmhmajfkdglnabGreatDoorMrg11
set_option linter.unusedVariables false
set_option maxRecDepth 100000
set_option maxHeartbeats 16000000
namespace Go.Proofs.YtjmhmajfkdglnabGreatDoor
open Go.Proofs.Tryz Go.RowKit
open Go.Value (int)
open Go.IntKind (u64)
section
open M
theorem pt_natQ:∀q:Pt,∃x y:Nat,px q=x∧py q=y∧x<2305843009213693951∧y<2305843009213693951
  |none=>⟨0,0,rfl,rfl,by decide,by decide⟩
  |some (x,y)=>⟨x.val,y.val,rfl,rfl,val_lt x,val_lt y⟩
theorem dany_any (v:Value)(p:Nat)(w:World)(hv:Cod w v)(hp:p≤20000):
    Calls prog 22 #[v,.int .i64 p] w fun e w'=>(∃(x y:Nat) (c:Bool),x<18446744073709551616∧y<18446744073709551616∧e= .returned (.tuple #[.agg #[int u64 x,int u64 y,.bool c],.int .i64 (p+12:Nat)]))∧Bl w w':=by
  have hr:=R3.new w 0 0 false;have hb:=balc w (Obj.cells #[int u64 0,int u64 0,.bool false] 25);have hv0:=hv.below ((Below.refl w.heap.size w).alloc (Nat.le_refl _) (Obj.cells #[int u64 0,int u64 0,.bool false] 25));have T1:=take_any v p 20 _ hv0 (by omega) (by omega) (by omega);have T2:=dpt_any v (p+1) _ hv0 (by omega);have e1:((p+1:Nat):Int)=(p:Int)+1:=by omega
  have e2:((p+1+11:Nat):Int)=(p:Int)+12:=by omega
  rw [e1,e2] at T2;clear e1 e2 hv0;go_enter func22,ntmps22;go_wp2_with fail;refine T1.mono ?_;rintro e w1 ⟨⟨z,hz,rfl⟩,rfl⟩;go_wp2_with fail;refine T2.mono ?_;rintro e w2 ⟨⟨q,hq,rfl⟩,b2⟩;obtain⟨x,y,ex,ey,hx,hy⟩:=pt_natQ q;rw [ex,ey];generalize pb q=c;clear ex ey hq q;have hlt:=hr.lt;replace hr:=(hr.keep b2).alloc (Obj.cells #[int u64 x,int u64 y,.bool c] 25);have hp7:=R3.new w2 x y c;replace hb:=kpB hb hb.size b2;replace hb:=hb.alloc hb.size (Obj.cells #[int u64 x,int u64 y,.bool c] 25);clear b2 T1 T2;have c0:=hr.c0;have c1:=hr.c1;have c2:=hr.c2;have f0:=hr.frz 0;have f1:=hr.frz 1;have f2:=hr.frz 2;rcases(show z=18∨z=19∨(z<18) by omega) with rfl|rfl|h
  · have e1:IntKind.u64.wrap ((y:Int)+1)=(y:Int)+1:=by rw [IntKind.wrap_u64];omega
    go_wp2;exact bodyPost_ret (v:= .tuple #[.agg #[int u64 x,int u64 ((y:Int)+1),.bool c],.int .i64 ((p:Int)+12)]) (pt_ct (fn:=Tryz.f22) (p:=4) (u:=5) results22 _ rfl (hr.set _ _ _)) rfl ⟨⟨x,y+1,c,by omega,by omega,rfl⟩,set3_below hb (Nat.le_refl _)⟩
  · have e1:IntKind.u64.wrap ((x:Int)+2305843009213693951)=(x:Int)+2305843009213693951:=by rw [IntKind.wrap_u64];omega
    go_wp2;exact bodyPost_ret (v:= .tuple #[.agg #[int u64 ((x:Int)+2305843009213693951),int u64 y,.bool false],.int .i64 ((p:Int)+12)]) (pt_ct (fn:=Tryz.f22) (p:=4) (u:=5) results22 _ rfl (hr.set _ _ _)) rfl ⟨⟨x+2305843009213693951,y,false,by omega,by omega,rfl⟩,set3_below hb (Nat.le_refl _)⟩
  · have h0:((z:Int)==18)=false:=by simp;omega
    have h1:((z:Int)==19)=false:=by simp;omega
    go_wp2;exact bodyPost_ret (v:= .tuple #[.agg #[int u64 x,int u64 y,.bool c],.int .i64 ((p:Int)+12)]) (pt_ct (fn:=Tryz.f22) (p:=4) (u:=5) results22 _ rfl (hr.set _ _ _)) rfl ⟨⟨x,y,c,by omega,by omega,rfl⟩,set3_below hb (Nat.le_refl _)⟩
end
theorem conv2 (w:World)(a b:Int):(convert 22 9 (.slice (some ⟨w.heap.size,0,none⟩) 2 2)).run prog (w.alloc (Obj.cells #[.int .u8 a,.int .u8 b] 5))= .ok (.string (strOfNums [a,b])) (w.alloc (Obj.cells #[.int .u8 a,.int .u8 b] 5)):=
  run_convert_bytes_arg (P:=prog) (w.alloc (Obj.cells #[.int .u8 a,.int .u8 b] 5)) 22 5 underlying22 underlying5 w.heap.size 0 2 2 [a,b] rfl (fun i hi=>by
    have hh:=heap_alloc_new w (Obj.cells #[.int .u8 a,.int .u8 b] 5);generalize w.alloc (Obj.cells #[.int .u8 a,.int .u8 b] 5)=W at*;rcases(show i=0∨i=1 by omega) with rfl|rfl
    · simp [World.cell?,hh]
    · simp [World.cell?,hh]) 9 underlying9
def sizB (s:ByteArray):ByteArray:=strOfNums [((s.size/256%256:Nat):Int),((s.size%256:Nat):Int)]++s
theorem sizS_any (s:ByteArray)(w:World)(h:s.size≤65535):
    Cr 56 #[.string s] w (.string (sizB s)):=by
  have h2:((s.size/256%256:Nat):Int)=(s.size:Int)/256:=by omega
  have h3:((s.size%256:Nat):Int)=(s.size:Int)%256:=by omega
  have hcv:=conv2 w ((s.size:Int)/256) ((s.size:Int)%256);unfold sizB;rw [h2,h3];obtain⟨T,hT⟩:∃T,Hid (T=strOfNums [(s.size:Int)/256,(s.size:Int)%256]):=⟨_,rfl⟩;have hTs:T.size=2:=by rw [hT.out,strOfNums_size];rfl
  rw [←hT.out] at hcv⊢;go_enter func56,ntmps56;go_wp2;go_ret;exact⟨rfl,(Below.refl _ w).alloc (Nat.le_refl _) _⟩
def tagB (word:ByteArray)(k:Nat):ByteArray:=word++⟨#[84,79,89,80,82,70,45]⟩++(⟨#[48,49,50]⟩:ByteArray).extract k (k+1)++⟨#[45,77,54,49]⟩
theorem tagB_size (word:ByteArray)(k:Nat)(h:k<3):(tagB word k).size=word.size+12:=by
  rcases(show k=0∨k=1∨k=2 by omega) with rfl|rfl|rfl<;>(unfold tagB;rw [ByteArray.size_append,ByteArray.size_append,ByteArray.size_append];rfl)
theorem tagS_any (word:ByteArray)(k:Nat)(w:World)(hk:k<3)(h:word.size≤100):
    Cr 63 #[.string word,.int .i64 k] w (.string (tagB word k)):=by
  rcases(show k=0∨k=1∨k=2 by omega) with rfl|rfl|rfl
  · go_enter func63,ntmps63;go_wp2;go_ret;exact⟨rfl,Below.refl _ _⟩
  · go_enter func63,ntmps63;go_wp2;go_ret;exact⟨rfl,Below.refl _ _⟩
  · go_enter func63,ntmps63;go_wp2;go_ret;exact⟨rfl,Below.refl _ _⟩
theorem sizB_size (s:ByteArray):(sizB s).size=s.size+2:=by
  unfold sizB;rw [ByteArray.size_append,strOfNums_size];simp only [List.length_cons,List.length_nil];omega
def numB (i:Nat):ByteArray:=strOfNums [((i/256%256:Nat):Int),((i%256:Nat):Int)]
theorem numB_size (i:Nat):(numB i).size=2:=by unfold numB;rw [strOfNums_size];rfl
section
attribute [local go_sem ↓] Go.wp_at_zero Go.wp_at_succ
theorem infoU32:(prog.info? 175).map (fun i=>(i.zero,i.size,i.bytes))=some (some (.int .u32 0),1,4):=by kernel_rfl
theorem infoU8:(prog.info? 5).map (fun i=>(i.zero,i.size,i.bytes))=some (some (.int .u8 0),1,1):=by kernel_rfl
theorem schedS_any (g cap n:Nat)(m:List Int)(fr:Nat)(w:World)(hm:∀i,i<n→w.cell? ⟨g,i,none⟩=some (.int .u8 (lk m i)))
    (hb:∀i,0≤lk m i∧lk m i<256)(hn:n≤1099511627776)(hf:fr+64≤n)(hg:g<w.heap.size):
    Calls prog 130 #[.slice (some ⟨g,0,none⟩) n cap,.int .i64 fr] w fun e w'=>
      ∃g' cap',e= .returned (.slice (some ⟨g',0,none⟩) 64 cap')∧
      w'.ownsRow w.heap.size 175 1 (.slice (some ⟨g',0,none⟩) 64 cap') 64 ((wsTo m fr 64).map (Value.int .u32))∧Bl w w':=by
  obtain⟨i0,hi,hz0,hz1,hz2⟩:=info_parts infoU32;go_enter func130,ntmps130;go_wp2
  go_loopw [5,6] (fun v i wr=>∃k:Nat,k≤16∧i= .int .i64 k∧wr.ownsRow w.heap.size 175 1 v k ((wsTo m fr k).map (Value.int .u32))∧Bl w wr) (fun _ i _=>16-(intOf i).toNat)
  case atStart=>exact ⟨0,by omega,rfl,⟨rfl,.inr ⟨w.heap.size,0,#[],rfl,Nat.le_refl _,heap_alloc_new _ _,by omega,by decide,rfl,rfl⟩⟩,(Below.refl _ _).alloc (Nat.le_refl _) _⟩
  case round =>
    obtain⟨k,hk,rfl,hown,hbl⟩:=hrel;by_cases hlt:k<16
    · obtain ⟨p,hp⟩:∃p:Nat,p=fr+4*k:=⟨_,rfl⟩;have hp':(fr:Int)+4*(k:Int)=(p:Int):=by omega
      have c0:=(hbl.cell (p:=⟨g,p,none⟩) hg).trans (hm p (by omega));have c1:=(hbl.cell (p:=⟨g,p+1,none⟩) hg).trans (hm (p+1) (by omega));have c2:=(hbl.cell (p:=⟨g,p+2,none⟩) hg).trans (hm (p+2) (by omega));have c3:=(hbl.cell (p:=⟨g,p+3,none⟩) hg).trans (hm (p+3) (by omega));have b0:=hb p;have b1:=hb (p+1);have b2:=hb (p+2);have b3:=hb (p+3)
      have hnb:u5.ownBlock≠some g:=by
        rcases hown.2 with ⟨rfl,_⟩|⟨g1,cap1,cur,rfl,hg1,_⟩
        · simp [Value.ownBlock]
        · simp only [Value.ownBlock,ne_eq,Option.some.injEq];omega
      have hgr:g<wr.heap.size:=Nat.lt_of_lt_of_le hg hbl.size;have hszr:w.heap.size≤wr.heap.size:=hbl.size;have q0:(0:Int)≤(p:Int):=Int.natCast_nonneg _;have q1:(p:Int)<(n:Int):=by omega
      have q2:(p:Int)+1<(n:Int):=by omega
      have q3:(p:Int)+2<(n:Int):=by omega
      have q4:(p:Int)+3<(n:Int):=by omega
      have q5:(0:Int)≤(p:Int)+1:=by omega
      have q6:(0:Int)≤(p:Int)+2:=by omega
      have q7:(0:Int)≤(p:Int)+3:=by omega
      have e1:=i64_in ((p:Int)+1) (by omega) (by omega);have e2:=i64_in ((p:Int)+2) (by omega) (by omega);have e3:=i64_in ((p:Int)+3) (by omega) (by omega);have f0:=u32_in (lk m p) (by omega) (by omega);have f1:=u32_in (lk m (p+1)) (by omega) (by omega);have f2:=u32_in (lk m (p+2)) (by omega) (by omega);have f3:=u32_in (lk m (p+3)) (by omega) (by omega);have f4:=u32_in (lk m p*16777216) (by omega) (by omega);have f5:=u32_in (lk m (p+1)*65536) (by omega) (by omega);have f6:=u32_in (lk m (p+2)*256) (by omega) (by omega);have t1:((p:Int)+1).toNat=p+1:=by omega
      have t2:((p:Int)+2).toNat=p+2:=by omega
      have t3:((p:Int)+3).toNat=p+3:=by omega
      have Hp:Hid (p=fr+4*k):=hp;have hpn:p+64≤n+4*k:=by omega
      clear hp;go_wp2
      go_region_held3 (fun w'=>w'.cell? ⟨g,p,none⟩=some (.int .u8 (lk m p))∧w'.cell? ⟨g,p+1,none⟩=some (.int .u8 (lk m (p+1)))∧
          w'.cell? ⟨g,p+2,none⟩=some (.int .u8 (lk m (p+2)))∧w'.cell? ⟨g,p+3,none⟩=some (.int .u8 (lk m (p+3))))
        (first
          |go_keep
          | (go_split_ands
             refine⟨?_,?_,?_,?_⟩
             · (rw [hgrow.cell_far _ (by simp;omega) (Ne.symm hnb)];assumption)
             · (rw [hgrow.cell_far _ (by simp;omega) (Ne.symm hnb)];assumption)
             · (rw [hgrow.cell_far _ (by simp;omega) (Ne.symm hnb)];assumption)
             · (rw [hgrow.cell_far _ (by simp;omega) (Ne.symm hnb)];assumption)))
        ((refine step_append_lies _ (by rfl) _ _ _ (by rfl) w.heap.size 175 i0 _ 1 4 underlying176 hi hz0 hz1 hz2 rfl (by omega) u5 k ((wsTo m fr k).map (Value.int .u32)) (by rfl) ((hown.alloc _).drew)
            ⟨wr.heap.size,0,none⟩ 1 1 [.int .u32 (word m p)] (by rfl) (by rfl) (World.news_of_block (cs:=#[.int .u32 (word m p)]) (t:=175) (fr:=(0,0)) (heap_alloc_new wr _)) (by simp [Value.oneCell'])
            (by omega) (by unfold maxLen;omega) (by omega) (by simp;omega) (wr.heap.size+1) (by simp) ?_;intro gg cap w1 hown1 hgrow hat hglt))
      go_wp2;refine⟨⟨k+1,by omega,by go_num,?_,?_⟩,by simp [intOf];omega⟩
      · rw [wsTo_lo m fr k hlt,←Hp.out];exact hown1
      · exact(((hbl.alloc hszr _).drew).grown hgrow (by simp;omega) (fun r hr=>(hown.lt r hr).1))
    · obtain rfl:k=16:=by omega
      go_wp2
      go_loopw [5,8] (fun v i wr=>∃k:Nat,16≤k∧k≤64∧i= .int .i64 k∧wr.ownsRow w.heap.size 175 1 v k ((wsTo m fr k).map (Value.int .u32))∧Bl w wr) (fun _ i _=>64-(intOf i).toNat)
      case atStart=>exact ⟨16,by omega,by omega,rfl,hown,hbl⟩
      case round=>
        clear hown hbl;obtain⟨k,hk16,hk,rfl,hown,hbl⟩:=hrel;by_cases hlt:k<64
        · obtain⟨g1,cap1,rfl,hg1,hlt1⟩:=hown.form (by omega);have c15:=own_cell hown (k-15) (by omega);have c2:=own_cell hown (k-2) (by omega);have c16:=own_cell hown (k-16) (by omega);have c7:=own_cell hown (k-7) (by omega);have b15:=wsTo_lo32 m fr k (k-15);have b2:=wsTo_lo32 m fr k (k-2);have b16:=wsTo_lo32 m fr k (k-16);have b7:=wsTo_lo32 m fr k (k-7);go_wp2_with (go_at_call 131;refine(turn_any _ _ _ (by omega) (by omega) (by omega) (by omega)).mono ?_;rintro e w' ⟨rfl,rfl⟩);have hszr:w.heap.size≤wr.heap.size:=hbl.size;have hn1:g1≠wr.heap.size:=by omega
          have q0:(0:Int)≤(k:Int)-16:=by omega
          have q1:(k:Int)-16<(k:Int):=by omega
          have q2:(0:Int)≤(k:Int)-7:=by omega
          have q3:(k:Int)-7<(k:Int):=by omega
          have q4:(16:Int)≤(k:Int):=by omega
          have q5:(7:Int)≤(k:Int):=by omega
          have e1:=i64_in ((k:Int)-16) (by omega) (by omega);have e2:=i64_in ((k:Int)-7) (by omega) (by omega);have t1:((k:Int)-16).toNat=k-16:=by omega
          have t2:((k:Int)-7).toNat=k-7:=by omega
          have hL16:=own_get hown (k-16) (by omega);have hL7:=own_get hown (k-7) (by omega)
          go_region_held3 (fun w'=>w'.cell? ⟨g1,k-16,none⟩=some (.int .u32 (lk (wsTo m fr k) (k-16)))∧w'.cell? ⟨g1,k-7,none⟩=some (.int .u32 (lk (wsTo m fr k) (k-7))))
            (first
              |go_keep
              |exact ⟨hkeep _ _ hL16,hkeep _ _ hL7⟩)
            ((refine step_append_keeps (by rfl) _ _ _ (by rfl) w.heap.size 175 i0 _ 4 underlying176 hi hz0 hz1 hz2 rfl g1 k cap1 ((wsTo m fr k).map (Value.int .u32)) (by rfl) ((hown.alloc _).drew)
                ⟨wr.heap.size,0,none⟩ 1 1 [.int .u32 (nextw (wsTo m fr k) k)] (by rfl) (by rfl) (World.news_of_block (cs:=#[.int .u32 (nextw (wsTo m fr k) k)]) (t:=175) (fr:=(0,0)) (heap_alloc_new wr _)) (by simp [Value.oneCell'])
                (by omega) (by unfold maxLen;omega) (by omega) (by simp;omega) (wr.heap.size+1) (by simp) ?_;intro gg cap w1 hown1 hgrow hat hglt hkeep))
          go_wp2;go_roundw
          case rel=>
            have R1:w1.ownsRow w.heap.size 175 1 (.slice (some ⟨gg,0,none⟩) (k+1) cap) (k+1) ((wsTo m fr (k+1)).map (Value.int .u32)):=by
              rw [wsTo_hi m fr k hk16];exact hown1
            have R2:Bl w w1:=(((hbl.alloc hszr _).drew).grown hgrow (by simp;omega) (fun r hr=>by simp at hr;omega))
            first
              |exact ⟨k+1,by omega,by omega,by go_num,R1,R2⟩
              |((repeat apply Exists.intro);exact⟨⟨k+1,by omega,by omega,by go_num,R1,R2⟩,rfl⟩)
          case measure=>simp [intOf];omega
        · obtain rfl:k=64:=by omega
          obtain⟨g1,cap1,rfl,hg1,hlt1⟩:=hown.form (by omega);go_wp2;go_ret;exact⟨g1,cap1,rfl,hown,hbl⟩
end
section
attribute [local go_sem ↓] Go.wp_at_zero Go.wp_at_succ
theorem blockS_any (gh ch gk ck g cap n:Nat)(h ks m:List Int)(fr:Nat)(w:World)
    (hh:∀i,i<8→w.cell? ⟨gh,i,none⟩=some (.int .u32 (lk h i)))(hhb:(stOf h).ok)(hgh:gh<w.heap.size)
    (hks:∀i,i<64→w.cell? ⟨gk,i,none⟩=some (.int .u32 (lk ks i)))(hgk:gk<w.heap.size)
    (hm:∀i,i<n→w.cell? ⟨g,i,none⟩=some (.int .u8 (lk m i)))
    (hb:∀i,0≤lk m i∧lk m i<256)(hn:n≤1099511627776)(hf:fr+64≤n)(hg:g<w.heap.size):
    Calls prog 100 #[.slice (some ⟨gh,0,none⟩) 8 ch,.slice (some ⟨gk,0,none⟩) 64 ck,.slice (some ⟨g,0,none⟩) n cap,.int .i64 fr] w fun e w'=>
      ∃g',e= .returned (.slice (some ⟨g',0,none⟩) 8 8)∧
      w'.ownsRow w.heap.size 175 1 (.slice (some ⟨g',0,none⟩) 8 8) 8 ((blockF ks h (wsTo m fr 64)).map (Value.int .u32))∧Bl w w':=by
  obtain⟨i0,hi,hz0,hz1,hz2⟩:=info_parts infoU32;go_enter func100,ntmps100;go_wp2_with fail;refine(schedS_any g cap n m fr w hm hb hn hf hg).mono ?_;rintro e w1 ⟨gw,cw,rfl,hown,hbl⟩;have hlt:=hown.lt gw rfl;have h0:=(hbl.cell (p:=⟨gh,0,none⟩) hgh).trans (hh 0 (by omega));have h1:=(hbl.cell (p:=⟨gh,1,none⟩) hgh).trans (hh 1 (by omega));have h2:=(hbl.cell (p:=⟨gh,2,none⟩) hgh).trans (hh 2 (by omega));have h3:=(hbl.cell (p:=⟨gh,3,none⟩) hgh).trans (hh 3 (by omega));have h4:=(hbl.cell (p:=⟨gh,4,none⟩) hgh).trans (hh 4 (by omega));have h5:=(hbl.cell (p:=⟨gh,5,none⟩) hgh).trans (hh 5 (by omega));have h6:=(hbl.cell (p:=⟨gh,6,none⟩) hgh).trans (hh 6 (by omega));have h7:=(hbl.cell (p:=⟨gh,7,none⟩) hgh).trans (hh 7 (by omega));go_wp2
  go_loopw [10,11,12,13,14,15,16,17,18] (fun a b c d e f g z i wr=>∃k:Nat,k≤64∧i= .int .i64 k∧a= .int .u32 (rndTo (stOf h) ks (wsTo m fr 64) k).a∧b= .int .u32 (rndTo (stOf h) ks (wsTo m fr 64) k).b∧c= .int .u32 (rndTo (stOf h) ks (wsTo m fr 64) k).c∧d= .int .u32 (rndTo (stOf h) ks (wsTo m fr 64) k).d∧e= .int .u32 (rndTo (stOf h) ks (wsTo m fr 64) k).e∧f= .int .u32 (rndTo (stOf h) ks (wsTo m fr 64) k).f∧g= .int .u32 (rndTo (stOf h) ks (wsTo m fr 64) k).g∧z= .int .u32 (rndTo (stOf h) ks (wsTo m fr 64) k).z∧Bl w1 wr) (fun _ _ _ _ _ _ _ _ i _=>64-(intOf i).toNat)
  case atStart=>exact ⟨0,by omega,rfl,rfl,rfl,rfl,rfl,rfl,rfl,rfl,rfl,Below.refl _ _⟩
  case round=>
    obtain⟨k,hk,rfl,rfl,rfl,rfl,rfl,rfl,rfl,rfl,rfl,hblr⟩:=hrel;have hok:=rndTo_ok (stOf h) ks (wsTo m fr 64) hhb k;by_cases hlt2:k<64
    · have hst:Hid (rndTo (stOf h) ks (wsTo m fr 64) (k+1)=rnd (rndTo (stOf h) ks (wsTo m fr 64) k) (lk ks k) (lk (wsTo m fr 64) k)):=rfl;have hck:=(hblr.cell (p:=⟨gk,k,none⟩) (by have:=hbl.size;simp;omega)).trans ((hbl.cell (p:=⟨gk,k,none⟩) hgk).trans (hks k hlt2));have hcw:=(hblr.cell (p:=⟨gw,k,none⟩) (by simp;omega)).trans (own_cell hown k hlt2);generalize rndTo (stOf h) ks (wsTo m fr 64) k=s at*;obtain⟨a,b,c,d,e,f,g',z⟩:=s;obtain⟨⟨oa,oa'⟩,⟨ob,ob'⟩,⟨oc,oc'⟩,⟨od,od'⟩,⟨oe,oe'⟩,⟨of,of'⟩,⟨og,og'⟩,⟨oz,oz'⟩⟩:=hok;dsimp only at oa oa' ob ob' oc oc' od od' oe oe' of of' og og' oz oz';go_wp2_with (go_at_call 131;refine(turn_any _ _ _ (by omega) (by omega) (by omega) (by omega)).mono ?_;rintro e w' ⟨rfl,rfl⟩);have hk0:(0:Int)≤(k:Int):=Int.natCast_nonneg _;have hk64:(k:Int)<64:=by omega
      go_quiet (fail);go_wp2_with (go_at_call 131;refine(turn_any _ _ _ (by omega) (by omega) (by omega) (by omega)).mono ?_;rintro e w' ⟨rfl,rfl⟩);refine⟨⟨k+1,by omega,by go_num,?_,?_,?_,?_,?_,?_,?_,?_,below_drewN hblr _⟩,by simp [intOf];omega⟩<;>(rw [hst.out];rfl)
    · obtain rfl:k=64:=by omega
      have e0:=(hblr.cell (p:=⟨gh,0,none⟩) (by have:=hbl.size;simp;omega)).trans h0;have e1:=(hblr.cell (p:=⟨gh,1,none⟩) (by have:=hbl.size;simp;omega)).trans h1;have e2:=(hblr.cell (p:=⟨gh,2,none⟩) (by have:=hbl.size;simp;omega)).trans h2;have e3:=(hblr.cell (p:=⟨gh,3,none⟩) (by have:=hbl.size;simp;omega)).trans h3;have e4:=(hblr.cell (p:=⟨gh,4,none⟩) (by have:=hbl.size;simp;omega)).trans h4;have e5:=(hblr.cell (p:=⟨gh,5,none⟩) (by have:=hbl.size;simp;omega)).trans h5;have e6:=(hblr.cell (p:=⟨gh,6,none⟩) (by have:=hbl.size;simp;omega)).trans h6;have e7:=(hblr.cell (p:=⟨gh,7,none⟩) (by have:=hbl.size;simp;omega)).trans h7;clear h0 h1 h2 h3 h4 h5 h6 h7;have hsz:w.heap.size≤wr.heap.size:=Nat.le_trans hbl.size hblr.size;have hB:Bl w wr:=hbl.tr hblr;clear hblr hbl hown hok hlt;go_wp2
      go_region_held3 (fun w'=>w'.cell? ⟨gh,0,none⟩=some (.int .u32 (lk h 0))∧w'.cell? ⟨gh,1,none⟩=some (.int .u32 (lk h 1))∧w'.cell? ⟨gh,2,none⟩=some (.int .u32 (lk h 2))∧w'.cell? ⟨gh,3,none⟩=some (.int .u32 (lk h 3))∧w'.cell? ⟨gh,4,none⟩=some (.int .u32 (lk h 4))∧w'.cell? ⟨gh,5,none⟩=some (.int .u32 (lk h 5))∧w'.cell? ⟨gh,6,none⟩=some (.int .u32 (lk h 6))∧w'.cell? ⟨gh,7,none⟩=some (.int .u32 (lk h 7))) (go_keep) (fail)
      go_wp2;go_ret;refine⟨wr.heap.size,rfl,?_,?_⟩
      · exact(World.ownsRow_lit wr _ 8 hsz (by decide) rfl).drew
      · exact(hB.alloc hsz _).drew
end
end Go.Proofs.YtjmhmajfkdglnabGreatDoor
