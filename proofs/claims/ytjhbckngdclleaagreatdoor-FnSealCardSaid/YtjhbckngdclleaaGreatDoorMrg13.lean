import Derived.Test.YtjhbckngdclleaaGreatDoorMrg12
set_option linter.unusedVariables false
set_option maxRecDepth 100000
set_option maxHeartbeats 16000000
namespace Go.Proofs.YtjhbckngdclleaaGreatDoor
open Go.Proofs.Tryz Go.RowKit
open Go.Value (int)
open Go.IntKind (u64)
theorem sizS_any (s:ByteArray)(w:World)(h:s.size≤65535):
    Cr 46 #[.string s] w (.string (sizB s)):=by
  have h2:((s.size/256%256:Nat):Int)=(s.size:Int)/256:=by omega
  have h3:((s.size%256:Nat):Int)=(s.size:Int)%256:=by omega
  have hcv:=conv2 w ((s.size:Int)/256) ((s.size:Int)%256);unfold sizB;rw [h2,h3];obtain⟨T,hT⟩:∃T,Hid (T=strOfNums [(s.size:Int)/256,(s.size:Int)%256]):=⟨_,rfl⟩;have hTs:T.size=2:=by rw [hT.out,strOfNums_size];rfl
  rw [←hT.out] at hcv⊢;go_enter func46,ntmps46;go_wp2;go_ret;exact⟨rfl,(Below.refl _ w).alloc (Nat.le_refl _) _⟩
def tagB (word:ByteArray)(k:Nat):ByteArray:=word++⟨#[84,79,89,80,82,70,45]⟩++(⟨#[48,49,50]⟩:ByteArray).extract k (k+1)++⟨#[45,77,54,49]⟩
theorem tagB_size (word:ByteArray)(k:Nat)(h:k<3):(tagB word k).size=word.size+12:=by
  rcases(show k=0∨k=1∨k=2 by omega) with rfl|rfl|rfl<;>(unfold tagB;rw [ByteArray.size_append,ByteArray.size_append,ByteArray.size_append];rfl)
theorem tagS_any (word:ByteArray)(k:Nat)(w:World)(hk:k<3)(h:word.size≤100):
    Cr 55 #[.string word,.int .i64 k] w (.string (tagB word k)):=by
  rcases(show k=0∨k=1∨k=2 by omega) with rfl|rfl|rfl
  · go_enter func55,ntmps55;go_wp2;go_ret;exact⟨rfl,Below.refl _ _⟩
  · go_enter func55,ntmps55;go_wp2;go_ret;exact⟨rfl,Below.refl _ _⟩
  · go_enter func55,ntmps55;go_wp2;go_ret;exact⟨rfl,Below.refl _ _⟩
section
attribute [local go_sem ↓] Go.wp_at_zero Go.wp_at_succ
theorem infoU32:(prog.info? 177).map (fun i=>(i.zero,i.size,i.bytes))=some (some (.int .u32 0),1,4):=by kernel_rfl
theorem infoU8:(prog.info? 5).map (fun i=>(i.zero,i.size,i.bytes))=some (some (.int .u8 0),1,1):=by kernel_rfl
theorem schedS_any (g cap n:Nat)(m:List Int)(fr:Nat)(w:World)(hm:∀i,i<n→w.cell? ⟨g,i,none⟩=some (.int .u8 (lk m i)))
    (hb:∀i,0≤lk m i∧lk m i<256)(hn:n≤1099511627776)(hf:fr+64≤n)(hg:g<w.heap.size):
    Calls prog 185 #[.slice (some ⟨g,0,none⟩) n cap,.int .i64 fr] w fun e w'=>
      ∃g' cap',e= .returned (.slice (some ⟨g',0,none⟩) 64 cap')∧
      w'.ownsRow w.heap.size 177 1 (.slice (some ⟨g',0,none⟩) 64 cap') 64 ((wsTo m fr 64).map (Value.int .u32))∧Bl w w':=by
  obtain⟨i0,hi,hz0,hz1,hz2⟩:=info_parts infoU32;go_enter func185,ntmps185;go_wp2
  go_loopw [5,6] (fun v i wr=>∃k:Nat,k≤16∧i= .int .i64 k∧wr.ownsRow w.heap.size 177 1 v k ((wsTo m fr k).map (Value.int .u32))∧Bl w wr) (fun _ i _=>16-(intOf i).toNat)
  case atStart=>exact ⟨0,by omega,rfl,⟨rfl,.inr ⟨w.heap.size,0,#[],rfl,Nat.le_refl _,heap_alloc_new _ _,by omega,by decide,rfl,rfl⟩⟩,(Below.refl _ _).alloc (Nat.le_refl _) _⟩
  case round =>
    obtain⟨k,hk,rfl,hown,hbl⟩:=hrel;by_cases hlt:k<16
    · obtain ⟨p,hp⟩:∃p:Nat,p=fr+4*k:=⟨_,rfl⟩;have hp':(fr:Int)+4*(k:Int)=(p:Int):=by omega
      have c0:=(hbl.cell (p:=⟨g,p,none⟩) hg).trans (hm p (by omega));have c1:=(hbl.cell (p:=⟨g,p+1,none⟩) hg).trans (hm (p+1) (by omega));have c2:=(hbl.cell (p:=⟨g,p+2,none⟩) hg).trans (hm (p+2) (by omega));have c3:=(hbl.cell (p:=⟨g,p+3,none⟩) hg).trans (hm (p+3) (by omega));have b0:=hb p;have b1:=hb (p+1);have b2:=hb (p+2);have b3:=hb (p+3)
      have hnb:u5.ownBlock≠some g:=by
        rcases hown.2 with ⟨rfl,_⟩|⟨g1,cap1,cur,rfl,hg1,_⟩
        · simp [Value.ownBlock]
        · simp only [Value.ownBlock,ne_eq,Option.some.injEq];omega
      have hgr:g<wr.heap.size:=Nat.lt_of_lt_of_le hg hbl.size;have hszr:w.heap.size≤wr.heap.size:=hbl.size;have q0:(0:Int)≤(p:Int):=Int.natCast_nonneg _;have q1:(p:Int)<(n:Int):=by omega
      have q2:(p:Int)+1<(n:Int):=by omega
      have q3:(p:Int)+2<(n:Int):=by omega
      have q4:(p:Int)+3<(n:Int):=by omega
      have q5:(0:Int)≤(p:Int)+1:=by omega
      have q6:(0:Int)≤(p:Int)+2:=by omega
      have q7:(0:Int)≤(p:Int)+3:=by omega
      have e1:=i64_in ((p:Int)+1) (by omega) (by omega);have e2:=i64_in ((p:Int)+2) (by omega) (by omega);have e3:=i64_in ((p:Int)+3) (by omega) (by omega);have f0:=u32_in (lk m p) (by omega) (by omega);have f1:=u32_in (lk m (p+1)) (by omega) (by omega);have f2:=u32_in (lk m (p+2)) (by omega) (by omega);have f3:=u32_in (lk m (p+3)) (by omega) (by omega);have f4:=u32_in (lk m p*16777216) (by omega) (by omega);have f5:=u32_in (lk m (p+1)*65536) (by omega) (by omega);have f6:=u32_in (lk m (p+2)*256) (by omega) (by omega);have t1:((p:Int)+1).toNat=p+1:=by omega
      have t2:((p:Int)+2).toNat=p+2:=by omega
      have t3:((p:Int)+3).toNat=p+3:=by omega
      have Hp:Hid (p=fr+4*k):=hp;have hpn:p+64≤n+4*k:=by omega
      clear hp;go_wp2
      go_region_held3 (fun w'=>w'.cell? ⟨g,p,none⟩=some (.int .u8 (lk m p))∧w'.cell? ⟨g,p+1,none⟩=some (.int .u8 (lk m (p+1)))∧
          w'.cell? ⟨g,p+2,none⟩=some (.int .u8 (lk m (p+2)))∧w'.cell? ⟨g,p+3,none⟩=some (.int .u8 (lk m (p+3))))
        (first
          |go_keep
          | (go_split_ands
             refine⟨?_,?_,?_,?_⟩
             · (rw [hgrow.cell_far _ (by simp;omega) (Ne.symm hnb)];assumption)
             · (rw [hgrow.cell_far _ (by simp;omega) (Ne.symm hnb)];assumption)
             · (rw [hgrow.cell_far _ (by simp;omega) (Ne.symm hnb)];assumption)
             · (rw [hgrow.cell_far _ (by simp;omega) (Ne.symm hnb)];assumption)))
        ((refine step_append_lies _ (by rfl) _ _ _ (by rfl) w.heap.size 177 i0 _ 1 4 underlying232 hi hz0 hz1 hz2 rfl (by omega) u5 k ((wsTo m fr k).map (Value.int .u32)) (by rfl) ((hown.alloc _).drew)
            ⟨wr.heap.size,0,none⟩ 1 1 [.int .u32 (word m p)] (by rfl) (by rfl) (World.news_of_block (cs:=#[.int .u32 (word m p)]) (t:=177) (fr:=(0,0)) (heap_alloc_new wr _)) (by simp [Value.oneCell'])
            (by omega) (by unfold maxLen;omega) (by omega) (by simp;omega) (wr.heap.size+1) (by simp) ?_;intro gg cap w1 hown1 hgrow hat hglt))
      go_wp2;refine⟨⟨k+1,by omega,by go_num,?_,?_⟩,by simp [intOf];omega⟩
      · rw [wsTo_lo m fr k hlt,←Hp.out];exact hown1
      · exact(((hbl.alloc hszr _).drew).grown hgrow (by simp;omega) (fun r hr=>(hown.lt r hr).1))
    · obtain rfl:k=16:=by omega
      go_wp2
      go_loopw [5,8] (fun v i wr=>∃k:Nat,16≤k∧k≤64∧i= .int .i64 k∧wr.ownsRow w.heap.size 177 1 v k ((wsTo m fr k).map (Value.int .u32))∧Bl w wr) (fun _ i _=>64-(intOf i).toNat)
      case atStart=>exact ⟨16,by omega,by omega,rfl,hown,hbl⟩
      case round=>
        clear hown hbl;obtain⟨k,hk16,hk,rfl,hown,hbl⟩:=hrel;by_cases hlt:k<64
        · obtain⟨g1,cap1,rfl,hg1,hlt1⟩:=hown.form (by omega);have c15:=own_cell hown (k-15) (by omega);have c2:=own_cell hown (k-2) (by omega);have c16:=own_cell hown (k-16) (by omega);have c7:=own_cell hown (k-7) (by omega);have b15:=wsTo_lo32 m fr k (k-15);have b2:=wsTo_lo32 m fr k (k-2);have b16:=wsTo_lo32 m fr k (k-16);have b7:=wsTo_lo32 m fr k (k-7);go_wp2_with (go_at_call 186;refine(turn_any _ _ _ (by omega) (by omega) (by omega) (by omega)).mono ?_;rintro e w' ⟨rfl,rfl⟩);have hszr:w.heap.size≤wr.heap.size:=hbl.size;have hn1:g1≠wr.heap.size:=by omega
          have q0:(0:Int)≤(k:Int)-16:=by omega
          have q1:(k:Int)-16<(k:Int):=by omega
          have q2:(0:Int)≤(k:Int)-7:=by omega
          have q3:(k:Int)-7<(k:Int):=by omega
          have q4:(16:Int)≤(k:Int):=by omega
          have q5:(7:Int)≤(k:Int):=by omega
          have e1:=i64_in ((k:Int)-16) (by omega) (by omega);have e2:=i64_in ((k:Int)-7) (by omega) (by omega);have t1:((k:Int)-16).toNat=k-16:=by omega
          have t2:((k:Int)-7).toNat=k-7:=by omega
          have hL16:=own_get hown (k-16) (by omega);have hL7:=own_get hown (k-7) (by omega)
          go_region_held3 (fun w'=>w'.cell? ⟨g1,k-16,none⟩=some (.int .u32 (lk (wsTo m fr k) (k-16)))∧w'.cell? ⟨g1,k-7,none⟩=some (.int .u32 (lk (wsTo m fr k) (k-7))))
            (first
              |go_keep
              |exact ⟨hkeep _ _ hL16,hkeep _ _ hL7⟩)
            ((refine step_append_keeps (by rfl) _ _ _ (by rfl) w.heap.size 177 i0 _ 4 underlying232 hi hz0 hz1 hz2 rfl g1 k cap1 ((wsTo m fr k).map (Value.int .u32)) (by rfl) ((hown.alloc _).drew)
                ⟨wr.heap.size,0,none⟩ 1 1 [.int .u32 (nextw (wsTo m fr k) k)] (by rfl) (by rfl) (World.news_of_block (cs:=#[.int .u32 (nextw (wsTo m fr k) k)]) (t:=177) (fr:=(0,0)) (heap_alloc_new wr _)) (by simp [Value.oneCell'])
                (by omega) (by unfold maxLen;omega) (by omega) (by simp;omega) (wr.heap.size+1) (by simp) ?_;intro gg cap w1 hown1 hgrow hat hglt hkeep))
          go_wp2;go_roundw
          case rel=>
            have R1:w1.ownsRow w.heap.size 177 1 (.slice (some ⟨gg,0,none⟩) (k+1) cap) (k+1) ((wsTo m fr (k+1)).map (Value.int .u32)):=by
              rw [wsTo_hi m fr k hk16];exact hown1
            have R2:Bl w w1:=(((hbl.alloc hszr _).drew).grown hgrow (by simp;omega) (fun r hr=>by simp at hr;omega))
            first
              |exact ⟨k+1,by omega,by omega,by go_num,R1,R2⟩
              |((repeat apply Exists.intro);exact⟨⟨k+1,by omega,by omega,by go_num,R1,R2⟩,rfl⟩)
          case measure=>simp [intOf];omega
        · obtain rfl:k=64:=by omega
          obtain⟨g1,cap1,rfl,hg1,hlt1⟩:=hown.form (by omega);go_wp2;go_ret;exact⟨g1,cap1,rfl,hown,hbl⟩
end
section
attribute [local go_sem ↓] Go.wp_at_zero Go.wp_at_succ
theorem blockS_any (gh ch gk ck g cap n:Nat)(h ks m:List Int)(fr:Nat)(w:World)
    (hh:∀i,i<8→w.cell? ⟨gh,i,none⟩=some (.int .u32 (lk h i)))(hhb:(stOf h).ok)(hgh:gh<w.heap.size)
    (hks:∀i,i<64→w.cell? ⟨gk,i,none⟩=some (.int .u32 (lk ks i)))(hgk:gk<w.heap.size)
    (hm:∀i,i<n→w.cell? ⟨g,i,none⟩=some (.int .u8 (lk m i)))
    (hb:∀i,0≤lk m i∧lk m i<256)(hn:n≤1099511627776)(hf:fr+64≤n)(hg:g<w.heap.size):
    Calls prog 154 #[.slice (some ⟨gh,0,none⟩) 8 ch,.slice (some ⟨gk,0,none⟩) 64 ck,.slice (some ⟨g,0,none⟩) n cap,.int .i64 fr] w fun e w'=>
      ∃g',e= .returned (.slice (some ⟨g',0,none⟩) 8 8)∧
      w'.ownsRow w.heap.size 177 1 (.slice (some ⟨g',0,none⟩) 8 8) 8 ((blockF ks h (wsTo m fr 64)).map (Value.int .u32))∧Bl w w':=by
  obtain⟨i0,hi,hz0,hz1,hz2⟩:=info_parts infoU32;go_enter func154,ntmps154;go_wp2_with fail;refine(schedS_any g cap n m fr w hm hb hn hf hg).mono ?_;rintro e w1 ⟨gw,cw,rfl,hown,hbl⟩;have hlt:=hown.lt gw rfl;have h0:=(hbl.cell (p:=⟨gh,0,none⟩) hgh).trans (hh 0 (by omega));have h1:=(hbl.cell (p:=⟨gh,1,none⟩) hgh).trans (hh 1 (by omega));have h2:=(hbl.cell (p:=⟨gh,2,none⟩) hgh).trans (hh 2 (by omega));have h3:=(hbl.cell (p:=⟨gh,3,none⟩) hgh).trans (hh 3 (by omega));have h4:=(hbl.cell (p:=⟨gh,4,none⟩) hgh).trans (hh 4 (by omega));have h5:=(hbl.cell (p:=⟨gh,5,none⟩) hgh).trans (hh 5 (by omega));have h6:=(hbl.cell (p:=⟨gh,6,none⟩) hgh).trans (hh 6 (by omega));have h7:=(hbl.cell (p:=⟨gh,7,none⟩) hgh).trans (hh 7 (by omega));go_wp2
  go_loopw [10,11,12,13,14,15,16,17,18] (fun a b c d e f g z i wr=>∃k:Nat,k≤64∧i= .int .i64 k∧a= .int .u32 (rndTo (stOf h) ks (wsTo m fr 64) k).a∧b= .int .u32 (rndTo (stOf h) ks (wsTo m fr 64) k).b∧c= .int .u32 (rndTo (stOf h) ks (wsTo m fr 64) k).c∧d= .int .u32 (rndTo (stOf h) ks (wsTo m fr 64) k).d∧e= .int .u32 (rndTo (stOf h) ks (wsTo m fr 64) k).e∧f= .int .u32 (rndTo (stOf h) ks (wsTo m fr 64) k).f∧g= .int .u32 (rndTo (stOf h) ks (wsTo m fr 64) k).g∧z= .int .u32 (rndTo (stOf h) ks (wsTo m fr 64) k).z∧Bl w1 wr) (fun _ _ _ _ _ _ _ _ i _=>64-(intOf i).toNat)
  case atStart=>exact ⟨0,by omega,rfl,rfl,rfl,rfl,rfl,rfl,rfl,rfl,rfl,Below.refl _ _⟩
  case round=>
    obtain⟨k,hk,rfl,rfl,rfl,rfl,rfl,rfl,rfl,rfl,rfl,hblr⟩:=hrel;have hok:=rndTo_ok (stOf h) ks (wsTo m fr 64) hhb k;by_cases hlt2:k<64
    · have hst:Hid (rndTo (stOf h) ks (wsTo m fr 64) (k+1)=rnd (rndTo (stOf h) ks (wsTo m fr 64) k) (lk ks k) (lk (wsTo m fr 64) k)):=rfl;have hck:=(hblr.cell (p:=⟨gk,k,none⟩) (by have:=hbl.size;simp;omega)).trans ((hbl.cell (p:=⟨gk,k,none⟩) hgk).trans (hks k hlt2));have hcw:=(hblr.cell (p:=⟨gw,k,none⟩) (by simp;omega)).trans (own_cell hown k hlt2);generalize rndTo (stOf h) ks (wsTo m fr 64) k=s at*;obtain⟨a,b,c,d,e,f,g',z⟩:=s;obtain⟨⟨oa,oa'⟩,⟨ob,ob'⟩,⟨oc,oc'⟩,⟨od,od'⟩,⟨oe,oe'⟩,⟨of,of'⟩,⟨og,og'⟩,⟨oz,oz'⟩⟩:=hok;dsimp only at oa oa' ob ob' oc oc' od od' oe oe' of of' og og' oz oz';go_wp2_with (go_at_call 186;refine(turn_any _ _ _ (by omega) (by omega) (by omega) (by omega)).mono ?_;rintro e w' ⟨rfl,rfl⟩);have hk0:(0:Int)≤(k:Int):=Int.natCast_nonneg _;have hk64:(k:Int)<64:=by omega
      go_quiet (fail);go_wp2_with (go_at_call 186;refine(turn_any _ _ _ (by omega) (by omega) (by omega) (by omega)).mono ?_;rintro e w' ⟨rfl,rfl⟩);refine⟨⟨k+1,by omega,by go_num,?_,?_,?_,?_,?_,?_,?_,?_,below_drewN hblr _⟩,by simp [intOf];omega⟩<;>(rw [hst.out];rfl)
    · obtain rfl:k=64:=by omega
      have e0:=(hblr.cell (p:=⟨gh,0,none⟩) (by have:=hbl.size;simp;omega)).trans h0;have e1:=(hblr.cell (p:=⟨gh,1,none⟩) (by have:=hbl.size;simp;omega)).trans h1;have e2:=(hblr.cell (p:=⟨gh,2,none⟩) (by have:=hbl.size;simp;omega)).trans h2;have e3:=(hblr.cell (p:=⟨gh,3,none⟩) (by have:=hbl.size;simp;omega)).trans h3;have e4:=(hblr.cell (p:=⟨gh,4,none⟩) (by have:=hbl.size;simp;omega)).trans h4;have e5:=(hblr.cell (p:=⟨gh,5,none⟩) (by have:=hbl.size;simp;omega)).trans h5;have e6:=(hblr.cell (p:=⟨gh,6,none⟩) (by have:=hbl.size;simp;omega)).trans h6;have e7:=(hblr.cell (p:=⟨gh,7,none⟩) (by have:=hbl.size;simp;omega)).trans h7;clear h0 h1 h2 h3 h4 h5 h6 h7;have hsz:w.heap.size≤wr.heap.size:=Nat.le_trans hbl.size hblr.size;have hB:Bl w wr:=hbl.tr hblr;clear hblr hbl hown hok hlt;go_wp2
      go_region_held3 (fun w'=>w'.cell? ⟨gh,0,none⟩=some (.int .u32 (lk h 0))∧w'.cell? ⟨gh,1,none⟩=some (.int .u32 (lk h 1))∧w'.cell? ⟨gh,2,none⟩=some (.int .u32 (lk h 2))∧w'.cell? ⟨gh,3,none⟩=some (.int .u32 (lk h 3))∧w'.cell? ⟨gh,4,none⟩=some (.int .u32 (lk h 4))∧w'.cell? ⟨gh,5,none⟩=some (.int .u32 (lk h 5))∧w'.cell? ⟨gh,6,none⟩=some (.int .u32 (lk h 6))∧w'.cell? ⟨gh,7,none⟩=some (.int .u32 (lk h 7))) (go_keep) (fail)
      go_wp2;go_ret;refine⟨wr.heap.size,rfl,?_,?_⟩
      · exact(World.ownsRow_lit wr _ 8 hsz (by decide) rfl).drew
      · exact(hB.alloc hsz _).drew
end
def lenV:Value→Nat
  | .slice _ n _=>n
  |_=>0
theorem padS_any (s:ByteArray)(w:World)(hs:s.size≤1073741824):
    Calls prog 153 #[.string s] w fun e w'=>∃g' n' cap',e= .returned (.slice (some ⟨g',0,none⟩) n' cap')∧
      Row w' w.heap.size g' n' cap' ((padF (byt s)).map (Value.int .u8))∧Bl w w':=by
  obtain⟨i0,hi,hz0,hz1,hz2⟩:=info_parts infoU8
  obtain⟨cap0,w1,hcv,hrow,hbl⟩:∃cap0 w1,(convert 9 35 (.string s)).run prog w= .ok (.slice (some ⟨w.heap.size,0,none⟩) s.size cap0) w1∧
      Row w1 w.heap.size w.heap.size s.size cap0 ((byt s).map (Value.int .u8))∧Bl w w1:=
    ⟨_,_,Lib.run_convert_string_bytes w 9 35 5 s underlying9 underlying35 underlying5,row_bytes w _ s w.heap.size (Nat.le_refl _) (by unfold maxLen;omega)⟩
  have hsz1:w.heap.size≤w1.heap.size:=hbl.size;go_enter func153,ntmps153
  go_wp2_with (first
    |(at_builtin;refine wpList_append_row rfl _ _ 35 rfl w.heap.size 5 i0 (.int .u8 0) 1 underlying35 hi hz0 hz1 hz2 rfl w.heap.size s.size cap0 ((byt s).map (Value.int .u8)) rfl (hrow.alloc _) ⟨w1.heap.size,0,none⟩ 1 1 [.int .u8 128] rfl rfl (World.news_of_block (cs:=#[.int .u8 128]) (heap_alloc_new w1 _)) (by simp [Value.oneCell']) (by unfold maxLen;omega) (by omega) (by simp;omega) _ rfl ?_;intro g2 cap2 w2 hrow2 hgr2 _ _)
    |go_in)
  have hbl2:Bl w w2:=(hbl.alloc hsz1 _).grown hgr2 (by simp;omega) (fun r hr=>by simp at hr;omega);clear hrow hbl hgr2 hcv hsz1
  go_loopw [3] (fun v wr=>∃z g cap:Nat,z≤zeros s.size∧v= .slice (some ⟨g,0,none⟩) (s.size+1+z) cap∧Row wr w.heap.size g (s.size+1+z) cap ((byt s++ [128]++List.replicate z 0).map (Value.int .u8))∧Bl w wr) (fun v _=>s.size+1+zeros s.size-lenV v)
  case atStart=>exact ⟨0,g2,cap2,Nat.zero_le _,rfl,by simpa using hrow2,hbl2⟩
  case round=>
    clear hrow2 hbl2;obtain⟨z,g,cap,hz,rfl,hrow,hbl⟩:=hrel;have hsz1:w.heap.size≤wr.heap.size:=hbl.size;have hzl:zeros s.size<64:=Nat.mod_lt _ (by omega);by_cases hlt:z<zeros s.size
    · have ht:(((s.size:Int)+1+(z:Int))%64 !=56)=true:=by
        rw [bne_iff_ne];unfold zeros at hlt;omega
      go_wp2_with (first
        |(at_builtin;refine wpList_append_row rfl _ _ 35 rfl w.heap.size 5 i0 (.int .u8 0) 1 underlying35 hi hz0 hz1 hz2 rfl g (s.size+1+z) cap ((byt s++ [128]++List.replicate z 0).map (Value.int .u8)) rfl (hrow.alloc _) ⟨wr.heap.size,0,none⟩ 1 1 [.int .u8 0] rfl rfl (World.news_of_block (cs:=#[.int .u8 0]) (heap_alloc_new wr _)) (by simp [Value.oneCell']) (by unfold maxLen;omega) (by omega) (by simp;omega) _ rfl ?_;intro g3 cap3 w3 hrow3 hgr3 _ _)
        |go_in)
      go_roundw
      case rel=>
        have R1:Row w3 w.heap.size g3 (s.size+1+(z+1)) cap3 ((byt s++ [128]++List.replicate (z+1) 0).map (Value.int .u8)):=by
          rw [List.replicate_succ',←List.append_assoc,List.map_append,←Nat.add_assoc];exact hrow3
        have R2:Bl w w3:=(hbl.alloc hsz1 _).grown hgr3 (by simp;omega) (fun r hr=>by simp at hr;have:=hrow.lo;omega)
        first
          |exact ⟨z+1,g3,cap3,by omega,rfl,R1,R2⟩
          |((repeat apply Exists.intro);exact⟨⟨z+1,g3,cap3,by omega,rfl,R1,R2⟩,rfl⟩)
      case measure=>simp [lenV];omega
    · obtain rfl:z=zeros s.size:=by omega
      have ht:(((s.size:Int)+1+(zeros s.size:Int))%64 !=56)=false:=by
        rw [bne_eq_false_iff_eq];unfold zeros;omega
      have hN:0≤(s.size:Int)*8∧(s.size:Int)*8≤8589934592:=by omega
      go_wp2;clear hz hlt ht
      go_loopw [3,5] (fun v i wr=>∃j g cap:Nat,j≤8∧i= .int .i64 (7-(j:Int))∧v= .slice (some ⟨g,0,none⟩) (s.size+1+zeros s.size+j) cap∧Row wr w.heap.size g (s.size+1+zeros s.size+j) cap ((byt s++ [128]++List.replicate (zeros s.size) 0++(be8 (s.size*8)).take j).map (Value.int .u8))∧Bl w wr) (fun _ i _=>(intOf i+1).toNat)
      case atStart=>exact ⟨0,g,cap,by omega,rfl,rfl,by simpa using hrow,hbl⟩
      case round=>
        clear hrow hbl hsz1;obtain⟨j,g1,cap1,hj,rfl,rfl,hrow,hbl⟩:=hrel;have hsz1:w.heap.size≤wr.heap.size:=hbl.size;by_cases hlt:j<8
        · have hg0:(0:Int)≤7-(j:Int):=by omega
          go_wp2_with (first
            |(at_builtin;refine wpList_append_row rfl _ _ 35 rfl w.heap.size 5 i0 (.int .u8 0) 1 underlying35 hi hz0 hz1 hz2 rfl g1 (s.size+1+zeros s.size+j) cap1 ((byt s++ [128]++List.replicate (zeros s.size) 0++(be8 (s.size*8)).take j).map (Value.int .u8)) rfl (hrow.alloc _) ⟨wr.heap.size,0,none⟩ 1 1 [.int .u8 (beAt (s.size*8) j)] rfl rfl (World.news_of_block (cs:=#[.int .u8 (beAt (s.size*8) j)]) (heap_alloc_new wr _)) (by simp [Value.oneCell']) (by unfold maxLen;omega) (by omega) (by simp;omega) _ rfl ?_;intro g3 cap3 w3 hrow3 hgr3 _ _)
            |go_in)
          go_roundw
          case rel=>
            have R1:Row w3 w.heap.size g3 (s.size+1+zeros s.size+(j+1)) cap3 ((byt s++ [128]++List.replicate (zeros s.size) 0++(be8 (s.size*8)).take (j+1)).map (Value.int .u8)):=by
              rw [be8_take _ j hlt,←List.append_assoc,List.map_append,←Nat.add_assoc];exact hrow3
            have R2:Bl w w3:=(hbl.alloc hsz1 _).grown hgr3 (by simp;omega) (fun r hr=>by simp at hr;have:=hrow.lo;omega);have R3:Value.int .i64 (7-(j:Int)-1)=Value.int .i64 (7-((j+1:Nat):Int)):=by congr 1;omega
            first
              |exact ⟨j+1,g3,cap3,by omega,R3,rfl,R1,R2⟩
              |((repeat apply Exists.intro);exact⟨⟨j+1,g3,cap3,by omega,R3,rfl,R1,R2⟩,rfl⟩)
          case measure=>simp [intOf];omega
        · obtain rfl:j=8:=by omega
          go_wp2;go_ret;exact⟨g1,_,cap1,rfl,by rw [padF_byt];exact hrow,hbl⟩
end Go.Proofs.YtjhbckngdclleaaGreatDoor
