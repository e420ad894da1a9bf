import Derived.Test.YtjhbckngdclleaaGreatDoorMrg9
set_option linter.unusedVariables false
set_option maxRecDepth 100000
set_option maxHeartbeats 16000000
namespace Go.Proofs.YtjhbckngdclleaaGreatDoor
open Go.Proofs.Tryz Go.RowKit
open Go.Value (int)
open Go.IntKind (u64)
section
attribute [local go_sem ↓] Go.wp_at_zero Go.wp_at_succ
theorem blockS_any (gh ch gk ck g cap n:Nat)(h ks m:List Int)(fr:Nat)(w:World)
    (hh:∀i,i<8→w.cell? ⟨gh,i,none⟩=some (.int .u32 (lk h i)))(hhb:(stOf h).ok)(hgh:gh<w.heap.size)
    (hks:∀i,i<64→w.cell? ⟨gk,i,none⟩=some (.int .u32 (lk ks i)))(hgk:gk<w.heap.size)
    (hm:∀i,i<n→w.cell? ⟨g,i,none⟩=some (.int .u8 (lk m i)))
    (hb:∀i,0≤lk m i∧lk m i<256)(hn:n≤1099511627776)(hf:fr+64≤n)(hg:g<w.heap.size):
    Calls prog 154 #[.slice (some ⟨gh,0,none⟩) 8 ch,.slice (some ⟨gk,0,none⟩) 64 ck,.slice (some ⟨g,0,none⟩) n cap,.int .i64 fr] w fun e w'=>
      ∃g',e= .returned (.slice (some ⟨g',0,none⟩) 8 8)∧
      w'.ownsRow w.heap.size 177 1 (.slice (some ⟨g',0,none⟩) 8 8) 8 ((blockF ks h (wsTo m fr 64)).map (Value.int .u32))∧Bl w w':=by
  obtain⟨i0,hi,hz0,hz1,hz2⟩:=info_parts infoU32;go_enter func154,ntmps154;go_wp2_with fail;refine(schedS_any g cap n m fr w hm hb hn hf hg).mono ?_;rintro e w1 ⟨gw,cw,rfl,hown,hbl⟩;have hlt:=hown.lt gw rfl;have h0:=(hbl.cell (p:=⟨gh,0,none⟩) hgh).trans (hh 0 (by omega));have h1:=(hbl.cell (p:=⟨gh,1,none⟩) hgh).trans (hh 1 (by omega));have h2:=(hbl.cell (p:=⟨gh,2,none⟩) hgh).trans (hh 2 (by omega));have h3:=(hbl.cell (p:=⟨gh,3,none⟩) hgh).trans (hh 3 (by omega));have h4:=(hbl.cell (p:=⟨gh,4,none⟩) hgh).trans (hh 4 (by omega));have h5:=(hbl.cell (p:=⟨gh,5,none⟩) hgh).trans (hh 5 (by omega));have h6:=(hbl.cell (p:=⟨gh,6,none⟩) hgh).trans (hh 6 (by omega));have h7:=(hbl.cell (p:=⟨gh,7,none⟩) hgh).trans (hh 7 (by omega));go_wp2
  go_loopw [10,11,12,13,14,15,16,17,18] (fun a b c d e f g z i wr=>∃k:Nat,k≤64∧i= .int .i64 k∧a= .int .u32 (rndTo (stOf h) ks (wsTo m fr 64) k).a∧b= .int .u32 (rndTo (stOf h) ks (wsTo m fr 64) k).b∧c= .int .u32 (rndTo (stOf h) ks (wsTo m fr 64) k).c∧d= .int .u32 (rndTo (stOf h) ks (wsTo m fr 64) k).d∧e= .int .u32 (rndTo (stOf h) ks (wsTo m fr 64) k).e∧f= .int .u32 (rndTo (stOf h) ks (wsTo m fr 64) k).f∧g= .int .u32 (rndTo (stOf h) ks (wsTo m fr 64) k).g∧z= .int .u32 (rndTo (stOf h) ks (wsTo m fr 64) k).z∧Bl w1 wr) (fun _ _ _ _ _ _ _ _ i _=>64-(intOf i).toNat)
  case atStart=>exact ⟨0,by omega,rfl,rfl,rfl,rfl,rfl,rfl,rfl,rfl,rfl,Below.refl _ _⟩
  case round=>
    obtain⟨k,hk,rfl,rfl,rfl,rfl,rfl,rfl,rfl,rfl,rfl,hblr⟩:=hrel;have hok:=rndTo_ok (stOf h) ks (wsTo m fr 64) hhb k;by_cases hlt2:k<64
    · have hst:Hid (rndTo (stOf h) ks (wsTo m fr 64) (k+1)=rnd (rndTo (stOf h) ks (wsTo m fr 64) k) (lk ks k) (lk (wsTo m fr 64) k)):=rfl;have hck:=(hblr.cell (p:=⟨gk,k,none⟩) (by have:=hbl.size;simp;omega)).trans ((hbl.cell (p:=⟨gk,k,none⟩) hgk).trans (hks k hlt2));have hcw:=(hblr.cell (p:=⟨gw,k,none⟩) (by simp;omega)).trans (own_cell hown k hlt2);generalize rndTo (stOf h) ks (wsTo m fr 64) k=s at*;obtain⟨a,b,c,d,e,f,g',z⟩:=s;obtain⟨⟨oa,oa'⟩,⟨ob,ob'⟩,⟨oc,oc'⟩,⟨od,od'⟩,⟨oe,oe'⟩,⟨of,of'⟩,⟨og,og'⟩,⟨oz,oz'⟩⟩:=hok;dsimp only at oa oa' ob ob' oc oc' od od' oe oe' of of' og og' oz oz';go_wp2_with (go_at_call 186;refine(turn_any _ _ _ (by omega) (by omega) (by omega) (by omega)).mono ?_;rintro e w' ⟨rfl,rfl⟩);have hk0:(0:Int)≤(k:Int):=Int.natCast_nonneg _;have hk64:(k:Int)<64:=by omega
      go_quiet (fail);go_wp2_with (go_at_call 186;refine(turn_any _ _ _ (by omega) (by omega) (by omega) (by omega)).mono ?_;rintro e w' ⟨rfl,rfl⟩);refine⟨⟨k+1,by omega,by go_num,?_,?_,?_,?_,?_,?_,?_,?_,below_drewN hblr _⟩,by simp [intOf];omega⟩<;>(rw [hst.out];rfl)
    · obtain rfl:k=64:=by omega
      have e0:=(hblr.cell (p:=⟨gh,0,none⟩) (by have:=hbl.size;simp;omega)).trans h0;have e1:=(hblr.cell (p:=⟨gh,1,none⟩) (by have:=hbl.size;simp;omega)).trans h1;have e2:=(hblr.cell (p:=⟨gh,2,none⟩) (by have:=hbl.size;simp;omega)).trans h2;have e3:=(hblr.cell (p:=⟨gh,3,none⟩) (by have:=hbl.size;simp;omega)).trans h3;have e4:=(hblr.cell (p:=⟨gh,4,none⟩) (by have:=hbl.size;simp;omega)).trans h4;have e5:=(hblr.cell (p:=⟨gh,5,none⟩) (by have:=hbl.size;simp;omega)).trans h5;have e6:=(hblr.cell (p:=⟨gh,6,none⟩) (by have:=hbl.size;simp;omega)).trans h6;have e7:=(hblr.cell (p:=⟨gh,7,none⟩) (by have:=hbl.size;simp;omega)).trans h7;clear h0 h1 h2 h3 h4 h5 h6 h7;have hsz:w.heap.size≤wr.heap.size:=Nat.le_trans hbl.size hblr.size;have hB:Bl w wr:=hbl.tr hblr;clear hblr hbl hown hok hlt;go_wp2
      go_region_held3 (fun w'=>w'.cell? ⟨gh,0,none⟩=some (.int .u32 (lk h 0))∧w'.cell? ⟨gh,1,none⟩=some (.int .u32 (lk h 1))∧w'.cell? ⟨gh,2,none⟩=some (.int .u32 (lk h 2))∧w'.cell? ⟨gh,3,none⟩=some (.int .u32 (lk h 3))∧w'.cell? ⟨gh,4,none⟩=some (.int .u32 (lk h 4))∧w'.cell? ⟨gh,5,none⟩=some (.int .u32 (lk h 5))∧w'.cell? ⟨gh,6,none⟩=some (.int .u32 (lk h 6))∧w'.cell? ⟨gh,7,none⟩=some (.int .u32 (lk h 7))) (go_keep) (fail)
      go_wp2;go_ret;refine⟨wr.heap.size,rfl,?_,?_⟩
      · exact(World.ownsRow_lit wr _ 8 hsz (by decide) rfl).drew
      · exact(hB.alloc hsz _).drew
end
def lenV:Value→Nat
  | .slice _ n _=>n
  |_=>0
theorem padS_any (s:ByteArray)(w:World)(hs:s.size≤1073741824):
    Calls prog 153 #[.string s] w fun e w'=>∃g' n' cap',e= .returned (.slice (some ⟨g',0,none⟩) n' cap')∧
      Row w' w.heap.size g' n' cap' ((padF (byt s)).map (Value.int .u8))∧Bl w w':=by
  obtain⟨i0,hi,hz0,hz1,hz2⟩:=info_parts infoU8
  obtain⟨cap0,w1,hcv,hrow,hbl⟩:∃cap0 w1,(convert 9 35 (.string s)).run prog w= .ok (.slice (some ⟨w.heap.size,0,none⟩) s.size cap0) w1∧
      Row w1 w.heap.size w.heap.size s.size cap0 ((byt s).map (Value.int .u8))∧Bl w w1:=
    ⟨_,_,Lib.run_convert_string_bytes w 9 35 5 s underlying9 underlying35 underlying5,row_bytes w _ s w.heap.size (Nat.le_refl _) (by unfold maxLen;omega)⟩
  have hsz1:w.heap.size≤w1.heap.size:=hbl.size;go_enter func153,ntmps153
  go_wp2_with (first
    |(at_builtin;refine wpList_append_row rfl _ _ 35 rfl w.heap.size 5 i0 (.int .u8 0) 1 underlying35 hi hz0 hz1 hz2 rfl w.heap.size s.size cap0 ((byt s).map (Value.int .u8)) rfl (hrow.alloc _) ⟨w1.heap.size,0,none⟩ 1 1 [.int .u8 128] rfl rfl (World.news_of_block (cs:=#[.int .u8 128]) (heap_alloc_new w1 _)) (by simp [Value.oneCell']) (by unfold maxLen;omega) (by omega) (by simp;omega) _ rfl ?_;intro g2 cap2 w2 hrow2 hgr2 _ _)
    |go_in)
  have hbl2:Bl w w2:=(hbl.alloc hsz1 _).grown hgr2 (by simp;omega) (fun r hr=>by simp at hr;omega);clear hrow hbl hgr2 hcv hsz1
  go_loopw [3] (fun v wr=>∃z g cap:Nat,z≤zeros s.size∧v= .slice (some ⟨g,0,none⟩) (s.size+1+z) cap∧Row wr w.heap.size g (s.size+1+z) cap ((byt s++ [128]++List.replicate z 0).map (Value.int .u8))∧Bl w wr) (fun v _=>s.size+1+zeros s.size-lenV v)
  case atStart=>exact ⟨0,g2,cap2,Nat.zero_le _,rfl,by simpa using hrow2,hbl2⟩
  case round=>
    clear hrow2 hbl2;obtain⟨z,g,cap,hz,rfl,hrow,hbl⟩:=hrel;have hsz1:w.heap.size≤wr.heap.size:=hbl.size;have hzl:zeros s.size<64:=Nat.mod_lt _ (by omega);by_cases hlt:z<zeros s.size
    · have ht:(((s.size:Int)+1+(z:Int))%64 !=56)=true:=by
        rw [bne_iff_ne];unfold zeros at hlt;omega
      go_wp2_with (first
        |(at_builtin;refine wpList_append_row rfl _ _ 35 rfl w.heap.size 5 i0 (.int .u8 0) 1 underlying35 hi hz0 hz1 hz2 rfl g (s.size+1+z) cap ((byt s++ [128]++List.replicate z 0).map (Value.int .u8)) rfl (hrow.alloc _) ⟨wr.heap.size,0,none⟩ 1 1 [.int .u8 0] rfl rfl (World.news_of_block (cs:=#[.int .u8 0]) (heap_alloc_new wr _)) (by simp [Value.oneCell']) (by unfold maxLen;omega) (by omega) (by simp;omega) _ rfl ?_;intro g3 cap3 w3 hrow3 hgr3 _ _)
        |go_in)
      go_roundw
      case rel=>
        have R1:Row w3 w.heap.size g3 (s.size+1+(z+1)) cap3 ((byt s++ [128]++List.replicate (z+1) 0).map (Value.int .u8)):=by
          rw [List.replicate_succ',←List.append_assoc,List.map_append,←Nat.add_assoc];exact hrow3
        have R2:Bl w w3:=(hbl.alloc hsz1 _).grown hgr3 (by simp;omega) (fun r hr=>by simp at hr;have:=hrow.lo;omega)
        first
          |exact ⟨z+1,g3,cap3,by omega,rfl,R1,R2⟩
          |((repeat apply Exists.intro);exact⟨⟨z+1,g3,cap3,by omega,rfl,R1,R2⟩,rfl⟩)
      case measure=>simp [lenV];omega
    · obtain rfl:z=zeros s.size:=by omega
      have ht:(((s.size:Int)+1+(zeros s.size:Int))%64 !=56)=false:=by
        rw [bne_eq_false_iff_eq];unfold zeros;omega
      have hN:0≤(s.size:Int)*8∧(s.size:Int)*8≤8589934592:=by omega
      go_wp2;clear hz hlt ht
      go_loopw [3,5] (fun v i wr=>∃j g cap:Nat,j≤8∧i= .int .i64 (7-(j:Int))∧v= .slice (some ⟨g,0,none⟩) (s.size+1+zeros s.size+j) cap∧Row wr w.heap.size g (s.size+1+zeros s.size+j) cap ((byt s++ [128]++List.replicate (zeros s.size) 0++(be8 (s.size*8)).take j).map (Value.int .u8))∧Bl w wr) (fun _ i _=>(intOf i+1).toNat)
      case atStart=>exact ⟨0,g,cap,by omega,rfl,rfl,by simpa using hrow,hbl⟩
      case round=>
        clear hrow hbl hsz1;obtain⟨j,g1,cap1,hj,rfl,rfl,hrow,hbl⟩:=hrel;have hsz1:w.heap.size≤wr.heap.size:=hbl.size;by_cases hlt:j<8
        · have hg0:(0:Int)≤7-(j:Int):=by omega
          go_wp2_with (first
            |(at_builtin;refine wpList_append_row rfl _ _ 35 rfl w.heap.size 5 i0 (.int .u8 0) 1 underlying35 hi hz0 hz1 hz2 rfl g1 (s.size+1+zeros s.size+j) cap1 ((byt s++ [128]++List.replicate (zeros s.size) 0++(be8 (s.size*8)).take j).map (Value.int .u8)) rfl (hrow.alloc _) ⟨wr.heap.size,0,none⟩ 1 1 [.int .u8 (beAt (s.size*8) j)] rfl rfl (World.news_of_block (cs:=#[.int .u8 (beAt (s.size*8) j)]) (heap_alloc_new wr _)) (by simp [Value.oneCell']) (by unfold maxLen;omega) (by omega) (by simp;omega) _ rfl ?_;intro g3 cap3 w3 hrow3 hgr3 _ _)
            |go_in)
          go_roundw
          case rel=>
            have R1:Row w3 w.heap.size g3 (s.size+1+zeros s.size+(j+1)) cap3 ((byt s++ [128]++List.replicate (zeros s.size) 0++(be8 (s.size*8)).take (j+1)).map (Value.int .u8)):=by
              rw [be8_take _ j hlt,←List.append_assoc,List.map_append,←Nat.add_assoc];exact hrow3
            have R2:Bl w w3:=(hbl.alloc hsz1 _).grown hgr3 (by simp;omega) (fun r hr=>by simp at hr;have:=hrow.lo;omega);have R3:Value.int .i64 (7-(j:Int)-1)=Value.int .i64 (7-((j+1:Nat):Int)):=by congr 1;omega
            first
              |exact ⟨j+1,g3,cap3,by omega,R3,rfl,R1,R2⟩
              |((repeat apply Exists.intro);exact⟨⟨j+1,g3,cap3,by omega,R3,rfl,R1,R2⟩,rfl⟩)
          case measure=>simp [intOf];omega
        · obtain rfl:j=8:=by omega
          go_wp2;go_ret;exact⟨g1,_,cap1,rfl,by rw [padF_byt];exact hrow,hbl⟩
theorem tableS_any (w:World):
    Calls prog 152 #[] w fun e w'=>∃g',e= .returned (.slice (some ⟨g',0,none⟩) 64 64)∧
      w'.ownsRow w.heap.size 177 1 (.slice (some ⟨g',0,none⟩) 64 64) 64 (kTab.map (Value.int .u32))∧Bl w w':=by
  go_enter func152,ntmps152;go_wp2;go_ret;exact⟨w.heap.size,rfl,World.ownsRow_lit w _ 64 (Nat.le_refl _) (by decide) rfl,(Below.refl _ _).alloc (Nat.le_refl _) _⟩
section
attribute [local go_sem ↓] Go.wp_at_zero Go.wp_at_succ
theorem shaS_any (s:ByteArray)(w:World)(hs:s.size≤1073741824):
    Cr 99 #[.string s] w (.string (strOfNums (shaF (byt s)))):=by
  obtain⟨i0,hi,hz0,hz1,hz2⟩:=info_parts infoU8;go_enter func99,ntmps99;go_wp2_with fail;generalize hW1:w.alloc _=W1;have hb1:Bl w W1:=by rw [←hW1];exact(Below.refl _ _).alloc (Nat.le_refl _) _
  have hs1:W1.heap.size=w.heap.size+1:=by rw [←hW1];simp
  have hc1:∀i,i<8→W1.cell? ⟨w.heap.size,i,none⟩=some (.int .u32 (lk h0L i)):=by
    intro i hi8;rw [←hW1,cell_of_row _ _ _ _ _ _ (heap_alloc_new w _)]
    match i,hi8 with
    |0,_=>rfl
    |1,_=>rfl
    |2,_=>rfl
    |3,_=>rfl
    |4,_=>rfl
    |5,_=>rfl
    |6,_=>rfl
    |7,_=>rfl
  clear hW1;refine(tableS_any _).mono ?_;rintro e W2 ⟨gk,rfl,hownK,hb2⟩;have hs2:=hb2.size;go_wp2_with fail;refine(padS_any s W2 hs).mono ?_;rintro e W3 ⟨g,n,cap,rfl,hrow,hb3⟩;have hs3:=hb3.size;have hlk:=hownK.lt gk rfl;have hlen:=hrow.len;rw [List.length_map,padF_length,byt_length] at hlen;have hzl:zeros s.size<64:=Nat.mod_lt _ (by omega);have hmod:=padF_mod (byt s);rw [padF_length,byt_length,hlen] at hmod;have hpb:=lk_lt (padF_lt (byt_lt s));have hgl:=hrow.lo;have hgh:=hrow.hi;have hcK:∀i,i<64→W3.cell? ⟨gk,i,none⟩=some (.int .u32 (lk kTab i)):=fun i hi64=>(hb3.cell (p:=⟨gk,i,none⟩) hlk.2).trans (own_cell hownK i hi64)
  have hcm:∀i,i<n→W3.cell? ⟨g,i,none⟩=some (.int .u8 (lk (padF (byt s)) i)):=fun i hin=>hrow.cell i hin
  have hc3:∀i,i<8→W3.cell? ⟨w.heap.size,i,none⟩=some (.int .u32 (lk h0L i)):=fun i h8=>(hb3.cell (p:=⟨w.heap.size,i,none⟩) (by simp;omega)).trans ((hb2.cell (p:=⟨w.heap.size,i,none⟩) (by simp;omega)).trans (hc1 i h8))
  have hbw:Bl w W3:=(hb1.trans (hb2.mono (by omega))).trans (hb3.mono (by omega));clear hownK hrow hb1 hb2 hb3 hc1;go_wp2_with fail
  go_loopw [3,6] (fun v i wr=>∃k p gh:Nat,Hid (p=64*k)∧p≤n∧i= .int .i64 p∧v= .slice (some ⟨gh,0,none⟩) 8 8∧gh<wr.heap.size∧(∀i,i<8→wr.cell? ⟨gh,i,none⟩=some (.int .u32 (lk (stateTo (padF (byt s)) k) i)))∧Bl W3 wr) (fun _ i _=>n-(intOf i).toNat)
  case atStart=>exact ⟨0,0,w.heap.size,rfl,by omega,rfl,rfl,by omega,hc3,Below.refl _ _⟩
  case round=>
    clear hc3;obtain⟨k,p,gh,hp,hpn,rfl,rfl,hghr,hch,hbr⟩:=hrel;have hsr:=hbr.size;have hpn2:p<n→p+64≤n:=by have:=hp.out;omega
    by_cases hlt:p<n
    · go_wp2_with fail;refine(blockS_any gh 8 gk 64 g cap n (stateTo (padF (byt s)) k) kTab (padF (byt s)) p wr hch (stateTo_ok _ k) hghr (fun i h64=>(hbr.cell (p:=⟨gk,i,none⟩) (by simp;omega)).trans (hcK i h64)) (by omega) (fun i hin=>(hbr.cell (p:=⟨g,i,none⟩) hgh).trans (hcm i hin)) hpb (by omega) (hpn2 hlt) (by omega)).mono ?_;rintro e w4 ⟨g4,rfl,hown4,hb4⟩;have hl4:=hown4.lt g4 rfl;have hs4:=hb4.size;go_wp2;go_roundw
      case rel=>
        have R1:∀i,i<8→w4.cell? ⟨g4,i,none⟩=some (.int .u32 (lk (stateTo (padF (byt s)) (k+1)) i)):=fun i h8=>by
          rw [own_cell hown4 i h8,stateTo,hp.out]
        have R2:Bl W3 w4:=hbr.trans (hb4.mono (by omega));have R3:Hid (p+64=64*(k+1)):=by have:=hp.out;simp only [Hid];omega
        first
          |exact ⟨k+1,p+64,g4,R3,hpn2 hlt,by go_num,rfl,hl4.2,R1,R2⟩
          |((repeat apply Exists.intro);exact⟨⟨k+1,p+64,g4,R3,hpn2 hlt,by go_num,rfl,hl4.2,R1,R2⟩,rfl⟩)
      case measure=>simp [intOf];omega
    · have hkn:k=(padF (byt s)).length/64:=by rw [padF_length,byt_length];have:=hp.out;omega
      have hch':∀i,i<8→wr.cell? ⟨gh,i,none⟩=some (.int .u32 (lk (stateTo (padF (byt s)) ((padF (byt s)).length/64)) i)):=by rw [←hkn];exact hch
      have hok:=stateTo_ok (padF (byt s)) ((padF (byt s)).length/64);have hsh:Hid (shaF (byt s)=digTo (stateTo (padF (byt s)) ((padF (byt s)).length/64)) 8):=rfl;clear hch hkn hcm hcK;generalize stateTo (padF (byt s)) ((padF (byt s)).length/64)=H at*
      have hw32:∀i,i<8→0≤lk H i∧lk H i<4294967296:=by
        obtain⟨o1,o2,o3,o4,o5,o6,o7,o8⟩:=hok;intro i h8
        match i,h8 with
        |0,_=>exact o1
        |1,_=>exact o2
        |2,_=>exact o3
        |3,_=>exact o4
        |4,_=>exact o5
        |5,_=>exact o6
        |6,_=>exact o7
        |7,_=>exact o8
      clear hok;go_wp2;generalize wr=WA at*
      go_loopw [7,8] (fun v i w5=>∃k gq cq:Nat,k≤8∧i= .int .i64 k∧v= .slice (some ⟨gq,0,none⟩) (4*k) cq∧Row w5 WA.heap.size gq (4*k) cq ((digTo H k).map (Value.int .u8))∧Bl WA w5) (fun _ i _=>8-(intOf i).toNat)
      case atStart=>exact ⟨0,WA.heap.size,0,by omega,rfl,rfl,Row.of_block (n:=0) (cs:=#[]) (heap_alloc_new WA _) (Nat.le_refl _) (by simp) (by simp),(Below.refl _ _).alloc (Nat.le_refl _) _⟩
      case round=>
        obtain⟨k2,gq,cq,hk,rfl,rfl,hrow,hbr2⟩:=hrel;have hsz2:=hbr2.size;by_cases hlt2:k2<8
        · have hc:=(hbr2.cell (p:=⟨gh,k2,none⟩) hghr).trans (hch' k2 hlt2);have hx:=hw32 k2 hlt2;have q0:(0:Int)≤(k2:Int):=Int.natCast_nonneg _;have q1:(k2:Int)<8:=by omega
          have hng:gh≠gq:=by have:=hrow.lo;omega
          have hnw:gh≠wr.heap.size:=by omega
          have hdl:=digTo_length H k2;clear hlt;go_wp2
          go_region_held3 (fun w'=>w'.cell? ⟨gh,k2,none⟩=some (.int .u32 (lk H k2)))
            (first
              |go_keep
              |(rw [hgrow.cell_far _ (by simp;omega) (by simp;omega)];assumption))
            ((refine step_append_row (by rfl) _ _ _ (by rfl) WA.heap.size 5 i0 _ 1 underlying35 hi hz0 hz1 hz2 rfl gq (4*k2) cq ((digTo H k2).map (Value.int .u8)) (by rfl) ((hrow.alloc _).drew)
                ⟨wr.heap.size,0,none⟩ 4 4 ((be4 (lk H k2)).map (Value.int .u8)) (by rfl) (by rfl) (World.news_of_block (cs:=((be4 (lk H k2)).map (Value.int .u8)).toArray) (t:=5) (fr:=(0,0)) (heap_alloc_new wr _)) (by simp [Value.oneCell',be4])
                (by unfold maxLen;omega) (by omega) (by simp;omega) (wr.heap.size+1) (by simp) ?_;intro gg cap w1 hrow1 hgrow hat hkeep))
          go_wp2;go_roundw
          case rel=>
            have R1:Row w1 WA.heap.size gg (4*(k2+1)) cap ((digTo H (k2+1)).map (Value.int .u8)):=by
              rw [digTo,List.map_append,Nat.mul_add];exact hrow1
            have R2:Bl WA w1:=(((hbr2.alloc hsz2 _).drew).grown hgrow (by simp;omega) (fun r hr=>by simp at hr;have:=hrow.lo;omega))
            first
              |exact ⟨k2+1,gg,cap,by omega,by go_num,rfl,R1,R2⟩
              |((repeat apply Exists.intro);exact⟨⟨k2+1,gg,cap,by omega,by go_num,rfl,R1,R2⟩,rfl⟩)
          case measure=>simp [intOf];omega
        · obtain rfl:k2=8:=by omega
          have hcv:=run_convert_bytes_arg (P:=prog) wr 35 5 underlying35 underlying5 gq 0 (4*8) cq (digTo H 8) (digTo_length H 8) (fun i h=>by rw [Nat.zero_add];exact hrow.cell i h) 9 underlying9;go_wp2;go_ret;exact⟨by rw [hsh.out];rfl,hbw.trans ((hbr.trans (hbr2.mono hsr)).mono (by omega))⟩
end
end Go.Proofs.YtjhbckngdclleaaGreatDoor
