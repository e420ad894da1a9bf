import Derived.Test.YtijmldjijnpnoaaDoorMrg2
set_option linter.unusedVariables false
set_option maxRecDepth 100000
set_option maxHeartbeats 16000000
namespace Go.Proofs.YtijmldjijnpnoaaDoor
open Go.Proofs.Tryd Go.RowKit
open Go.Value (int)
open Go.IntKind (u64)
section
attribute [local go_sem ↓] Go.wp_at_zero Go.wp_at_succ
def mesF:Option Value→Nat
  |some (.int _ f)=>((120-f)%64).toNat
  |_=>0
theorem str_append (l r:List Int):strOfNums l++strOfNums r=strOfNums (l++r):=by
  apply ByteArray.ext;simp [strOfNums]
theorem RH_filled {w:World}{b n k:Nat}{t:List Int}{z:Int}(hR:RH w b 0 t z)(hL:t.length=n+1+k):w.cell? ⟨b,72,none⟩=some (.int .i64 (((n:Int)+1+(k:Int))%64)):=by
  obtain⟨blk,_,_,_,hC⟩:=hR;have:=hC.filled;rw [hL,Nat.zero_add] at this;rw [this];congr 2
theorem sumI_any (b o:Nat)(t:List Int)(w:World)(hR:RH w b o t (t.length:Int))(hT:TabK w)(hlen:t.length≤1000000000000)(htb:∀x∈t,0≤x∧x<256):
    Cr 35 #[.pointer (some ⟨b,o,none⟩)] w (.string (strOfNums (shaF t))):=by
  have hz:=zero44;have hgw:2<w.heap.size:=World.block_lt_of_cell? w _ (hT 0 (by omega));obtain⟨blk,hbl,hbb,hbt,hC⟩:=hR;have hbw:b<w.heap.size:=World.block_lt_of_cell? w _ hC.filled;have hsz:=hC.size;have hrg:=hC.range (stateTo_length _ _) hbl;have hrl:(rhL (stateTo t (t.length/64)) blk ((t.length%64:Nat):Int) (t.length:Int)).length=74:=by simp [rhL,stateTo_length,hbl]
  have hro:=rhL_one (stateTo t (t.length/64)) blk ((t.length%64:Nat):Int) (t.length:Int);have hth:(w.alloc (.cells zeroRh.toArray 62)).there w.heap.size 0 74:=there_new w _ _ 74 (by simp [zeroRh_len])
  have hend:∀W,W.rangeAt w.heap.size 0 (rhL (stateTo t (t.length/64)) blk ((t.length%64:Nat):Int) (t.length:Int))→W.there w.heap.size 0 74→RH W w.heap.size 0 t (t.length:Int):=
    fun W h1 h2=>⟨blk,hbl,hbb,hbt,RC.of_range (stateTo_length _ _) hbl h1 h2⟩
  generalize rhL (stateTo t (t.length/64)) blk ((t.length%64:Nat):Int) (t.length:Int)=L at*;clear hC hbt hbb hbl;go_enter func35,ntmps35
  go_wp2_with (first
    |(refine wpList_load_mid rfl 62 _ rfl b o rfl L _ hrg underlying62 rfl (by rw [size44,hrl]) ?_)
    | (refine wpList_store_mid rfl 62 _ _ rfl w.heap.size 0 L.toArray rfl rfl (by simpa [hrl] using hth) (by rw [size44];simp [hrl]) (all_oneCell_toArray hro) ?_
       generalize hW1:World.setCells _ _ _ _=W1
       have hR1:RH W1 w.heap.size 0 t (t.length:Int):=by
         rw [←hW1];exact hend _ (World.rangeAt_setCells_same _ _ _ _ (by rw [hrl];exact hth)) (World.there_setCells hth _ _ _)
       have hs1:W1.heap.size=w.heap.size+1:=by rw [←hW1,setCells_size];simp
       have hb1:Bl w W1:=by rw [←hW1];exact below_setCells ((Below.refl _ _).alloc (Nat.le_refl _) _) (Nat.le_refl _) _ _
       clear hW1))
  clear hend hth hro hrl hrg hz;have hg0:w.heap.size≠2:=by omega
  have hT1:TabK W1:=fun i hi=>(hb1.cell (p:=⟨2,i,none⟩) hgw).trans (hT i hi)
  refine(takeI_any w.heap.size 0 t _ W1 hR1 hT1 hg0 (by simp [ByteArray.size];omega)).mono ?_;rintro e W2 ⟨rfl,hR2,hU2⟩;have hb2:Bl w W2:=hb1.trans (hU2.below (Nat.le_refl _) (by omega));have hT2:TabK W2:=fun i hi=>(hb2.cell (p:=⟨2,i,none⟩) hgw).trans (hT i hi)
  rw [show byt {data:=#[128]}= [128] from rfl] at hR2;clear hU2 hR1 hT1 hb1;go_wp2_with fail
  go_loopw [] (fun wr=>∃z:Nat,z≤zeros t.length∧RH wr w.heap.size 0 (t++ [128]++List.replicate z 0) ((t++ [128]++List.replicate z 0).length:Int)∧Bl w wr) (fun wr=>mesF (wr.cell? ⟨w.heap.size,0+72,none⟩))
  case atStart=>exact ⟨0,Nat.zero_le _,by rw [List.replicate_zero,List.append_nil];exact hR2,hb2⟩
  case round=>
    clear hR2 hb2 hT2;obtain⟨z,hz,hR,hb⟩:=hrel;have hTr:TabK wr:=fun i hi=>(hb.cell (p:=⟨2,i,none⟩) hgw).trans (hT i hi)
    have hzl:zeros t.length<64:=Nat.mod_lt _ (by omega);have hL:(t++ [128]++List.replicate z 0).length=t.length+1+z:=by simp;omega
    have c72:=RH_filled hR hL;by_cases hlt:z<zeros t.length
    · have ht:(((t.length:Int)+1+(z:Int))%64 !=56)=true:=by
        rw [bne_iff_ne];unfold zeros at hlt;omega
      go_wp2_with fail;refine(takeI_any w.heap.size 0 (t++ [128]++List.replicate z 0) _ wr hR hTr hg0 (by rw [hL];simp [ByteArray.size];omega)).mono ?_;rintro e W3 ⟨rfl,hR3,hU3⟩
      have hR3':RH W3 w.heap.size 0 (t++ [128]++List.replicate (z+1) 0) ((t++ [128]++List.replicate (z+1) 0).length:Int):=by
        rw [List.replicate_succ',←List.append_assoc];exact hR3
      have c3:=RH_filled (n:=t.length) (k:=z+1) hR3' (by simp;omega);have hb3:Bl w W3:=hb.trans (hU3.below (Nat.le_refl _) hb.size);clear hR3 hU3;go_wp2;go_roundw
      case rel=>
        first
          |exact ⟨z+1,by omega,hR3',hb3⟩
          |((repeat apply Exists.intro);exact⟨⟨z+1,by omega,hR3',hb3⟩,rfl⟩)
      case measure=>
        rw [Nat.zero_add,c72,c3];simp only [mesF];unfold zeros at hlt;omega
    · obtain rfl:z=zeros t.length:=by omega
      have ht:(((t.length:Int)+1+(zeros t.length:Int))%64 !=56)=false:=by
        rw [bne_eq_false_iff_eq];unfold zeros;omega
      have h73:=(hb.cell (p:=⟨b,o+73,none⟩) hbw).trans hsz;have hm8:(t.length:Int)*8<18446744073709551616:=by omega
      go_wp2_with fail;refine(beI_any ((t.length:Int)*8) 8 wr (by omega) hm8 (by omega) (by omega)).mono ?_;rintro e W4 ⟨rfl,hb4⟩;have hs4:=hb.size;have hlt4:w.heap.size<wr.heap.size:=World.block_lt_of_cell? wr _ c72
      have hR4:RH W4 w.heap.size 0 (t++ [128]++List.replicate (zeros t.length) 0) ((t++ [128]++List.replicate (zeros t.length) 0).length:Int):=by
        obtain⟨blk,h1,h2,h3,hC⟩:=hR;exact⟨blk,h1,h2,h3,hC.same (hb4.block _ hlt4)⟩
      have hb4':Bl w W4:=hb.trans (hb4.mono hs4);have hT4:TabK W4:=fun i hi=>(hb4'.cell (p:=⟨2,i,none⟩) hgw).trans (hT i hi)
      clear hR hb hb4 hTr c72 h73 hm8;go_wp2_with fail;refine(takeI_any w.heap.size 0 (t++ [128]++List.replicate (zeros t.length) 0) _ W4 hR4 hT4 hg0 (by rw [hL,strOfNums_size,beTo_length];omega)).mono ?_;rintro e W5 ⟨rfl,hR5,hU5⟩
      have hp:t++ [128]++List.replicate (zeros t.length) 0++byt (strOfNums (beTo ((t.length:Int)*8) 8))=padF t:=by
        rw [beTo8,byt_str _ (be8_lt _)];rfl
      rw [hp] at hR5;have hb5:Bl w W5:=hb4'.trans (hU5.below (Nat.le_refl _) (by have:=hb4'.size;omega));clear hR4 hU5 hT4 hb4' hp;have hsh:Hid (shaF t=digTo (stateTo (padF t) ((padF t).length/64)) 8):=rfl;obtain⟨blk5,hbl5,_,_,hC5⟩:=hR5;have hok5:=stateTo_ok (padF t) ((padF t).length/64);have hl5:=stateTo_length (padF t) ((padF t).length/64);have hrg5:=hC5.range hl5 hbl5;generalize stateTo (padF t) ((padF t).length/64)=H at*
      have hst5:W5.rangeAt w.heap.size 0 (H.map (Value.int .u32)):=by
        have:=range_part (l:= []) (m:=H.map (Value.int .u32)) (r:=blk5.map (Value.int .u8)++ [.int .i64 (((padF t).length%64:Nat):Int),int u64 ((padF t).length:Int)]) (by rw [List.nil_append,←List.append_assoc];exact hrg5) 0 rfl;exact this
      have hix:=index40L H hl5;clear hrg5 hC5;go_wp2_with (refine wpList_load_mid rfl 59 _ rfl w.heap.size 0 rfl (H.map (Value.int .u32)) _ hst5 underlying59 rfl (by rw [size40];simp [hl5]) ?_);clear hst5
      go_loopw [4,24] (fun v i wr=>∃k:Nat,k≤8∧i= .int .i64 k∧v= .string (strOfNums (digTo H k))∧Bl w wr) (fun _ i _=>8-(intOf i).toNat)
      case atStart=>exact ⟨0,by omega,rfl,rfl,hb5⟩
      case round=>
        clear hb5;obtain⟨k,hk,rfl,rfl,hbr⟩:=hrel;by_cases hlt8:k<8
        · have hi8:=hix k hlt8;have hw:=lk_stOf hok5 k hlt8;obtain⟨hw0,hw1⟩:=hw;have hdl:=digTo_length H k
          have hcat:Hid (strOfNums (digTo H k)++strOfNums (beTo (lk H k) 4)=strOfNums (digTo H (k+1))):=by
            simp only [Hid];rw [str_append,beTo4,digTo]
          clear hix;go_wp2_with fail;refine(beI_any (lk H k) 4 wr hw0 (by omega) (by omega) (by omega)).mono ?_;rintro e W6 ⟨rfl,hb6⟩;have hb6':Bl w W6:=hbr.tr hb6;clear hb6;have hsm:(strOfNums (digTo H k)).size+(strOfNums (beTo (lk H k) 4)).size≤100:=by rw [strOfNums_size,strOfNums_size,beTo_length,hdl];omega
          go_wp2;go_roundw
          case rel=>
            have R:Value.string (strOfNums (digTo H k)++strOfNums (beTo (lk H k) 4))=Value.string (strOfNums (digTo H (k+1))):=by rw [hcat.out]
            first
              |exact ⟨k+1,by omega,by go_num,R,hb6'⟩
              |((repeat apply Exists.intro);exact⟨⟨k+1,by omega,by go_num,R,hb6'⟩,rfl⟩)
          case measure=>simp [intOf];omega
        · obtain rfl:k=8:=by omega
          go_wp2;go_ret;exact⟨by rw [hsh.out];rfl,hbr⟩
end
section
attribute [local go_sem ↓] Go.wp_at_zero Go.wp_at_succ
def catB:List ByteArray→List Int
  | []=> []
  |s::r=>byt s++catB r
def sizeB:List ByteArray→Nat
  | []=>0
  |s::r=>s.size+sizeB r
theorem methR (a:Addr)(w:World):(method 259 65 (.pointer (some a)) "loop.example/s02095/impl.take").run prog w= .ok (60,.pointer (some a)) w:=by kernel_rfl
theorem catB_snoc (ps:List ByteArray)(k:Nat)(h:k<ps.length):catB (ps.take (k+1))=catB (ps.take k)++byt ps[k]:=by
  induction ps generalizing k with
  |nil=>simp at h
  | cons s r ih=>
    cases k with
    |zero=>simp [catB]
    |succ k=>simp only [List.take_succ_cons,catB,List.getElem_cons_succ];rw [ih k (by simpa using h),List.append_assoc]
theorem catB_length:∀ps:List ByteArray,(catB ps).length=sizeB ps
  | []=>rfl
  |s::r=>by rw [catB,sizeB,List.length_append,byt_length,catB_length r]
theorem catB_lt:∀ps:List ByteArray,∀x∈catB ps,0≤x∧x<256
  | [],x,h=>by simp [catB] at h
  | s::r,x,h=>by
    rw [catB,List.mem_append] at h;rcases h with h|h
    · exact byt_lt s x h
    · exact catB_lt r x h
theorem lk_rep (i:Nat):0≤lk (List.replicate 64 (0:Int)) i∧lk (List.replicate 64 (0:Int)) i<256:=
  lk_lt (fun x hx=>by have:=List.eq_of_mem_replicate hx;omega) i
theorem sizeB_le (ps:List ByteArray)(k:Nat)(h:k<ps.length):(catB (ps.take k)).length+ps[k].size≤sizeB ps:=by
  induction ps generalizing k with
  |nil=>simp at h
  | cons s r ih=>
    cases k with
    |zero=>simp [catB,sizeB]
    | succ k=>
      have:=ih k (by simpa using h);simp only [List.take_succ_cons,catB,List.getElem_cons_succ,List.length_append,byt_length,sizeB];omega
theorem allI_any (b o g n cap:Nat)(t:List Int)(ps:List ByteArray)(w:World)(hR:RH w b o t (t.length:Int))(hT:TabK w)(hb0:b≠2)(hlen:t.length+sizeB ps≤1152921504606846976)
    (hps:ps.length=n)(hn:n≤100)(hc:∀i,i<n→w.cell? ⟨g,i,none⟩=some (.string (ps.getD i ByteArray.empty)))(hgb:g≠b):
    Calls prog 34 #[.iface 65 (.pointer (some ⟨b,o,none⟩)),.slice (some ⟨g,0,none⟩) n cap] w fun e w'=>e= .returned (.tuple #[])∧RH w' b o (t++catB ps) ((t++catB ps).length:Int)∧Upd b o w w':=by
  go_enter func34,ntmps34;go_wp2
  go_loopw [8] (fun i wr=>∃k:Nat,k≤n∧i= .int .i64 k∧RH wr b o (t++catB (ps.take k)) ((t++catB (ps.take k)).length:Int)∧Upd b o w wr) (fun i _=>n-(intOf i).toNat)
  case atStart=>exact ⟨0,by omega,rfl,by simpa [catB] using hR,Upd.refl _ _ _⟩
  case round=>
    obtain⟨k,hk,rfl,hR2,hU⟩:=hrel;by_cases hlt:k<n
    · have hck:=(hU.far (p:=⟨g,k,none⟩) (World.block_lt_of_cell? w _ (hc k hlt)) hgb).trans (hc k hlt);have hm:=methR ⟨b,o,none⟩;have hkp:k<ps.length:=by omega
      have hTr:TabK wr:=fun i hi=>(hU.far (p:=⟨2,i,none⟩) (World.block_lt_of_cell? w _ (hT i hi)) (fun e=>hb0 e.symm)).trans (hT i hi)
      have hsz:=sizeB_le ps k hkp;go_wp2_with fail;refine(takeI_any b o (t++catB (ps.take k)) ps[k] wr hR2 hTr hb0 (by rw [List.length_append];omega)).mono ?_;rintro e W2 ⟨rfl,hR3,hU3⟩;rw [List.append_assoc,←catB_snoc ps k hkp] at hR3;have hU4:=hU.trans hU3;clear hR2 hTr hck hm;go_wp2;go_roundw
      case rel=>
        first
          |exact ⟨k+1,by omega,by go_num,hR3,hU4⟩
          |((repeat apply Exists.intro);exact⟨⟨k+1,by omega,by go_num,hR3,hU4⟩,rfl⟩)
      case measure=>simp [intOf];omega
    · obtain rfl:k=n:=by omega
      rw [List.take_of_length_le (by omega)] at hR2;go_wp2
      go_end0
      exact⟨rfl,hR2,hU⟩
theorem hashOfI_any (g n cap:Nat)(ps:List ByteArray)(w:World)(hT:TabK w)(hlen:sizeB ps≤1000000000000)
    (hps:ps.length=n)(hn:n≤100)(hn0:0<n)(hc:∀i,i<n→w.cell? ⟨g,i,none⟩=some (.string (ps.getD i ByteArray.empty))):
    Cr 17 #[.slice (some ⟨g,0,none⟩) n cap] w (.string (strOfNums (shaF (catB ps)))):=by
  have hgw:2<w.heap.size:=World.block_lt_of_cell? w _ (hT 0 (by omega));have hgg:g<w.heap.size:=World.block_lt_of_cell? w _ (hc 0 hn0);have hz:=zero44;go_enter func17,ntmps17;go_wp2_with fail;refine(newI_any w).mono ?_;rintro e W1 ⟨rfl,hb1⟩;have hs1:=hb1.size;have hth:(W1.alloc (.cells zeroRh.toArray 62)).there W1.heap.size 0 74:=there_new W1 _ _ 74 (by simp [zeroRh_len]);have hnl:=newRh_len
  go_wp2_with (first
    | (refine wpList_store_mid rfl 62 _ _ rfl W1.heap.size 0 newRh.toArray rfl rfl (by simpa [hnl] using hth) (by rw [size44];simp [hnl]) (all_oneCell_toArray (rhL_one _ _ _ _)) ?_
       generalize hW2:World.setCells _ _ _ _=W2
       have hR2:RH W2 W1.heap.size 0 [] (([]:List Int).length:Int):=by
         rw [←hW2];exact⟨List.replicate 64 0,by simp,fun i=>lk_rep i,by simp,RC.of_range rfl (by simp) (World.rangeAt_setCells_same _ _ _ _ (by rw [hnl];exact hth)) (World.there_setCells hth _ _ _)⟩
       have hs2:W2.heap.size=W1.heap.size+1:=by rw [←hW2,setCells_size];simp
       have hb2:Bl W1 W2:=by rw [←hW2];exact below_setCells ((Below.refl _ _).alloc (Nat.le_refl _) _) (Nat.le_refl _) _ _
       clear hW2))
  have hb2':Bl w W2:=hb1.trans (hb2.mono hs1);have hT2:TabK W2:=fun i hi=>(hb2'.cell (p:=⟨2,i,none⟩) hgw).trans (hT i hi)
  refine(allI_any W1.heap.size 0 g n cap [] ps W2 hR2 hT2 (by omega) (by simp;omega) hps hn (fun i hi=>(hb2'.cell (p:=⟨g,i,none⟩) hgg).trans (hc i hi)) (by omega)).mono ?_;rintro e W3 ⟨rfl,hR3,hU3⟩;rw [List.nil_append] at hR3;have hb3:Bl w W3:=hb2'.trans (hU3.below hs1 (by omega));have hT3:TabK W3:=fun i hi=>(hb3.cell (p:=⟨2,i,none⟩) hgw).trans (hT i hi)
  clear hR2 hT2 hU3 hb2 hth hz;go_wp2_with fail;refine(sumI_any W1.heap.size 0 (catB ps) W3 hR3 hT3 (by rw [catB_length];exact hlen) (catB_lt ps)).mono ?_;rintro e W4 ⟨rfl,hb4⟩;go_wp2;go_ret;exact⟨rfl,hb3.tr hb4⟩
end
section
attribute [local go_sem ↓] Go.wp_at_zero Go.wp_at_succ
theorem infoU32:(prog.info? 58).map (fun i=>(i.zero,i.size,i.bytes))=some (some (.int .u32 0),1,4):=by kernel_rfl
theorem infoU8:(prog.info? 5).map (fun i=>(i.zero,i.size,i.bytes))=some (some (.int .u8 0),1,1):=by kernel_rfl
theorem schedS_any (g cap n:Nat)(m:List Int)(fr:Nat)(w:World)(hm:∀i,i<n→w.cell? ⟨g,i,none⟩=some (.int .u8 (lk m i)))
    (hb:∀i,0≤lk m i∧lk m i<256)(hn:n≤1099511627776)(hf:fr+64≤n)(hg:g<w.heap.size):
    Calls prog 73 #[.slice (some ⟨g,0,none⟩) n cap,.int .i64 fr] w fun e w'=>
      ∃g' cap',e= .returned (.slice (some ⟨g',0,none⟩) 64 cap')∧
      w'.ownsRow w.heap.size 58 1 (.slice (some ⟨g',0,none⟩) 64 cap') 64 ((wsTo m fr 64).map (Value.int .u32))∧Bl w w':=by
  obtain⟨i0,hi,hz0,hz1,hz2⟩:=info_parts infoU32;go_enter func73,ntmps73;go_wp2
  go_loopw [5,6] (fun v i wr=>∃k:Nat,k≤16∧i= .int .i64 k∧wr.ownsRow w.heap.size 58 1 v k ((wsTo m fr k).map (Value.int .u32))∧Bl w wr) (fun _ i _=>16-(intOf i).toNat)
  case atStart=>exact ⟨0,by omega,rfl,⟨rfl,.inr ⟨w.heap.size,0,#[],rfl,Nat.le_refl _,heap_alloc_new _ _,by omega,by decide,rfl,rfl⟩⟩,(Below.refl _ _).alloc (Nat.le_refl _) _⟩
  case round =>
    obtain⟨k,hk,rfl,hown,hbl⟩:=hrel;by_cases hlt:k<16
    · obtain ⟨p,hp⟩:∃p:Nat,p=fr+4*k:=⟨_,rfl⟩;have hp':(fr:Int)+4*(k:Int)=(p:Int):=by omega
      have c0:=(hbl.cell (p:=⟨g,p,none⟩) hg).trans (hm p (by omega));have c1:=(hbl.cell (p:=⟨g,p+1,none⟩) hg).trans (hm (p+1) (by omega));have c2:=(hbl.cell (p:=⟨g,p+2,none⟩) hg).trans (hm (p+2) (by omega));have c3:=(hbl.cell (p:=⟨g,p+3,none⟩) hg).trans (hm (p+3) (by omega));have b0:=hb p;have b1:=hb (p+1);have b2:=hb (p+2);have b3:=hb (p+3)
      have hnb:u5.ownBlock≠some g:=by
        rcases hown.2 with ⟨rfl,_⟩|⟨g1,cap1,cur,rfl,hg1,_⟩
        · simp [Value.ownBlock]
        · simp only [Value.ownBlock,ne_eq,Option.some.injEq];omega
      have hgr:g<wr.heap.size:=Nat.lt_of_lt_of_le hg hbl.size;have hszr:w.heap.size≤wr.heap.size:=hbl.size;have q0:(0:Int)≤(p:Int):=Int.natCast_nonneg _;have q1:(p:Int)<(n:Int):=by omega
      have q2:(p:Int)+1<(n:Int):=by omega
      have q3:(p:Int)+2<(n:Int):=by omega
      have q4:(p:Int)+3<(n:Int):=by omega
      have q5:(0:Int)≤(p:Int)+1:=by omega
      have q6:(0:Int)≤(p:Int)+2:=by omega
      have q7:(0:Int)≤(p:Int)+3:=by omega
      have e1:=i64_in ((p:Int)+1) (by omega) (by omega);have e2:=i64_in ((p:Int)+2) (by omega) (by omega);have e3:=i64_in ((p:Int)+3) (by omega) (by omega);have f0:=u32_in (lk m p) (by omega) (by omega);have f1:=u32_in (lk m (p+1)) (by omega) (by omega);have f2:=u32_in (lk m (p+2)) (by omega) (by omega);have f3:=u32_in (lk m (p+3)) (by omega) (by omega);have f4:=u32_in (lk m p*16777216) (by omega) (by omega);have f5:=u32_in (lk m (p+1)*65536) (by omega) (by omega);have f6:=u32_in (lk m (p+2)*256) (by omega) (by omega);have t1:((p:Int)+1).toNat=p+1:=by omega
      have t2:((p:Int)+2).toNat=p+2:=by omega
      have t3:((p:Int)+3).toNat=p+3:=by omega
      have Hp:Hid (p=fr+4*k):=hp;have hpn:p+64≤n+4*k:=by omega
      clear hp;go_wp2
      go_region_held3 (fun w'=>w'.cell? ⟨g,p,none⟩=some (.int .u8 (lk m p))∧w'.cell? ⟨g,p+1,none⟩=some (.int .u8 (lk m (p+1)))∧
          w'.cell? ⟨g,p+2,none⟩=some (.int .u8 (lk m (p+2)))∧w'.cell? ⟨g,p+3,none⟩=some (.int .u8 (lk m (p+3))))
        (first
          |go_keep
          | (go_split_ands
             refine⟨?_,?_,?_,?_⟩
             · (rw [hgrow.cell_far _ (by simp;omega) (Ne.symm hnb)];assumption)
             · (rw [hgrow.cell_far _ (by simp;omega) (Ne.symm hnb)];assumption)
             · (rw [hgrow.cell_far _ (by simp;omega) (Ne.symm hnb)];assumption)
             · (rw [hgrow.cell_far _ (by simp;omega) (Ne.symm hnb)];assumption)))
        ((refine step_append_lies _ (by rfl) _ _ _ (by rfl) w.heap.size 58 i0 _ 1 4 underlying87 hi hz0 hz1 hz2 rfl (by omega) u5 k ((wsTo m fr k).map (Value.int .u32)) (by rfl) ((hown.alloc _).drew)
            ⟨wr.heap.size,0,none⟩ 1 1 [.int .u32 (word m p)] (by rfl) (by rfl) (World.news_of_block (cs:=#[.int .u32 (word m p)]) (t:=58) (fr:=(0,0)) (heap_alloc_new wr _)) (by simp [Value.oneCell'])
            (by omega) (by unfold maxLen;omega) (by omega) (by simp;omega) (wr.heap.size+1) (by simp) ?_;intro gg cap w1 hown1 hgrow hat hglt))
      go_wp2;refine⟨⟨k+1,by omega,by go_num,?_,?_⟩,by simp [intOf];omega⟩
      · rw [wsTo_lo m fr k hlt,←Hp.out];exact hown1
      · exact(((hbl.alloc hszr _).drew).grown hgrow (by simp;omega) (fun r hr=>(hown.lt r hr).1))
    · obtain rfl:k=16:=by omega
      go_wp2
      go_loopw [5,8] (fun v i wr=>∃k:Nat,16≤k∧k≤64∧i= .int .i64 k∧wr.ownsRow w.heap.size 58 1 v k ((wsTo m fr k).map (Value.int .u32))∧Bl w wr) (fun _ i _=>64-(intOf i).toNat)
      case atStart=>exact ⟨16,by omega,by omega,rfl,hown,hbl⟩
      case round=>
        clear hown hbl;obtain⟨k,hk16,hk,rfl,hown,hbl⟩:=hrel;by_cases hlt:k<64
        · obtain⟨g1,cap1,rfl,hg1,hlt1⟩:=hown.form (by omega);have c15:=own_cell hown (k-15) (by omega);have c2:=own_cell hown (k-2) (by omega);have c16:=own_cell hown (k-16) (by omega);have c7:=own_cell hown (k-7) (by omega);have b15:=wsTo_lo32 m fr k (k-15);have b2:=wsTo_lo32 m fr k (k-2);have b16:=wsTo_lo32 m fr k (k-16);have b7:=wsTo_lo32 m fr k (k-7);go_wp2_with (go_at_call 74;refine(turn_any _ _ _ (by omega) (by omega) (by omega) (by omega)).mono ?_;rintro e w' ⟨rfl,rfl⟩);have hszr:w.heap.size≤wr.heap.size:=hbl.size;have hn1:g1≠wr.heap.size:=by omega
          have q0:(0:Int)≤(k:Int)-16:=by omega
          have q1:(k:Int)-16<(k:Int):=by omega
          have q2:(0:Int)≤(k:Int)-7:=by omega
          have q3:(k:Int)-7<(k:Int):=by omega
          have q4:(16:Int)≤(k:Int):=by omega
          have q5:(7:Int)≤(k:Int):=by omega
          have e1:=i64_in ((k:Int)-16) (by omega) (by omega);have e2:=i64_in ((k:Int)-7) (by omega) (by omega);have t1:((k:Int)-16).toNat=k-16:=by omega
          have t2:((k:Int)-7).toNat=k-7:=by omega
          have hL16:=own_get hown (k-16) (by omega);have hL7:=own_get hown (k-7) (by omega)
          go_region_held3 (fun w'=>w'.cell? ⟨g1,k-16,none⟩=some (.int .u32 (lk (wsTo m fr k) (k-16)))∧w'.cell? ⟨g1,k-7,none⟩=some (.int .u32 (lk (wsTo m fr k) (k-7))))
            (first
              |go_keep
              |exact ⟨hkeep _ _ hL16,hkeep _ _ hL7⟩)
            ((refine step_append_keeps (by rfl) _ _ _ (by rfl) w.heap.size 58 i0 _ 4 underlying87 hi hz0 hz1 hz2 rfl g1 k cap1 ((wsTo m fr k).map (Value.int .u32)) (by rfl) ((hown.alloc _).drew)
                ⟨wr.heap.size,0,none⟩ 1 1 [.int .u32 (nextw (wsTo m fr k) k)] (by rfl) (by rfl) (World.news_of_block (cs:=#[.int .u32 (nextw (wsTo m fr k) k)]) (t:=58) (fr:=(0,0)) (heap_alloc_new wr _)) (by simp [Value.oneCell'])
                (by omega) (by unfold maxLen;omega) (by omega) (by simp;omega) (wr.heap.size+1) (by simp) ?_;intro gg cap w1 hown1 hgrow hat hglt hkeep))
          go_wp2;go_roundw
          case rel=>
            have R1:w1.ownsRow w.heap.size 58 1 (.slice (some ⟨gg,0,none⟩) (k+1) cap) (k+1) ((wsTo m fr (k+1)).map (Value.int .u32)):=by
              rw [wsTo_hi m fr k hk16];exact hown1
            have R2:Bl w w1:=(((hbl.alloc hszr _).drew).grown hgrow (by simp;omega) (fun r hr=>by simp at hr;omega))
            first
              |exact ⟨k+1,by omega,by omega,by go_num,R1,R2⟩
              |((repeat apply Exists.intro);exact⟨⟨k+1,by omega,by omega,by go_num,R1,R2⟩,rfl⟩)
          case measure=>simp [intOf];omega
        · obtain rfl:k=64:=by omega
          obtain⟨g1,cap1,rfl,hg1,hlt1⟩:=hown.form (by omega);go_wp2;go_ret;exact⟨g1,cap1,rfl,hown,hbl⟩
end
section
attribute [local go_sem ↓] Go.wp_at_zero Go.wp_at_succ
theorem blockS_any (gh ch gk ck g cap n:Nat)(h ks m:List Int)(fr:Nat)(w:World)
    (hh:∀i,i<8→w.cell? ⟨gh,i,none⟩=some (.int .u32 (lk h i)))(hhb:(stOf h).ok)(hgh:gh<w.heap.size)
    (hks:∀i,i<64→w.cell? ⟨gk,i,none⟩=some (.int .u32 (lk ks i)))(hgk:gk<w.heap.size)
    (hm:∀i,i<n→w.cell? ⟨g,i,none⟩=some (.int .u8 (lk m i)))
    (hb:∀i,0≤lk m i∧lk m i<256)(hn:n≤1099511627776)(hf:fr+64≤n)(hg:g<w.heap.size):
    Calls prog 53 #[.slice (some ⟨gh,0,none⟩) 8 ch,.slice (some ⟨gk,0,none⟩) 64 ck,.slice (some ⟨g,0,none⟩) n cap,.int .i64 fr] w fun e w'=>
      ∃g',e= .returned (.slice (some ⟨g',0,none⟩) 8 8)∧
      w'.ownsRow w.heap.size 58 1 (.slice (some ⟨g',0,none⟩) 8 8) 8 ((blockF ks h (wsTo m fr 64)).map (Value.int .u32))∧Bl w w':=by
  obtain⟨i0,hi,hz0,hz1,hz2⟩:=info_parts infoU32;go_enter func53,ntmps53;go_wp2_with fail;refine(schedS_any g cap n m fr w hm hb hn hf hg).mono ?_;rintro e w1 ⟨gw,cw,rfl,hown,hbl⟩;have hlt:=hown.lt gw rfl;have h0:=(hbl.cell (p:=⟨gh,0,none⟩) hgh).trans (hh 0 (by omega));have h1:=(hbl.cell (p:=⟨gh,1,none⟩) hgh).trans (hh 1 (by omega));have h2:=(hbl.cell (p:=⟨gh,2,none⟩) hgh).trans (hh 2 (by omega));have h3:=(hbl.cell (p:=⟨gh,3,none⟩) hgh).trans (hh 3 (by omega));have h4:=(hbl.cell (p:=⟨gh,4,none⟩) hgh).trans (hh 4 (by omega));have h5:=(hbl.cell (p:=⟨gh,5,none⟩) hgh).trans (hh 5 (by omega));have h6:=(hbl.cell (p:=⟨gh,6,none⟩) hgh).trans (hh 6 (by omega));have h7:=(hbl.cell (p:=⟨gh,7,none⟩) hgh).trans (hh 7 (by omega));go_wp2
  go_loopw [10,11,12,13,14,15,16,17,18] (fun a b c d e f g z i wr=>∃k:Nat,k≤64∧i= .int .i64 k∧a= .int .u32 (rndTo (stOf h) ks (wsTo m fr 64) k).a∧b= .int .u32 (rndTo (stOf h) ks (wsTo m fr 64) k).b∧c= .int .u32 (rndTo (stOf h) ks (wsTo m fr 64) k).c∧d= .int .u32 (rndTo (stOf h) ks (wsTo m fr 64) k).d∧e= .int .u32 (rndTo (stOf h) ks (wsTo m fr 64) k).e∧f= .int .u32 (rndTo (stOf h) ks (wsTo m fr 64) k).f∧g= .int .u32 (rndTo (stOf h) ks (wsTo m fr 64) k).g∧z= .int .u32 (rndTo (stOf h) ks (wsTo m fr 64) k).z∧Bl w1 wr) (fun _ _ _ _ _ _ _ _ i _=>64-(intOf i).toNat)
  case atStart=>exact ⟨0,by omega,rfl,rfl,rfl,rfl,rfl,rfl,rfl,rfl,rfl,Below.refl _ _⟩
  case round=>
    obtain⟨k,hk,rfl,rfl,rfl,rfl,rfl,rfl,rfl,rfl,rfl,hblr⟩:=hrel;have hok:=rndTo_ok (stOf h) ks (wsTo m fr 64) hhb k;by_cases hlt2:k<64
    · have hst:Hid (rndTo (stOf h) ks (wsTo m fr 64) (k+1)=rnd (rndTo (stOf h) ks (wsTo m fr 64) k) (lk ks k) (lk (wsTo m fr 64) k)):=rfl;have hck:=(hblr.cell (p:=⟨gk,k,none⟩) (by have:=hbl.size;simp;omega)).trans ((hbl.cell (p:=⟨gk,k,none⟩) hgk).trans (hks k hlt2));have hcw:=(hblr.cell (p:=⟨gw,k,none⟩) (by simp;omega)).trans (own_cell hown k hlt2);generalize rndTo (stOf h) ks (wsTo m fr 64) k=s at*;obtain⟨a,b,c,d,e,f,g',z⟩:=s;obtain⟨⟨oa,oa'⟩,⟨ob,ob'⟩,⟨oc,oc'⟩,⟨od,od'⟩,⟨oe,oe'⟩,⟨of,of'⟩,⟨og,og'⟩,⟨oz,oz'⟩⟩:=hok;dsimp only at oa oa' ob ob' oc oc' od od' oe oe' of of' og og' oz oz';go_wp2_with (go_at_call 74;refine(turn_any _ _ _ (by omega) (by omega) (by omega) (by omega)).mono ?_;rintro e w' ⟨rfl,rfl⟩);have hk0:(0:Int)≤(k:Int):=Int.natCast_nonneg _;have hk64:(k:Int)<64:=by omega
      go_quiet (fail);go_wp2_with (go_at_call 74;refine(turn_any _ _ _ (by omega) (by omega) (by omega) (by omega)).mono ?_;rintro e w' ⟨rfl,rfl⟩);refine⟨⟨k+1,by omega,by go_num,?_,?_,?_,?_,?_,?_,?_,?_,below_drewN hblr _⟩,by simp [intOf];omega⟩<;>(rw [hst.out];rfl)
    · obtain rfl:k=64:=by omega
      have e0:=(hblr.cell (p:=⟨gh,0,none⟩) (by have:=hbl.size;simp;omega)).trans h0;have e1:=(hblr.cell (p:=⟨gh,1,none⟩) (by have:=hbl.size;simp;omega)).trans h1;have e2:=(hblr.cell (p:=⟨gh,2,none⟩) (by have:=hbl.size;simp;omega)).trans h2;have e3:=(hblr.cell (p:=⟨gh,3,none⟩) (by have:=hbl.size;simp;omega)).trans h3;have e4:=(hblr.cell (p:=⟨gh,4,none⟩) (by have:=hbl.size;simp;omega)).trans h4;have e5:=(hblr.cell (p:=⟨gh,5,none⟩) (by have:=hbl.size;simp;omega)).trans h5;have e6:=(hblr.cell (p:=⟨gh,6,none⟩) (by have:=hbl.size;simp;omega)).trans h6;have e7:=(hblr.cell (p:=⟨gh,7,none⟩) (by have:=hbl.size;simp;omega)).trans h7;clear h0 h1 h2 h3 h4 h5 h6 h7;have hsz:w.heap.size≤wr.heap.size:=Nat.le_trans hbl.size hblr.size;have hB:Bl w wr:=hbl.tr hblr;clear hblr hbl hown hok hlt;go_wp2
      go_region_held3 (fun w'=>w'.cell? ⟨gh,0,none⟩=some (.int .u32 (lk h 0))∧w'.cell? ⟨gh,1,none⟩=some (.int .u32 (lk h 1))∧w'.cell? ⟨gh,2,none⟩=some (.int .u32 (lk h 2))∧w'.cell? ⟨gh,3,none⟩=some (.int .u32 (lk h 3))∧w'.cell? ⟨gh,4,none⟩=some (.int .u32 (lk h 4))∧w'.cell? ⟨gh,5,none⟩=some (.int .u32 (lk h 5))∧w'.cell? ⟨gh,6,none⟩=some (.int .u32 (lk h 6))∧w'.cell? ⟨gh,7,none⟩=some (.int .u32 (lk h 7))) (go_keep) (fail)
      go_wp2;go_ret;refine⟨wr.heap.size,rfl,?_,?_⟩
      · exact(World.ownsRow_lit wr _ 8 hsz (by decide) rfl).drew
      · exact(hB.alloc hsz _).drew
end
end Go.Proofs.YtijmldjijnpnoaaDoor
