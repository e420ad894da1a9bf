import Derived.Test.YtjhbckngdclleaaGreatDoorMrg2
import Derived.Test.YtjhbckngdclleaaGreatDoorCards
import Derived.Test.YtjhbckngdclleaaGreatDoorTie
import Derived.OpenShut
import Derived.ShutString
import Derived.OpenVars
import Derived.Deep.DeepHandedRow
import Derived.Lib.LaidTab
import Derived.Deep.Strs
import Derived.Stop.Asserts
set_option linter.unusedVariables false
set_option maxRecDepth 100000
set_option maxHeartbeats 16000000
namespace Go.Proofs.YtjhbckngdclleaaGreatDoor
open Go.Proofs.Tryz Go.RowKit
open Go.Value (int)
open Go.IntKind (u64)
section
attribute [local go_sem ↓] Go.wp_at_zero Go.wp_at_succ
def mesF:Option Value→Nat
  |some (.int _ f)=>((120-f)%64).toNat
  |_=>0
theorem str_append (l r:List Int):strOfNums l++strOfNums r=strOfNums (l++r):=by
  apply ByteArray.ext;simp [strOfNums]
theorem RH_filled {w:World}{b n k:Nat}{t:List Int}{z:Int}(hR:RH w b 0 t z)(hL:t.length=n+1+k):w.cell? ⟨b,72,none⟩=some (.int .i64 (((n:Int)+1+(k:Int))%64)):=by
  obtain⟨blk,_,_,_,hC⟩:=hR;have:=hC.filled;rw [hL,Nat.zero_add] at this;rw [this];congr 2
theorem sumI_any (b o:Nat)(t:List Int)(w:World)(hR:RH w b o t (t.length:Int))(hT:TabK w)(hlen:t.length≤1000000000000)(htb:∀x∈t,0≤x∧x<256):
    Cr 125 #[.pointer (some ⟨b,o,none⟩)] w (.string (strOfNums (shaF t))):=by
  have hz:=zero44;have hgw:6<w.heap.size:=World.block_lt_of_cell? w _ (hT 0 (by omega));obtain⟨blk,hbl,hbb,hbt,hC⟩:=hR;have hbw:b<w.heap.size:=World.block_lt_of_cell? w _ hC.filled;have hsz:=hC.size;have hrg:=hC.range (stateTo_length _ _) hbl;have hrl:(rhL (stateTo t (t.length/64)) blk ((t.length%64:Nat):Int) (t.length:Int)).length=74:=by simp [rhL,stateTo_length,hbl]
  have hro:=rhL_one (stateTo t (t.length/64)) blk ((t.length%64:Nat):Int) (t.length:Int);have hth:(w.alloc (.cells zeroRh.toArray 181)).there w.heap.size 0 74:=there_new w _ _ 74 (by simp [zeroRh_len])
  have hend:∀W,W.rangeAt w.heap.size 0 (rhL (stateTo t (t.length/64)) blk ((t.length%64:Nat):Int) (t.length:Int))→W.there w.heap.size 0 74→RH W w.heap.size 0 t (t.length:Int):=
    fun W h1 h2=>⟨blk,hbl,hbb,hbt,RC.of_range (stateTo_length _ _) hbl h1 h2⟩
  generalize rhL (stateTo t (t.length/64)) blk ((t.length%64:Nat):Int) (t.length:Int)=L at*;clear hC hbt hbb hbl;go_enter func125,ntmps125
  go_wp2_with (first
    |(refine wpList_load_mid rfl 181 _ rfl b o rfl L _ hrg underlying181 rfl (by rw [size44,hrl]) ?_)
    | (refine wpList_store_mid rfl 181 _ _ rfl w.heap.size 0 L.toArray rfl rfl (by simpa [hrl] using hth) (by rw [size44];simp [hrl]) (all_oneCell_toArray hro) ?_
       generalize hW1:World.setCells _ _ _ _=W1
       have hR1:RH W1 w.heap.size 0 t (t.length:Int):=by
         rw [←hW1];exact hend _ (World.rangeAt_setCells_same _ _ _ _ (by rw [hrl];exact hth)) (World.there_setCells hth _ _ _)
       have hs1:W1.heap.size=w.heap.size+1:=by rw [←hW1,setCells_size];simp
       have hb1:Bl w W1:=by rw [←hW1];exact below_setCells ((Below.refl _ _).alloc (Nat.le_refl _) _) (Nat.le_refl _) _ _
       clear hW1))
  clear hend hth hro hrl hrg hz;have hg0:w.heap.size≠6:=by omega
  have hT1:TabK W1:=fun i hi=>(hb1.cell (p:=⟨6,i,none⟩) hgw).trans (hT i hi)
  refine(takeI_any w.heap.size 0 t _ W1 hR1 hT1 hg0 (by simp [ByteArray.size];omega)).mono ?_;rintro e W2 ⟨rfl,hR2,hU2⟩;have hb2:Bl w W2:=hb1.trans (hU2.below (Nat.le_refl _) (by omega));have hT2:TabK W2:=fun i hi=>(hb2.cell (p:=⟨6,i,none⟩) hgw).trans (hT i hi)
  rw [show byt {data:=#[128]}= [128] from rfl] at hR2;clear hU2 hR1 hT1 hb1;go_wp2_with fail
  go_loopw [] (fun wr=>∃z:Nat,z≤zeros t.length∧RH wr w.heap.size 0 (t++ [128]++List.replicate z 0) ((t++ [128]++List.replicate z 0).length:Int)∧Bl w wr) (fun wr=>mesF (wr.cell? ⟨w.heap.size,0+72,none⟩))
  case atStart=>exact ⟨0,Nat.zero_le _,by rw [List.replicate_zero,List.append_nil];exact hR2,hb2⟩
  case round=>
    clear hR2 hb2 hT2;obtain⟨z,hz,hR,hb⟩:=hrel;have hTr:TabK wr:=fun i hi=>(hb.cell (p:=⟨6,i,none⟩) hgw).trans (hT i hi)
    have hzl:zeros t.length<64:=Nat.mod_lt _ (by omega);have hL:(t++ [128]++List.replicate z 0).length=t.length+1+z:=by simp;omega
    have c72:=RH_filled hR hL;by_cases hlt:z<zeros t.length
    · have ht:(((t.length:Int)+1+(z:Int))%64 !=56)=true:=by
        rw [bne_iff_ne];unfold zeros at hlt;omega
      go_wp2_with fail;refine(takeI_any w.heap.size 0 (t++ [128]++List.replicate z 0) _ wr hR hTr hg0 (by rw [hL];simp [ByteArray.size];omega)).mono ?_;rintro e W3 ⟨rfl,hR3,hU3⟩
      have hR3':RH W3 w.heap.size 0 (t++ [128]++List.replicate (z+1) 0) ((t++ [128]++List.replicate (z+1) 0).length:Int):=by
        rw [List.replicate_succ',←List.append_assoc];exact hR3
      have c3:=RH_filled (n:=t.length) (k:=z+1) hR3' (by simp;omega);have hb3:Bl w W3:=hb.trans (hU3.below (Nat.le_refl _) hb.size);clear hR3 hU3;go_wp2;go_roundw
      case rel=>
        first
          |exact ⟨z+1,by omega,hR3',hb3⟩
          |((repeat apply Exists.intro);exact⟨⟨z+1,by omega,hR3',hb3⟩,rfl⟩)
      case measure=>
        rw [Nat.zero_add,c72,c3];simp only [mesF];unfold zeros at hlt;omega
    · obtain rfl:z=zeros t.length:=by omega
      have ht:(((t.length:Int)+1+(zeros t.length:Int))%64 !=56)=false:=by
        rw [bne_eq_false_iff_eq];unfold zeros;omega
      have h73:=(hb.cell (p:=⟨b,o+73,none⟩) hbw).trans hsz;have hm8:(t.length:Int)*8<18446744073709551616:=by omega
      go_wp2_with fail;refine(beI_any ((t.length:Int)*8) 8 wr (by omega) hm8 (by omega) (by omega)).mono ?_;rintro e W4 ⟨rfl,hb4⟩;have hs4:=hb.size;have hlt4:w.heap.size<wr.heap.size:=World.block_lt_of_cell? wr _ c72
      have hR4:RH W4 w.heap.size 0 (t++ [128]++List.replicate (zeros t.length) 0) ((t++ [128]++List.replicate (zeros t.length) 0).length:Int):=by
        obtain⟨blk,h1,h2,h3,hC⟩:=hR;exact⟨blk,h1,h2,h3,hC.same (hb4.block _ hlt4)⟩
      have hb4':Bl w W4:=hb.trans (hb4.mono hs4);have hT4:TabK W4:=fun i hi=>(hb4'.cell (p:=⟨6,i,none⟩) hgw).trans (hT i hi)
      clear hR hb hb4 hTr c72 h73 hm8;go_wp2_with fail;refine(takeI_any w.heap.size 0 (t++ [128]++List.replicate (zeros t.length) 0) _ W4 hR4 hT4 hg0 (by rw [hL,strOfNums_size,beTo_length];omega)).mono ?_;rintro e W5 ⟨rfl,hR5,hU5⟩
      have hp:t++ [128]++List.replicate (zeros t.length) 0++byt (strOfNums (beTo ((t.length:Int)*8) 8))=padF t:=by
        rw [beTo8,byt_str _ (be8_lt _)];rfl
      rw [hp] at hR5;have hb5:Bl w W5:=hb4'.trans (hU5.below (Nat.le_refl _) (by have:=hb4'.size;omega));clear hR4 hU5 hT4 hb4' hp;have hsh:Hid (shaF t=digTo (stateTo (padF t) ((padF t).length/64)) 8):=rfl;obtain⟨blk5,hbl5,_,_,hC5⟩:=hR5;have hok5:=stateTo_ok (padF t) ((padF t).length/64);have hl5:=stateTo_length (padF t) ((padF t).length/64);have hrg5:=hC5.range hl5 hbl5;generalize stateTo (padF t) ((padF t).length/64)=H at*
      have hst5:W5.rangeAt w.heap.size 0 (H.map (Value.int .u32)):=by
        have:=range_part (l:= []) (m:=H.map (Value.int .u32)) (r:=blk5.map (Value.int .u8)++ [.int .i64 (((padF t).length%64:Nat):Int),int u64 ((padF t).length:Int)]) (by rw [List.nil_append,←List.append_assoc];exact hrg5) 0 rfl;exact this
      have hix:=index40L H hl5;clear hrg5 hC5;go_wp2_with (refine wpList_load_mid rfl 178 _ rfl w.heap.size 0 rfl (H.map (Value.int .u32)) _ hst5 underlying178 rfl (by rw [size40];simp [hl5]) ?_);clear hst5
      go_loopw [4,24] (fun v i wr=>∃k:Nat,k≤8∧i= .int .i64 k∧v= .string (strOfNums (digTo H k))∧Bl w wr) (fun _ i _=>8-(intOf i).toNat)
      case atStart=>exact ⟨0,by omega,rfl,rfl,hb5⟩
      case round=>
        clear hb5;obtain⟨k,hk,rfl,rfl,hbr⟩:=hrel;by_cases hlt8:k<8
        · have hi8:=hix k hlt8;have hw:=lk_stOf hok5 k hlt8;obtain⟨hw0,hw1⟩:=hw;have hdl:=digTo_length H k
          have hcat:Hid (strOfNums (digTo H k)++strOfNums (beTo (lk H k) 4)=strOfNums (digTo H (k+1))):=by
            simp only [Hid];rw [str_append,beTo4,digTo]
          clear hix;go_wp2_with fail;refine(beI_any (lk H k) 4 wr hw0 (by omega) (by omega) (by omega)).mono ?_;rintro e W6 ⟨rfl,hb6⟩;have hb6':Bl w W6:=hbr.tr hb6;clear hb6;have hsm:(strOfNums (digTo H k)).size+(strOfNums (beTo (lk H k) 4)).size≤100:=by rw [strOfNums_size,strOfNums_size,beTo_length,hdl];omega
          go_wp2;go_roundw
          case rel=>
            have R:Value.string (strOfNums (digTo H k)++strOfNums (beTo (lk H k) 4))=Value.string (strOfNums (digTo H (k+1))):=by rw [hcat.out]
            first
              |exact ⟨k+1,by omega,by go_num,R,hb6'⟩
              |((repeat apply Exists.intro);exact⟨⟨k+1,by omega,by go_num,R,hb6'⟩,rfl⟩)
          case measure=>simp [intOf];omega
        · obtain rfl:k=8:=by omega
          go_wp2;go_ret;exact⟨by rw [hsh.out];rfl,hbr⟩
end
section
attribute [local go_sem ↓] Go.wp_at_zero Go.wp_at_succ
def catB:List ByteArray→List Int
  | []=> []
  |s::r=>byt s++catB r
def sizeB:List ByteArray→Nat
  | []=>0
  |s::r=>s.size+sizeB r
theorem methR (a:Addr)(w:World):(method 469 184 (.pointer (some a)) "loop.example/s02095/impl.take").run prog w= .ok (172,.pointer (some a)) w:=by kernel_rfl
theorem catB_snoc (ps:List ByteArray)(k:Nat)(h:k<ps.length):catB (ps.take (k+1))=catB (ps.take k)++byt ps[k]:=by
  induction ps generalizing k with
  |nil=>simp at h
  | cons s r ih=>
    cases k with
    |zero=>simp [catB]
    |succ k=>simp only [List.take_succ_cons,catB,List.getElem_cons_succ];rw [ih k (by simpa using h),List.append_assoc]
theorem catB_length:∀ps:List ByteArray,(catB ps).length=sizeB ps
  | []=>rfl
  |s::r=>by rw [catB,sizeB,List.length_append,byt_length,catB_length r]
theorem catB_lt:∀ps:List ByteArray,∀x∈catB ps,0≤x∧x<256
  | [],x,h=>by simp [catB] at h
  | s::r,x,h=>by
    rw [catB,List.mem_append] at h;rcases h with h|h
    · exact byt_lt s x h
    · exact catB_lt r x h
theorem lk_rep (i:Nat):0≤lk (List.replicate 64 (0:Int)) i∧lk (List.replicate 64 (0:Int)) i<256:=
  lk_lt (fun x hx=>by have:=List.eq_of_mem_replicate hx;omega) i
theorem sizeB_le (ps:List ByteArray)(k:Nat)(h:k<ps.length):(catB (ps.take k)).length+ps[k].size≤sizeB ps:=by
  induction ps generalizing k with
  |nil=>simp at h
  | cons s r ih=>
    cases k with
    |zero=>simp [catB,sizeB]
    | succ k=>
      have:=ih k (by simpa using h);simp only [List.take_succ_cons,catB,List.getElem_cons_succ,List.length_append,byt_length,sizeB];omega
theorem allI_any (b o g n cap:Nat)(t:List Int)(ps:List ByteArray)(w:World)(hR:RH w b o t (t.length:Int))(hT:TabK w)(hb0:b≠6)(hlen:t.length+sizeB ps≤1152921504606846976)
    (hps:ps.length=n)(hn:n≤100)(hc:∀i,i<n→w.cell? ⟨g,i,none⟩=some (.string (ps.getD i ByteArray.empty)))(hgb:g≠b):
    Calls prog 124 #[.iface 184 (.pointer (some ⟨b,o,none⟩)),.slice (some ⟨g,0,none⟩) n cap] w fun e w'=>e= .returned (.tuple #[])∧RH w' b o (t++catB ps) ((t++catB ps).length:Int)∧Upd b o w w':=by
  go_enter func124,ntmps124;go_wp2
  go_loopw [8] (fun i wr=>∃k:Nat,k≤n∧i= .int .i64 k∧RH wr b o (t++catB (ps.take k)) ((t++catB (ps.take k)).length:Int)∧Upd b o w wr) (fun i _=>n-(intOf i).toNat)
  case atStart=>exact ⟨0,by omega,rfl,by simpa [catB] using hR,Upd.refl _ _ _⟩
  case round=>
    obtain⟨k,hk,rfl,hR2,hU⟩:=hrel;by_cases hlt:k<n
    · have hck:=(hU.far (p:=⟨g,k,none⟩) (World.block_lt_of_cell? w _ (hc k hlt)) hgb).trans (hc k hlt);have hm:=methR ⟨b,o,none⟩;have hkp:k<ps.length:=by omega
      have hTr:TabK wr:=fun i hi=>(hU.far (p:=⟨6,i,none⟩) (World.block_lt_of_cell? w _ (hT i hi)) (fun e=>hb0 e.symm)).trans (hT i hi)
      have hsz:=sizeB_le ps k hkp;go_wp2_with fail;refine(takeI_any b o (t++catB (ps.take k)) ps[k] wr hR2 hTr hb0 (by rw [List.length_append];omega)).mono ?_;rintro e W2 ⟨rfl,hR3,hU3⟩;rw [List.append_assoc,←catB_snoc ps k hkp] at hR3;have hU4:=hU.trans hU3;clear hR2 hTr hck hm;go_wp2;go_roundw
      case rel=>
        first
          |exact ⟨k+1,by omega,by go_num,hR3,hU4⟩
          |((repeat apply Exists.intro);exact⟨⟨k+1,by omega,by go_num,hR3,hU4⟩,rfl⟩)
      case measure=>simp [intOf];omega
    · obtain rfl:k=n:=by omega
      rw [List.take_of_length_le (by omega)] at hR2;go_wp2
      go_end0
      exact⟨rfl,hR2,hU⟩
theorem hashOfI_any (g n cap:Nat)(ps:List ByteArray)(w:World)(hT:TabK w)(hlen:sizeB ps≤1000000000000)
    (hps:ps.length=n)(hn:n≤100)(hn0:0<n)(hc:∀i,i<n→w.cell? ⟨g,i,none⟩=some (.string (ps.getD i ByteArray.empty))):
    Cr 65 #[.slice (some ⟨g,0,none⟩) n cap] w (.string (strOfNums (shaF (catB ps)))):=by
  have hgw:6<w.heap.size:=World.block_lt_of_cell? w _ (hT 0 (by omega));have hgg:g<w.heap.size:=World.block_lt_of_cell? w _ (hc 0 hn0);have hz:=zero44;go_enter func65,ntmps65;go_wp2_with fail;refine(newI_any w).mono ?_;rintro e W1 ⟨rfl,hb1⟩;have hs1:=hb1.size;have hth:(W1.alloc (.cells zeroRh.toArray 181)).there W1.heap.size 0 74:=there_new W1 _ _ 74 (by simp [zeroRh_len]);have hnl:=newRh_len
  go_wp2_with (first
    | (refine wpList_store_mid rfl 181 _ _ rfl W1.heap.size 0 newRh.toArray rfl rfl (by simpa [hnl] using hth) (by rw [size44];simp [hnl]) (all_oneCell_toArray (rhL_one _ _ _ _)) ?_
       generalize hW2:World.setCells _ _ _ _=W2
       have hR2:RH W2 W1.heap.size 0 [] (([]:List Int).length:Int):=by
         rw [←hW2];exact⟨List.replicate 64 0,by simp,fun i=>lk_rep i,by simp,RC.of_range rfl (by simp) (World.rangeAt_setCells_same _ _ _ _ (by rw [hnl];exact hth)) (World.there_setCells hth _ _ _)⟩
       have hs2:W2.heap.size=W1.heap.size+1:=by rw [←hW2,setCells_size];simp
       have hb2:Bl W1 W2:=by rw [←hW2];exact below_setCells ((Below.refl _ _).alloc (Nat.le_refl _) _) (Nat.le_refl _) _ _
       clear hW2))
  have hb2':Bl w W2:=hb1.trans (hb2.mono hs1);have hT2:TabK W2:=fun i hi=>(hb2'.cell (p:=⟨6,i,none⟩) hgw).trans (hT i hi)
  refine(allI_any W1.heap.size 0 g n cap [] ps W2 hR2 hT2 (by omega) (by simp;omega) hps hn (fun i hi=>(hb2'.cell (p:=⟨g,i,none⟩) hgg).trans (hc i hi)) (by omega)).mono ?_;rintro e W3 ⟨rfl,hR3,hU3⟩;rw [List.nil_append] at hR3;have hb3:Bl w W3:=hb2'.trans (hU3.below hs1 (by omega));have hT3:TabK W3:=fun i hi=>(hb3.cell (p:=⟨6,i,none⟩) hgw).trans (hT i hi)
  clear hR2 hT2 hU3 hb2 hth hz;go_wp2_with fail;refine(sumI_any W1.heap.size 0 (catB ps) W3 hR3 hT3 (by rw [catB_length];exact hlen) (catB_lt ps)).mono ?_;rintro e W4 ⟨rfl,hb4⟩;go_wp2;go_ret;exact⟨rfl,hb3.tr hb4⟩
end
section
open Go.ChangeShapes Go.WideShapes Go.ChangeAt Go.Deep
theorem own:ownKnob prog.godebug=none:=by kernel_rfl
theorem laidOut:laidOutB prog=true:=by kernel_rfl
theorem gTab:prog.globalNamed "loop.example/s02095/impl.roundWords" =some 6:=by kernel_rfl
theorem gTabType:(prog.globals[6]?).map (·.type)=some 314:=by kernel_rfl
theorem cells61:prog.cellsOf 314=64:=by kernel_rfl
theorem cells29:prog.cellsOf 177=1:=by kernel_rfl
theorem table1 {W:World}(h:laidMetH prog [("loop.example/s02095/impl.roundWords",Rows.laid_loop_example_s02095_impl_roundWords)] W):TabK W:=fun i hi=>by
  have ht:Lib.TabIs prog W "loop.example/s02095/impl.roundWords" .u32 kTab:=
    Lib.tabIs_of_head (rest:= []) gTab gTabType underlying314 underlying177 cells29 cells61 h
  exact ht.cell gTab i hi
theorem table {W:World}{l:List (String×DataW Unit)}(h:laidMetH prog l W)(e:l.filter (fun x=>x.1== "loop.example/s02095/impl.roundWords")= [("loop.example/s02095/impl.roundWords",Rows.laid_loop_example_s02095_impl_roundWords)]):TabK W:=by
  have h1:=laidMetH.filter (fun x=>x.1== "loop.example/s02095/impl.roundWords") h;rw [e] at h1;exact table1 h1
def litInts:DataW Unit→List Int
  | .agg l=>l.map fun
    | .lit (.int _ n)=>n
    |_=>0
  |_=> []
def lay (w:World)(g:Nat)(k:IntKind)(l:List Int):World:=
  { w with heap:=w.heap.modify g fun
      | .cells _ t frozen=> .cells (l.map (Value.int k)).toArray t frozen
      |o=>o}
end
section
open Go.Extern.Stop Go.Stop Go.Extern
def sen (a:Addr):Value:= .iface 336 (.pointer (some a))
def flt (s:ByteArray)(v:Value):Value:= .iface 150 (.agg #[.string s,v])
structure Sn (w:World)(a0 a1 a2 a3:Addr):Prop where
  c0:w.cell? ⟨0,0,none⟩=some (sen a0)
  c1:w.cell? ⟨2,0,none⟩=some (sen a1)
  c2:w.cell? ⟨1,0,none⟩=some (sen a2)
  c3:w.cell? ⟨3,0,none⟩=some (sen a3)
  b0:∃cs t,w.heap[a0.block]? =some (.cells cs t (0,0))
  b1:∃cs t,w.heap[a1.block]? =some (.cells cs t (0,0))
  b2:∃cs t,w.heap[a2.block]? =some (.cells cs t (0,0))
  b3:∃cs t,w.heap[a3.block]? =some (.cells cs t (0,0))
  n01:a0≠a1
  n02:a0≠a2
  n03:a0≠a3
  n12:a1≠a2
  n13:a1≠a3
  n23:a2≠a3
structure So (w:World)(a0 a2:Addr):Prop where
  c0:w.cell? ⟨0,0,none⟩=some (sen a0)
  c2:w.cell? ⟨1,0,none⟩=some (sen a2)
theorem So.keep {w w':World}{a0 a2:Addr}(h:So w a0 a2)(hb:Bl w w'):So w' a0 a2:=
  ⟨(hb.cell (p:=⟨0,0,none⟩) (World.block_lt_of_cell? w _ h.c0)).trans h.c0,(hb.cell (p:=⟨1,0,none⟩) (World.block_lt_of_cell? w _ h.c2)).trans h.c2⟩
def Er (a0 a1 a2 a3:Addr)(v:Value)(c:Int):Prop:=(∃T x,v= .iface T x)∧∀w,Sn w a0 a1 a2 a3→Cr 108 #[v] w (.int .i64 c)
end
end Go.Proofs.YtjhbckngdclleaaGreatDoor
