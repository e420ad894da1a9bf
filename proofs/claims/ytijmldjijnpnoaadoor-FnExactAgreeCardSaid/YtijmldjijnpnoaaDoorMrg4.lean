import Derived.Test.YtijmldjijnpnoaaDoorMrg3
import Derived.Test.YtijmldjijnpnoaaDoorCards
import Derived.Test.YtijmldjijnpnoaaDoorTie
import Derived.OpenShut
import Derived.ShutString
import Derived.OpenVars
import Derived.Deep.DeepHandedRow
import Derived.Lib.LaidTab
set_option linter.unusedVariables false
set_option maxRecDepth 100000
set_option maxHeartbeats 16000000
namespace Go.Proofs.YtijmldjijnpnoaaDoor
open Go.Proofs.Tryd Go.RowKit
open Go.Value (int)
open Go.IntKind (u64)
def lenV:Value→Nat
  | .slice _ n _=>n
  |_=>0
theorem padS_any (s:ByteArray)(w:World)(hs:s.size≤1073741824):
    Calls prog 52 #[.string s] w fun e w'=>∃g' n' cap',e= .returned (.slice (some ⟨g',0,none⟩) n' cap')∧
      Row w' w.heap.size g' n' cap' ((padF (byt s)).map (Value.int .u8))∧Bl w w':=by
  obtain⟨i0,hi,hz0,hz1,hz2⟩:=info_parts infoU8
  obtain⟨cap0,w1,hcv,hrow,hbl⟩:∃cap0 w1,(convert 9 85 (.string s)).run prog w= .ok (.slice (some ⟨w.heap.size,0,none⟩) s.size cap0) w1∧
      Row w1 w.heap.size w.heap.size s.size cap0 ((byt s).map (Value.int .u8))∧Bl w w1:=
    ⟨_,_,Lib.run_convert_string_bytes w 9 85 5 s underlying9 underlying85 underlying5,row_bytes w _ s w.heap.size (Nat.le_refl _) (by unfold maxLen;omega)⟩
  have hsz1:w.heap.size≤w1.heap.size:=hbl.size;go_enter func52,ntmps52
  go_wp2_with (first
    |(at_builtin;refine wpList_append_row rfl _ _ 85 rfl w.heap.size 5 i0 (.int .u8 0) 1 underlying85 hi hz0 hz1 hz2 rfl w.heap.size s.size cap0 ((byt s).map (Value.int .u8)) rfl (hrow.alloc _) ⟨w1.heap.size,0,none⟩ 1 1 [.int .u8 128] rfl rfl (World.news_of_block (cs:=#[.int .u8 128]) (heap_alloc_new w1 _)) (by simp [Value.oneCell']) (by unfold maxLen;omega) (by omega) (by simp;omega) _ rfl ?_;intro g2 cap2 w2 hrow2 hgr2 _ _)
    |go_in)
  have hbl2:Bl w w2:=(hbl.alloc hsz1 _).grown hgr2 (by simp;omega) (fun r hr=>by simp at hr;omega);clear hrow hbl hgr2 hcv hsz1
  go_loopw [3] (fun v wr=>∃z g cap:Nat,z≤zeros s.size∧v= .slice (some ⟨g,0,none⟩) (s.size+1+z) cap∧Row wr w.heap.size g (s.size+1+z) cap ((byt s++ [128]++List.replicate z 0).map (Value.int .u8))∧Bl w wr) (fun v _=>s.size+1+zeros s.size-lenV v)
  case atStart=>exact ⟨0,g2,cap2,Nat.zero_le _,rfl,by simpa using hrow2,hbl2⟩
  case round=>
    clear hrow2 hbl2;obtain⟨z,g,cap,hz,rfl,hrow,hbl⟩:=hrel;have hsz1:w.heap.size≤wr.heap.size:=hbl.size;have hzl:zeros s.size<64:=Nat.mod_lt _ (by omega);by_cases hlt:z<zeros s.size
    · have ht:(((s.size:Int)+1+(z:Int))%64 !=56)=true:=by
        rw [bne_iff_ne];unfold zeros at hlt;omega
      go_wp2_with (first
        |(at_builtin;refine wpList_append_row rfl _ _ 85 rfl w.heap.size 5 i0 (.int .u8 0) 1 underlying85 hi hz0 hz1 hz2 rfl g (s.size+1+z) cap ((byt s++ [128]++List.replicate z 0).map (Value.int .u8)) rfl (hrow.alloc _) ⟨wr.heap.size,0,none⟩ 1 1 [.int .u8 0] rfl rfl (World.news_of_block (cs:=#[.int .u8 0]) (heap_alloc_new wr _)) (by simp [Value.oneCell']) (by unfold maxLen;omega) (by omega) (by simp;omega) _ rfl ?_;intro g3 cap3 w3 hrow3 hgr3 _ _)
        |go_in)
      go_roundw
      case rel=>
        have R1:Row w3 w.heap.size g3 (s.size+1+(z+1)) cap3 ((byt s++ [128]++List.replicate (z+1) 0).map (Value.int .u8)):=by
          rw [List.replicate_succ',←List.append_assoc,List.map_append,←Nat.add_assoc];exact hrow3
        have R2:Bl w w3:=(hbl.alloc hsz1 _).grown hgr3 (by simp;omega) (fun r hr=>by simp at hr;have:=hrow.lo;omega)
        first
          |exact ⟨z+1,g3,cap3,by omega,rfl,R1,R2⟩
          |((repeat apply Exists.intro);exact⟨⟨z+1,g3,cap3,by omega,rfl,R1,R2⟩,rfl⟩)
      case measure=>simp [lenV];omega
    · obtain rfl:z=zeros s.size:=by omega
      have ht:(((s.size:Int)+1+(zeros s.size:Int))%64 !=56)=false:=by
        rw [bne_eq_false_iff_eq];unfold zeros;omega
      have hN:0≤(s.size:Int)*8∧(s.size:Int)*8≤8589934592:=by omega
      go_wp2;clear hz hlt ht
      go_loopw [3,5] (fun v i wr=>∃j g cap:Nat,j≤8∧i= .int .i64 (7-(j:Int))∧v= .slice (some ⟨g,0,none⟩) (s.size+1+zeros s.size+j) cap∧Row wr w.heap.size g (s.size+1+zeros s.size+j) cap ((byt s++ [128]++List.replicate (zeros s.size) 0++(be8 (s.size*8)).take j).map (Value.int .u8))∧Bl w wr) (fun _ i _=>(intOf i+1).toNat)
      case atStart=>exact ⟨0,g,cap,by omega,rfl,rfl,by simpa using hrow,hbl⟩
      case round=>
        clear hrow hbl hsz1;obtain⟨j,g1,cap1,hj,rfl,rfl,hrow,hbl⟩:=hrel;have hsz1:w.heap.size≤wr.heap.size:=hbl.size;by_cases hlt:j<8
        · have hg0:(0:Int)≤7-(j:Int):=by omega
          go_wp2_with (first
            |(at_builtin;refine wpList_append_row rfl _ _ 85 rfl w.heap.size 5 i0 (.int .u8 0) 1 underlying85 hi hz0 hz1 hz2 rfl g1 (s.size+1+zeros s.size+j) cap1 ((byt s++ [128]++List.replicate (zeros s.size) 0++(be8 (s.size*8)).take j).map (Value.int .u8)) rfl (hrow.alloc _) ⟨wr.heap.size,0,none⟩ 1 1 [.int .u8 (beAt (s.size*8) j)] rfl rfl (World.news_of_block (cs:=#[.int .u8 (beAt (s.size*8) j)]) (heap_alloc_new wr _)) (by simp [Value.oneCell']) (by unfold maxLen;omega) (by omega) (by simp;omega) _ rfl ?_;intro g3 cap3 w3 hrow3 hgr3 _ _)
            |go_in)
          go_roundw
          case rel=>
            have R1:Row w3 w.heap.size g3 (s.size+1+zeros s.size+(j+1)) cap3 ((byt s++ [128]++List.replicate (zeros s.size) 0++(be8 (s.size*8)).take (j+1)).map (Value.int .u8)):=by
              rw [be8_take _ j hlt,←List.append_assoc,List.map_append,←Nat.add_assoc];exact hrow3
            have R2:Bl w w3:=(hbl.alloc hsz1 _).grown hgr3 (by simp;omega) (fun r hr=>by simp at hr;have:=hrow.lo;omega);have R3:Value.int .i64 (7-(j:Int)-1)=Value.int .i64 (7-((j+1:Nat):Int)):=by congr 1;omega
            first
              |exact ⟨j+1,g3,cap3,by omega,R3,rfl,R1,R2⟩
              |((repeat apply Exists.intro);exact⟨⟨j+1,g3,cap3,by omega,R3,rfl,R1,R2⟩,rfl⟩)
          case measure=>simp [intOf];omega
        · obtain rfl:j=8:=by omega
          go_wp2;go_ret;exact⟨g1,_,cap1,rfl,by rw [padF_byt];exact hrow,hbl⟩
theorem tableS_any (w:World):
    Calls prog 51 #[] w fun e w'=>∃g',e= .returned (.slice (some ⟨g',0,none⟩) 64 64)∧
      w'.ownsRow w.heap.size 58 1 (.slice (some ⟨g',0,none⟩) 64 64) 64 (kTab.map (Value.int .u32))∧Bl w w':=by
  go_enter func51,ntmps51;go_wp2;go_ret;exact⟨w.heap.size,rfl,World.ownsRow_lit w _ 64 (Nat.le_refl _) (by decide) rfl,(Below.refl _ _).alloc (Nat.le_refl _) _⟩
section
attribute [local go_sem ↓] Go.wp_at_zero Go.wp_at_succ
theorem shaS_any (s:ByteArray)(w:World)(hs:s.size≤1073741824):
    Cr 28 #[.string s] w (.string (strOfNums (shaF (byt s)))):=by
  obtain⟨i0,hi,hz0,hz1,hz2⟩:=info_parts infoU8;go_enter func28,ntmps28;go_wp2_with fail;generalize hW1:w.alloc _=W1;have hb1:Bl w W1:=by rw [←hW1];exact(Below.refl _ _).alloc (Nat.le_refl _) _
  have hs1:W1.heap.size=w.heap.size+1:=by rw [←hW1];simp
  have hc1:∀i,i<8→W1.cell? ⟨w.heap.size,i,none⟩=some (.int .u32 (lk h0L i)):=by
    intro i hi8;rw [←hW1,cell_of_row _ _ _ _ _ _ (heap_alloc_new w _)]
    match i,hi8 with
    |0,_=>rfl
    |1,_=>rfl
    |2,_=>rfl
    |3,_=>rfl
    |4,_=>rfl
    |5,_=>rfl
    |6,_=>rfl
    |7,_=>rfl
  clear hW1;refine(tableS_any _).mono ?_;rintro e W2 ⟨gk,rfl,hownK,hb2⟩;have hs2:=hb2.size;go_wp2_with fail;refine(padS_any s W2 hs).mono ?_;rintro e W3 ⟨g,n,cap,rfl,hrow,hb3⟩;have hs3:=hb3.size;have hlk:=hownK.lt gk rfl;have hlen:=hrow.len;rw [List.length_map,padF_length,byt_length] at hlen;have hzl:zeros s.size<64:=Nat.mod_lt _ (by omega);have hmod:=padF_mod (byt s);rw [padF_length,byt_length,hlen] at hmod;have hpb:=lk_lt (padF_lt (byt_lt s));have hgl:=hrow.lo;have hgh:=hrow.hi;have hcK:∀i,i<64→W3.cell? ⟨gk,i,none⟩=some (.int .u32 (lk kTab i)):=fun i hi64=>(hb3.cell (p:=⟨gk,i,none⟩) hlk.2).trans (own_cell hownK i hi64)
  have hcm:∀i,i<n→W3.cell? ⟨g,i,none⟩=some (.int .u8 (lk (padF (byt s)) i)):=fun i hin=>hrow.cell i hin
  have hc3:∀i,i<8→W3.cell? ⟨w.heap.size,i,none⟩=some (.int .u32 (lk h0L i)):=fun i h8=>(hb3.cell (p:=⟨w.heap.size,i,none⟩) (by simp;omega)).trans ((hb2.cell (p:=⟨w.heap.size,i,none⟩) (by simp;omega)).trans (hc1 i h8))
  have hbw:Bl w W3:=(hb1.trans (hb2.mono (by omega))).trans (hb3.mono (by omega));clear hownK hrow hb1 hb2 hb3 hc1;go_wp2_with fail
  go_loopw [3,6] (fun v i wr=>∃k p gh:Nat,Hid (p=64*k)∧p≤n∧i= .int .i64 p∧v= .slice (some ⟨gh,0,none⟩) 8 8∧gh<wr.heap.size∧(∀i,i<8→wr.cell? ⟨gh,i,none⟩=some (.int .u32 (lk (stateTo (padF (byt s)) k) i)))∧Bl W3 wr) (fun _ i _=>n-(intOf i).toNat)
  case atStart=>exact ⟨0,0,w.heap.size,rfl,by omega,rfl,rfl,by omega,hc3,Below.refl _ _⟩
  case round=>
    clear hc3;obtain⟨k,p,gh,hp,hpn,rfl,rfl,hghr,hch,hbr⟩:=hrel;have hsr:=hbr.size;have hpn2:p<n→p+64≤n:=by have:=hp.out;omega
    by_cases hlt:p<n
    · go_wp2_with fail;refine(blockS_any gh 8 gk 64 g cap n (stateTo (padF (byt s)) k) kTab (padF (byt s)) p wr hch (stateTo_ok _ k) hghr (fun i h64=>(hbr.cell (p:=⟨gk,i,none⟩) (by simp;omega)).trans (hcK i h64)) (by omega) (fun i hin=>(hbr.cell (p:=⟨g,i,none⟩) hgh).trans (hcm i hin)) hpb (by omega) (hpn2 hlt) (by omega)).mono ?_;rintro e w4 ⟨g4,rfl,hown4,hb4⟩;have hl4:=hown4.lt g4 rfl;have hs4:=hb4.size;go_wp2;go_roundw
      case rel=>
        have R1:∀i,i<8→w4.cell? ⟨g4,i,none⟩=some (.int .u32 (lk (stateTo (padF (byt s)) (k+1)) i)):=fun i h8=>by
          rw [own_cell hown4 i h8,stateTo,hp.out]
        have R2:Bl W3 w4:=hbr.trans (hb4.mono (by omega));have R3:Hid (p+64=64*(k+1)):=by have:=hp.out;simp only [Hid];omega
        first
          |exact ⟨k+1,p+64,g4,R3,hpn2 hlt,by go_num,rfl,hl4.2,R1,R2⟩
          |((repeat apply Exists.intro);exact⟨⟨k+1,p+64,g4,R3,hpn2 hlt,by go_num,rfl,hl4.2,R1,R2⟩,rfl⟩)
      case measure=>simp [intOf];omega
    · have hkn:k=(padF (byt s)).length/64:=by rw [padF_length,byt_length];have:=hp.out;omega
      have hch':∀i,i<8→wr.cell? ⟨gh,i,none⟩=some (.int .u32 (lk (stateTo (padF (byt s)) ((padF (byt s)).length/64)) i)):=by rw [←hkn];exact hch
      have hok:=stateTo_ok (padF (byt s)) ((padF (byt s)).length/64);have hsh:Hid (shaF (byt s)=digTo (stateTo (padF (byt s)) ((padF (byt s)).length/64)) 8):=rfl;clear hch hkn hcm hcK;generalize stateTo (padF (byt s)) ((padF (byt s)).length/64)=H at*
      have hw32:∀i,i<8→0≤lk H i∧lk H i<4294967296:=by
        obtain⟨o1,o2,o3,o4,o5,o6,o7,o8⟩:=hok;intro i h8
        match i,h8 with
        |0,_=>exact o1
        |1,_=>exact o2
        |2,_=>exact o3
        |3,_=>exact o4
        |4,_=>exact o5
        |5,_=>exact o6
        |6,_=>exact o7
        |7,_=>exact o8
      clear hok;go_wp2;generalize wr=WA at*
      go_loopw [7,8] (fun v i w5=>∃k gq cq:Nat,k≤8∧i= .int .i64 k∧v= .slice (some ⟨gq,0,none⟩) (4*k) cq∧Row w5 WA.heap.size gq (4*k) cq ((digTo H k).map (Value.int .u8))∧Bl WA w5) (fun _ i _=>8-(intOf i).toNat)
      case atStart=>exact ⟨0,WA.heap.size,0,by omega,rfl,rfl,Row.of_block (n:=0) (cs:=#[]) (heap_alloc_new WA _) (Nat.le_refl _) (by simp) (by simp),(Below.refl _ _).alloc (Nat.le_refl _) _⟩
      case round=>
        obtain⟨k2,gq,cq,hk,rfl,rfl,hrow,hbr2⟩:=hrel;have hsz2:=hbr2.size;by_cases hlt2:k2<8
        · have hc:=(hbr2.cell (p:=⟨gh,k2,none⟩) hghr).trans (hch' k2 hlt2);have hx:=hw32 k2 hlt2;have q0:(0:Int)≤(k2:Int):=Int.natCast_nonneg _;have q1:(k2:Int)<8:=by omega
          have hng:gh≠gq:=by have:=hrow.lo;omega
          have hnw:gh≠wr.heap.size:=by omega
          have hdl:=digTo_length H k2;clear hlt;go_wp2
          go_region_held3 (fun w'=>w'.cell? ⟨gh,k2,none⟩=some (.int .u32 (lk H k2)))
            (first
              |go_keep
              |(rw [hgrow.cell_far _ (by simp;omega) (by simp;omega)];assumption))
            ((refine step_append_row (by rfl) _ _ _ (by rfl) WA.heap.size 5 i0 _ 1 underlying85 hi hz0 hz1 hz2 rfl gq (4*k2) cq ((digTo H k2).map (Value.int .u8)) (by rfl) ((hrow.alloc _).drew)
                ⟨wr.heap.size,0,none⟩ 4 4 ((be4 (lk H k2)).map (Value.int .u8)) (by rfl) (by rfl) (World.news_of_block (cs:=((be4 (lk H k2)).map (Value.int .u8)).toArray) (t:=5) (fr:=(0,0)) (heap_alloc_new wr _)) (by simp [Value.oneCell',be4])
                (by unfold maxLen;omega) (by omega) (by simp;omega) (wr.heap.size+1) (by simp) ?_;intro gg cap w1 hrow1 hgrow hat hkeep))
          go_wp2;go_roundw
          case rel=>
            have R1:Row w1 WA.heap.size gg (4*(k2+1)) cap ((digTo H (k2+1)).map (Value.int .u8)):=by
              rw [digTo,List.map_append,Nat.mul_add];exact hrow1
            have R2:Bl WA w1:=(((hbr2.alloc hsz2 _).drew).grown hgrow (by simp;omega) (fun r hr=>by simp at hr;have:=hrow.lo;omega))
            first
              |exact ⟨k2+1,gg,cap,by omega,by go_num,rfl,R1,R2⟩
              |((repeat apply Exists.intro);exact⟨⟨k2+1,gg,cap,by omega,by go_num,rfl,R1,R2⟩,rfl⟩)
          case measure=>simp [intOf];omega
        · obtain rfl:k2=8:=by omega
          have hcv:=run_convert_bytes_arg (P:=prog) wr 85 5 underlying85 underlying5 gq 0 (4*8) cq (digTo H 8) (digTo_length H 8) (fun i h=>by rw [Nat.zero_add];exact hrow.cell i h) 9 underlying9;go_wp2;go_ret;exact⟨by rw [hsh.out];rfl,hbw.trans ((hbr.trans (hbr2.mono hsr)).mono (by omega))⟩
end
section
open Go.ChangeShapes Go.WideShapes Go.ChangeAt
theorem own:ownKnob prog.godebug=none:=by kernel_rfl
theorem laidOut:laidOutB prog=true:=by kernel_rfl
theorem gTab:prog.globalNamed "loop.example/s02095/impl.roundWords" =some 2:=by kernel_rfl
theorem gTabType:(prog.globals[2]?).map (·.type)=some 122:=by kernel_rfl
theorem cells61:prog.cellsOf 122=64:=by kernel_rfl
theorem cells29:prog.cellsOf 58=1:=by kernel_rfl
theorem varsR:varsRowed prog ["loop.example/s02095/impl.roundWords"]=true:=by kernel_rfl
theorem table {W:World}(h:laidMetH prog [("loop.example/s02095/impl.roundWords",Rows.laid_loop_example_s02095_impl_roundWords)] W):TabK W:=fun i hi=>by
  have ht:Lib.TabIs prog W "loop.example/s02095/impl.roundWords" .u32 kTab:=
    Lib.tabIs_of_head (rest:= []) gTab gTabType underlying122 underlying58 cells29 cells61 h
  exact ht.cell gTab i hi
noncomputable def laidWorld (os:Os):World:=
  {World.holding prog os ⟨#[],#[],[]⟩ with heap:=(World.holding prog os ⟨#[],#[],[]⟩).heap.modify 2 fun
      | .cells _ t frozen=> .cells (kTab.map (Value.int .u32)).toArray t frozen
      |o=>o}
theorem u64_nat {x:Int}(h:(Lit.int .u64 x).wf=true):∃n:Nat,x=n∧n<18446744073709551616:=by
  have h2:0≤x∧x≤18446744073709551615:=by simpa [Lit.wf,IntKind.min,IntKind.max,IntKind.signed,IntKind.bits] using h
  exact⟨x.toNat,by omega,by omega⟩
end
end Go.Proofs.YtijmldjijnpnoaaDoor
