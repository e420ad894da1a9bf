import Derived.Test.YtjhbckngdclleaaGreatDoorMrg13
set_option linter.unusedVariables false
set_option maxRecDepth 100000
set_option maxHeartbeats 16000000
namespace Go.Proofs.YtjhbckngdclleaaGreatDoor
open Go.Proofs.Tryz Go.RowKit
open Go.Value (int)
open Go.IntKind (u64)
theorem tableS_any (w:World):
    Calls prog 152 #[] w fun e w'=>∃g',e= .returned (.slice (some ⟨g',0,none⟩) 64 64)∧
      w'.ownsRow w.heap.size 177 1 (.slice (some ⟨g',0,none⟩) 64 64) 64 (kTab.map (Value.int .u32))∧Bl w w':=by
  go_enter func152,ntmps152;go_wp2;go_ret;exact⟨w.heap.size,rfl,World.ownsRow_lit w _ 64 (Nat.le_refl _) (by decide) rfl,(Below.refl _ _).alloc (Nat.le_refl _) _⟩
section
attribute [local go_sem ↓] Go.wp_at_zero Go.wp_at_succ
theorem shaS_any (s:ByteArray)(w:World)(hs:s.size≤1073741824):
    Cr 99 #[.string s] w (.string (strOfNums (shaF (byt s)))):=by
  obtain⟨i0,hi,hz0,hz1,hz2⟩:=info_parts infoU8;go_enter func99,ntmps99;go_wp2_with fail;generalize hW1:w.alloc _=W1;have hb1:Bl w W1:=by rw [←hW1];exact(Below.refl _ _).alloc (Nat.le_refl _) _
  have hs1:W1.heap.size=w.heap.size+1:=by rw [←hW1];simp
  have hc1:∀i,i<8→W1.cell? ⟨w.heap.size,i,none⟩=some (.int .u32 (lk h0L i)):=by
    intro i hi8;rw [←hW1,cell_of_row _ _ _ _ _ _ (heap_alloc_new w _)]
    match i,hi8 with
    |0,_=>rfl
    |1,_=>rfl
    |2,_=>rfl
    |3,_=>rfl
    |4,_=>rfl
    |5,_=>rfl
    |6,_=>rfl
    |7,_=>rfl
  clear hW1;refine(tableS_any _).mono ?_;rintro e W2 ⟨gk,rfl,hownK,hb2⟩;have hs2:=hb2.size;go_wp2_with fail;refine(padS_any s W2 hs).mono ?_;rintro e W3 ⟨g,n,cap,rfl,hrow,hb3⟩;have hs3:=hb3.size;have hlk:=hownK.lt gk rfl;have hlen:=hrow.len;rw [List.length_map,padF_length,byt_length] at hlen;have hzl:zeros s.size<64:=Nat.mod_lt _ (by omega);have hmod:=padF_mod (byt s);rw [padF_length,byt_length,hlen] at hmod;have hpb:=lk_lt (padF_lt (byt_lt s));have hgl:=hrow.lo;have hgh:=hrow.hi;have hcK:∀i,i<64→W3.cell? ⟨gk,i,none⟩=some (.int .u32 (lk kTab i)):=fun i hi64=>(hb3.cell (p:=⟨gk,i,none⟩) hlk.2).trans (own_cell hownK i hi64)
  have hcm:∀i,i<n→W3.cell? ⟨g,i,none⟩=some (.int .u8 (lk (padF (byt s)) i)):=fun i hin=>hrow.cell i hin
  have hc3:∀i,i<8→W3.cell? ⟨w.heap.size,i,none⟩=some (.int .u32 (lk h0L i)):=fun i h8=>(hb3.cell (p:=⟨w.heap.size,i,none⟩) (by simp;omega)).trans ((hb2.cell (p:=⟨w.heap.size,i,none⟩) (by simp;omega)).trans (hc1 i h8))
  have hbw:Bl w W3:=(hb1.trans (hb2.mono (by omega))).trans (hb3.mono (by omega));clear hownK hrow hb1 hb2 hb3 hc1;go_wp2_with fail
  go_loopw [3,6] (fun v i wr=>∃k p gh:Nat,Hid (p=64*k)∧p≤n∧i= .int .i64 p∧v= .slice (some ⟨gh,0,none⟩) 8 8∧gh<wr.heap.size∧(∀i,i<8→wr.cell? ⟨gh,i,none⟩=some (.int .u32 (lk (stateTo (padF (byt s)) k) i)))∧Bl W3 wr) (fun _ i _=>n-(intOf i).toNat)
  case atStart=>exact ⟨0,0,w.heap.size,rfl,by omega,rfl,rfl,by omega,hc3,Below.refl _ _⟩
  case round=>
    clear hc3;obtain⟨k,p,gh,hp,hpn,rfl,rfl,hghr,hch,hbr⟩:=hrel;have hsr:=hbr.size;have hpn2:p<n→p+64≤n:=by have:=hp.out;omega
    by_cases hlt:p<n
    · go_wp2_with fail;refine(blockS_any gh 8 gk 64 g cap n (stateTo (padF (byt s)) k) kTab (padF (byt s)) p wr hch (stateTo_ok _ k) hghr (fun i h64=>(hbr.cell (p:=⟨gk,i,none⟩) (by simp;omega)).trans (hcK i h64)) (by omega) (fun i hin=>(hbr.cell (p:=⟨g,i,none⟩) hgh).trans (hcm i hin)) hpb (by omega) (hpn2 hlt) (by omega)).mono ?_;rintro e w4 ⟨g4,rfl,hown4,hb4⟩;have hl4:=hown4.lt g4 rfl;have hs4:=hb4.size;go_wp2;go_roundw
      case rel=>
        have R1:∀i,i<8→w4.cell? ⟨g4,i,none⟩=some (.int .u32 (lk (stateTo (padF (byt s)) (k+1)) i)):=fun i h8=>by
          rw [own_cell hown4 i h8,stateTo,hp.out]
        have R2:Bl W3 w4:=hbr.trans (hb4.mono (by omega));have R3:Hid (p+64=64*(k+1)):=by have:=hp.out;simp only [Hid];omega
        first
          |exact ⟨k+1,p+64,g4,R3,hpn2 hlt,by go_num,rfl,hl4.2,R1,R2⟩
          |((repeat apply Exists.intro);exact⟨⟨k+1,p+64,g4,R3,hpn2 hlt,by go_num,rfl,hl4.2,R1,R2⟩,rfl⟩)
      case measure=>simp [intOf];omega
    · have hkn:k=(padF (byt s)).length/64:=by rw [padF_length,byt_length];have:=hp.out;omega
      have hch':∀i,i<8→wr.cell? ⟨gh,i,none⟩=some (.int .u32 (lk (stateTo (padF (byt s)) ((padF (byt s)).length/64)) i)):=by rw [←hkn];exact hch
      have hok:=stateTo_ok (padF (byt s)) ((padF (byt s)).length/64);have hsh:Hid (shaF (byt s)=digTo (stateTo (padF (byt s)) ((padF (byt s)).length/64)) 8):=rfl;clear hch hkn hcm hcK;generalize stateTo (padF (byt s)) ((padF (byt s)).length/64)=H at*
      have hw32:∀i,i<8→0≤lk H i∧lk H i<4294967296:=by
        obtain⟨o1,o2,o3,o4,o5,o6,o7,o8⟩:=hok;intro i h8
        match i,h8 with
        |0,_=>exact o1
        |1,_=>exact o2
        |2,_=>exact o3
        |3,_=>exact o4
        |4,_=>exact o5
        |5,_=>exact o6
        |6,_=>exact o7
        |7,_=>exact o8
      clear hok;go_wp2;generalize wr=WA at*
      go_loopw [7,8] (fun v i w5=>∃k gq cq:Nat,k≤8∧i= .int .i64 k∧v= .slice (some ⟨gq,0,none⟩) (4*k) cq∧Row w5 WA.heap.size gq (4*k) cq ((digTo H k).map (Value.int .u8))∧Bl WA w5) (fun _ i _=>8-(intOf i).toNat)
      case atStart=>exact ⟨0,WA.heap.size,0,by omega,rfl,rfl,Row.of_block (n:=0) (cs:=#[]) (heap_alloc_new WA _) (Nat.le_refl _) (by simp) (by simp),(Below.refl _ _).alloc (Nat.le_refl _) _⟩
      case round=>
        obtain⟨k2,gq,cq,hk,rfl,rfl,hrow,hbr2⟩:=hrel;have hsz2:=hbr2.size;by_cases hlt2:k2<8
        · have hc:=(hbr2.cell (p:=⟨gh,k2,none⟩) hghr).trans (hch' k2 hlt2);have hx:=hw32 k2 hlt2;have q0:(0:Int)≤(k2:Int):=Int.natCast_nonneg _;have q1:(k2:Int)<8:=by omega
          have hng:gh≠gq:=by have:=hrow.lo;omega
          have hnw:gh≠wr.heap.size:=by omega
          have hdl:=digTo_length H k2;clear hlt;go_wp2
          go_region_held3 (fun w'=>w'.cell? ⟨gh,k2,none⟩=some (.int .u32 (lk H k2)))
            (first
              |go_keep
              |(rw [hgrow.cell_far _ (by simp;omega) (by simp;omega)];assumption))
            ((refine step_append_row (by rfl) _ _ _ (by rfl) WA.heap.size 5 i0 _ 1 underlying35 hi hz0 hz1 hz2 rfl gq (4*k2) cq ((digTo H k2).map (Value.int .u8)) (by rfl) ((hrow.alloc _).drew)
                ⟨wr.heap.size,0,none⟩ 4 4 ((be4 (lk H k2)).map (Value.int .u8)) (by rfl) (by rfl) (World.news_of_block (cs:=((be4 (lk H k2)).map (Value.int .u8)).toArray) (t:=5) (fr:=(0,0)) (heap_alloc_new wr _)) (by simp [Value.oneCell',be4])
                (by unfold maxLen;omega) (by omega) (by simp;omega) (wr.heap.size+1) (by simp) ?_;intro gg cap w1 hrow1 hgrow hat hkeep))
          go_wp2;go_roundw
          case rel=>
            have R1:Row w1 WA.heap.size gg (4*(k2+1)) cap ((digTo H (k2+1)).map (Value.int .u8)):=by
              rw [digTo,List.map_append,Nat.mul_add];exact hrow1
            have R2:Bl WA w1:=(((hbr2.alloc hsz2 _).drew).grown hgrow (by simp;omega) (fun r hr=>by simp at hr;have:=hrow.lo;omega))
            first
              |exact ⟨k2+1,gg,cap,by omega,by go_num,rfl,R1,R2⟩
              |((repeat apply Exists.intro);exact⟨⟨k2+1,gg,cap,by omega,by go_num,rfl,R1,R2⟩,rfl⟩)
          case measure=>simp [intOf];omega
        · obtain rfl:k2=8:=by omega
          have hcv:=run_convert_bytes_arg (P:=prog) wr 35 5 underlying35 underlying5 gq 0 (4*8) cq (digTo H 8) (digTo_length H 8) (fun i h=>by rw [Nat.zero_add];exact hrow.cell i h) 9 underlying9;go_wp2;go_ret;exact⟨by rw [hsh.out];rfl,hbw.trans ((hbr.trans (hbr2.mono hsr)).mono (by omega))⟩
end
def xorL (l:List Int)(m:Int):List Int:=l.map (fun x=>bits BinOp.xor IntKind.u8 x m)
def keyL (k:List Int):List Int:=k++List.replicate (64-k.length) 0
def kkL (key:List Int):List Int:=keyL (if 64<key.length then shaF key else key)
def hmacF (key s:List Int):List Int:=shaF (xorL (kkL key) 92++shaF (xorL (kkL key) 54++s))
theorem bits8 (a m:Int):0≤bits BinOp.xor IntKind.u8 a m∧bits BinOp.xor IntKind.u8 a m<256:=by
  simp only [bits,IntKind.wrap_u8'];omega
theorem xorL_lt (l:List Int)(m:Int):∀x∈xorL l m,0≤x∧x<256:=by
  intro x hx;simp only [xorL,List.mem_map] at hx;obtain⟨y,_,rfl⟩:=hx;exact bits8 y m
theorem xorL_length (l:List Int)(m:Int):(xorL l m).length=l.length:=by simp [xorL]
theorem be4_lt (n:Int):∀x∈be4 n,0≤x∧x<256:=by
  intro x hx;simp only [be4,List.mem_cons,List.not_mem_nil,or_false] at hx;rcases hx with rfl|rfl|rfl|rfl<;>omega
theorem digTo_lt (h:List Int):∀i,∀x∈digTo h i,0≤x∧x<256
  |0,x,hx=>by simp [digTo] at hx
  | i+1,x,hx=>by
    rw [digTo,List.mem_append] at hx;rcases hx with hx|hx
    · exact digTo_lt h i x hx
    · exact be4_lt _ x hx
theorem shaF_lt (t:List Int):∀x∈shaF t,0≤x∧x<256:=digTo_lt _ 8
theorem shaF_length (t:List Int):(shaF t).length=32:=digTo_length _ 8
theorem hmacF_lt (k t:List Int):∀x∈hmacF k t,0≤x∧x<256:=shaF_lt _
theorem hmacF_length (k t:List Int):(hmacF k t).length=32:=shaF_length _
theorem kkL_length (key:List Int):(kkL key).length=64:=by
  unfold kkL keyL;rw [List.length_append,List.length_replicate];split
  · rw [shaF_length]
  · omega
theorem rep_lt (n:Nat):∀x∈List.replicate n (0:Int),0≤x∧x<256:=by
  intro x hx;have:=List.eq_of_mem_replicate hx;omega
theorem app_lt {a b:List Int}(ha:∀x∈a,0≤x∧x<256)(hb:∀x∈b,0≤x∧x<256):∀x∈a++b,0≤x∧x<256:=by
  intro x hx;rw [List.mem_append] at hx;rcases hx with h|h
  · exact ha x h
  · exact hb x h
theorem kkL_lt {key:List Int}(h:∀x∈key,0≤x∧x<256):∀x∈kkL key,0≤x∧x<256:=by
  unfold kkL keyL;split
  · exact app_lt (shaF_lt _) (rep_lt _)
  · exact app_lt h (rep_lt _)
theorem rep_add (a b:Nat):strOfNums (List.replicate a 0)++strOfNums (List.replicate b 0)=strOfNums (List.replicate (a+b) 0):=by
  apply ByteArray.ext;simp [strOfNums]
def tTo (key info:List Int):Nat→List Int
  |0=> []
  |k+1=>hmacF key (tTo key info k++info++ [(k:Int)+1])
def outTo (key info:List Int):Nat→List Int
  |0=> []
  |k+1=>outTo key info k++tTo key info (k+1)
theorem tTo_lt (key info:List Int):∀k,∀x∈tTo key info k,0≤x∧x<256
  |0,x,h=>by simp [tTo] at h
  |k+1,x,h=>hmacF_lt _ _ x h
theorem tTo_le (key info:List Int)(k:Nat):(tTo key info k).length≤32:=by
  cases k with
  |zero=>simp [tTo]
  |succ k=>rw [tTo,hmacF_length];omega
theorem outTo_length (key info:List Int):∀k,(outTo key info k).length=32*k
  |0=>rfl
  |k+1=>by rw [outTo,List.length_append,outTo_length key info k,tTo,hmacF_length];omega
def expF (key info:List Int)(n:Nat):List Int:=(outTo key info ((n+31)/32)).take n
theorem str_take (l:List Int)(n:Nat):(strOfNums l).extract 0 n=strOfNums (l.take n):=by
  apply ByteArray.ext;simp [strOfNums,List.map_take]
theorem str_append' (l r:List Int):strOfNums l++strOfNums r=strOfNums (l++r):=by
  apply ByteArray.ext;simp [strOfNums]
theorem byt_one (k:Nat)(h:k<255):byt (strOfNums [(k:Int)+1])= [(k:Int)+1]:=byt_str _ (fun x hx=>by simp at hx;omega)
end Go.Proofs.YtjhbckngdclleaaGreatDoor
