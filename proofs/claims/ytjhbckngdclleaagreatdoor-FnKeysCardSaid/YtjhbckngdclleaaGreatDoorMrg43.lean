import Derived.Test.YtjhbckngdclleaaGreatDoorMrg42
set_option linter.unusedVariables false
set_option maxRecDepth 100000
set_option maxHeartbeats 16000000
namespace Go.Proofs.YtjhbckngdclleaaGreatDoor
open Go.Proofs.Tryz Go.RowKit
open Go.Value (int)
open Go.IntKind (u64)
theorem hmacI_any (key s:ByteArray)(w:World)(hT:TabK w)(hk:key.size≤10000000000)(hs:s.size≤10000000000):
    Cr 106 #[.string key,.string s] w (.string (strOfNums (hmacF (byt key) (byt s)))):=by
  have hgw:6<w.heap.size:=World.block_lt_of_cell? w _ (hT 0 (by omega));go_enter func106,ntmps106;go_wp2_with fail;refine(newK_any key w hT (by omega)).mono ?_;rintro e W1 ⟨L1,L2,rfl,h1,h2,hb1⟩;go_wp2_with fail;generalize hW2:W1.alloc _=W2
  have hc:∀i,i<1→W2.cell? ⟨W1.heap.size,i,none⟩=some (.string ([s].getD i ByteArray.empty)):=fun i hi=>by
    obtain rfl:i=0:=by omega
    rw [←hW2,cell_of_row _ _ _ _ _ _ (heap_alloc_new W1 _)];rfl
  have hb2:Bl w W2:=by rw [←hW2];exact hb1.alloc hb1.size _
  have hT2:TabK W2:=fun i hi=>(hb2.cell (p:=⟨6,i,none⟩) hgw).trans (hT i hi)
  clear hW2;refine(ofK_any L1 L2 _ _ W1.heap.size 1 1 [s] W2 h1 h2 hT2 (by rw [xorL_length,kkL_length];simp [sizeB];omega) (by rw [xorL_length,kkL_length];omega) (xorL_lt _ _) (xorL_lt _ _) rfl (by omega) (by omega) hc).mono ?_;rintro e W3 ⟨rfl,hb3⟩;go_wp2;go_ret;exact⟨by simp [catB,hmacF],hb2.tr hb3⟩
theorem extractI_any (key s:ByteArray)(w:World)(hT:TabK w)(hk:key.size≤10000000000)(hs:s.size≤10000000000):
    Cr 63 #[.string key,.string s] w (.string (strOfNums (hmacF (byt key) (byt s)))):=by
  go_enter func63,ntmps63;go_wp2_with fail;refine(hmacI_any key s w hT hk hs).mono ?_;rintro e W1 ⟨rfl,hb1⟩;go_wp2;go_ret;exact⟨rfl,hb1⟩
section
attribute [local go_sem ↓] Go.wp_at_zero Go.wp_at_succ
theorem expI_no (key info:ByteArray)(n:Int)(w:World)(hn:n<0∨8160<n):
    Cr 126 #[.string key,.string info,.int .i64 n] w (.tuple #[.string ⟨#[]⟩,.bool false]):=by
  rcases hn with hn|hn
  · go_enter func126,ntmps126;go_wp2;go_ret2;exact⟨rfl,Below.refl _ _⟩
  · have h0: ¬ n<0:=by omega
    go_enter func126,ntmps126;go_wp2;go_ret2;exact⟨rfl,Below.refl _ _⟩
theorem tTo_next (key info:ByteArray)(k:Nat)(hk:k<255):
    shaF (xorL (kkL (byt key)) 92++shaF (xorL (kkL (byt key)) 54++catB [strOfNums (tTo (byt key) (byt info) k),info,strOfNums (beTo ((k:Int)+1) 1)]))=tTo (byt key) (byt info) (k+1):=by
  have hb:beTo ((k:Int)+1) 1= [(k:Int)+1]:=by
    simp only [beTo,Int.pow_zero,Int.ediv_one];rw [show ((k:Int)+1)%256=(k:Int)+1 by omega]
  rw [tTo,hmacF,hb];simp only [catB,List.append_nil];rw [byt_str _ (tTo_lt _ _ _),byt_one k hk,List.append_assoc]
theorem range_below {w w':World}{b o B:Nat}{L:List Value}(h:w.rangeAt b o L)(hb:Below B w w')(hlt:b<B):w'.rangeAt b o L:=fun j v hv=>(hb.cell (p:=⟨b,o+j,none⟩) hlt).trans (h j v hv)
theorem Row0.below {w w':World}{base n:Nat}{v:Value}{xs:List Value}(h:Row0 w base v n xs)(hb:Bl w w'):Row0 w' base v n xs:=by
  rcases h with h|⟨g,cap,rfl,hr⟩
  · exact .inl h
  · exact .inr ⟨g,cap,rfl,hr.below hb hr.hi⟩
theorem expI_yes (key info:ByteArray)(n:Nat)(w:World)(hT:TabK w)(hk:key.size≤1048576)(hi:info.size≤1048576)(hn:n≤8160):
    Cr 126 #[.string key,.string info,.int .i64 n] w (.tuple #[.string (strOfNums (expF (byt key) (byt info) n)),.bool true]):=by
  obtain⟨i0,hi0,hz0,hz1,hz2⟩:=info_parts infoU8';have hgw:6<w.heap.size:=World.block_lt_of_cell? w _ (hT 0 (by omega));have h0: ¬ ((n:Int)<0):=by omega
  have h1: ¬ ((8160:Int)<(n:Int)):=by omega
  have hz46:=zero46;go_enter func126,ntmps126;go_wp2_with fail;refine(newK_any key w hT (by omega)).mono ?_;rintro e W1 ⟨L1,L2,rfl,hL1,hL2,hb1⟩;have hs1:=hb1.size;have hn1:=hL1.len;have hn2:=hL2.len;have hlen:(L1++L2).length=148:=by rw [List.length_append];omega
  have hlt:(L1++L2).toArray.size=148:=by rw [←hlen];simp
  have hth:(W1.alloc (.cells (zeroRh++zeroRh).toArray 246)).there W1.heap.size 0 148:=there_new W1 _ _ 148 (by simp [zeroRh_len])
  have hone:∀v∈L1++L2,v.oneCell'=true:=fun v hv=>by
    rw [List.mem_append] at hv;rcases hv with h|h
    · exact hL1.one v h
    · exact hL2.one v h
  have HL:Hid (IsRH L1 (xorL (kkL (byt key)) 54)∧IsRH L2 (xorL (kkL (byt key)) 92)):=⟨hL1,hL2⟩;clear hL1 hL2
  go_wp2_with (refine wpList_store_mid rfl 246 _ _ rfl W1.heap.size 0 (L1++L2).toArray rfl rfl (by rw [hlt];exact hth) (by rw [size46,hlt]) (all_oneCell_toArray hone) ?_
               generalize hW2:World.setCells _ _ _ _=W2;have hrg:W2.rangeAt W1.heap.size 0 (L1++L2):=by rw [←hW2];exact World.rangeAt_setCells_same _ _ _ _ (by rw [hlen];exact hth)
               have hs2:W2.heap.size=W1.heap.size+1:=by rw [←hW2,setCells_size];simp
               have hb2:Bl W1 W2:=by rw [←hW2];exact below_setCells ((Below.refl _ _).alloc (Nat.le_refl _) _) (Nat.le_refl _) _ _
               clear hW2)
  have hbw:Bl w W2:=hb1.trans (hb2.mono hs1);clear hth hb1 hb2 hz46;generalize hB:W1.heap.size=B at*;clear hB
  go_loopw [9,10,11] (fun ov tv i wr=>∃k:Nat,32*k≤n+31∧i= .int .i64 ((k:Int)+1)∧tv= .string (strOfNums (tTo (byt key) (byt info) k))∧Row0 wr (B+1) ov (32*k) ((outTo (byt key) (byt info) k).map (Value.int .u8))∧Below (B+1) W2 wr) (fun _ _ i _=>300-(intOf i).toNat)
  case atStart=>exact ⟨0,by omega,rfl,rfl,.inl ⟨rfl,rfl,rfl⟩,Below.refl _ _⟩
  case round=>
    obtain⟨k,hkn,rfl,rfl,hrow,hbr⟩:=hrel;by_cases hltk:32*k<n
    · have hk255:k<255:=by omega
      have hrgr:wr.rangeAt B 0 (L1++L2):=range_below hrg hbr (by omega);have hsr:=hbr.size
      obtain⟨ao,cap,rfl⟩:∃ao cap,u9= .slice ao (32*k) cap:=by
        rcases hrow with ⟨rfl,h,_⟩|⟨g,cap,rfl,_⟩
        · exact⟨none,0,by rw [h]⟩
        · exact⟨_,_,rfl⟩
      have hu:=underlying246;have hinf:(prog.info? 246).map (·.size)=some (L1++L2).length:=by rw [size46,hlen]
      have hgr:6<wr.heap.size:=by have:=hbw.size;omega
      have hTr:TabK wr:=fun i hi=>((hbr.cell (p:=⟨6,i,none⟩) (Nat.lt_of_lt_of_le hgw (by have:=hbw.size;omega))).trans (hbw.cell (p:=⟨6,i,none⟩) hgw)).trans (hT i hi)
      have hBr:B<wr.heap.size:=by omega
      have hzt:(strOfNums (tTo (byt key) (byt info) k)).size≤32:=by rw [strOfNums_size];exact tTo_le _ _ _
      have HR:Hid (Row0 wr (B+1) (.slice ao (32*k) cap) (32*k) ((outTo (byt key) (byt info) k).map (Value.int .u8))):=hrow;clear hrow hlt;go_wp2;generalize hLL:L1++L2=LL at*;have HLL:Hid (L1++L2=LL):=hLL;clear hLL;refine wp_region_noPanic ?_;refine wp_region_held_drew (S:=fun w'=>w'.rangeAt B 0 LL) (by kernel_rfl) hrgr (fun hHeld=> ?_)
      refine' wpAnyH_take (i:=0) (v:=_) rfl (by kernel_rfl) (by kernel_rfl) (by kernel_rfl) (fun _ _ _ h=>h) (yieldsIf_load_mid (by rfl) 246 (.tmp 8) rfl B 0 rfl LL _ (fun w h=>h) hu rfl hinf) hHeld ?_
      simp only [Act.put,List.getElem_toArray,List.getElem_cons_zero,List.setIfInBounds_toArray,List.set_cons_zero,List.set_cons_succ];refine wpAnyH_take (i:=1) (v:= .string (strOfNums (tTo (byt key) (byt info) k))) rfl (by kernel_rfl) (by kernel_rfl) (by kernel_rfl) (fun _ _ _ h=>h) (Or.inl ⟨by rfl,fun w _=>by rfl⟩) hHeld ?_;simp only [Act.put,List.getElem_toArray,List.getElem_cons_zero,List.getElem_cons_succ,List.setIfInBounds_toArray,List.set_cons_zero,List.set_cons_succ];refine wpAnyH_take (i:=2) (v:= .string info) rfl (by kernel_rfl) (by kernel_rfl) (by kernel_rfl) (fun _ _ _ h=>h) (Or.inl ⟨by rfl,fun w _=>by rfl⟩) hHeld ?_;simp only [Act.put,List.getElem_toArray,List.getElem_cons_zero,List.getElem_cons_succ,List.setIfInBounds_toArray,List.set_cons_zero,List.set_cons_succ];refine wpAnyH_take (i:=3) (v:= .int .i64 ((k:Int)+1)) rfl (by kernel_rfl) (by kernel_rfl) (by kernel_rfl) (fun _ _ _ h=>h) (Or.inl ⟨by rfl,fun w _=>by rfl⟩) hHeld ?_;simp only [Act.put,List.getElem_toArray,List.getElem_cons_zero,List.getElem_cons_succ,List.setIfInBounds_toArray,List.set_cons_zero,List.set_cons_succ];refine wpAnyH_take (i:=4) (v:=int u64 ((k:Int)+1)) rfl (by kernel_rfl) (by kernel_rfl) (by kernel_rfl) (fun _ _ _ h=>h) (Or.inl ⟨by rfl,?_⟩) hHeld ?_
      · intro w _;have e64:IntKind.u64.wrap ((k:Int)+1)=(k:Int)+1:=by rw [IntKind.wrap_u64];omega
        go_simp
      simp only [Act.put,List.getElem_toArray,List.getElem_cons_zero,List.getElem_cons_succ,List.setIfInBounds_toArray,List.set_cons_zero,List.set_cons_succ];refine wpAnyH_ready (rs:= [5]) (by kernel_rfl) (by simp) ?_;refine AllReadyH.cons rfl (fun K hK=> ?_) AllReadyH.nil
      go_simp
      refine(beI_any ((k:Int)+1) 1 wr.drew (by omega) (by omega) (by omega) (by omega)).mono ?_;rintro e W5 ⟨rfl,hb5⟩;have hb5':Bl wr W5:=(Below.refl wr.heap.size wr).drew.trans hb5;have hs5:wr.heap.size≤W5.heap.size:=hb5'.size;have hr5:W5.rangeAt B 0 LL:=range_below hrgr hb5' hBr;refine hK.out _ _ hr5 (fun hHeld5=> ?_);clear hK K hHeld hb5;refine wpAnyH_ready (rs:= [6]) (by kernel_rfl) (by simp) ?_;refine AllReadyH.cons rfl (fun K hK=> ?_) AllReadyH.nil
      go_simp
      generalize hW6:W5.alloc _=W6
      have hc6:∀i,i<3→W6.cell? ⟨W5.heap.size,i,none⟩=some (.string ([strOfNums (tTo (byt key) (byt info) k),info,strOfNums (beTo ((k:Int)+1) 1)].getD i ByteArray.empty)):=fun i hi=>by
        rw [←hW6,cell_of_row _ _ _ _ _ _ (heap_alloc_new W5 _)]
        match i,hi with
        |0,_=>rfl
        |1,_=>rfl
        |2,_=>rfl
      have hb6:Bl wr W6:=by rw [←hW6];exact hb5'.alloc hs5 _
      clear hW6;have hr6:W6.rangeAt B 0 LL:=range_below hrgr hb6 hBr;have hT6:TabK W6:=fun i hi=>(hb6.cell (p:=⟨6,i,none⟩) hgr).trans (hTr i hi)
      refine hK.out _ _ hr6 (fun hHeld6=> ?_);clear hK K hHeld5;refine wpAnyH_ready (rs:= [7]) (by kernel_rfl) (by simp) ?_;refine AllReadyH.cons rfl (fun K hK=> ?_) AllReadyH.nil
      go_simp
      rw [←HLL.out];refine(ofK_any L1 L2 _ _ W5.heap.size 3 3 [strOfNums (tTo (byt key) (byt info) k),info,strOfNums (beTo ((k:Int)+1) 1)] W6 HL.out.1 HL.out.2 hT6 (by rw [xorL_length,kkL_length];simp only [sizeB,strOfNums_size,beTo_length];rw [strOfNums_size] at hzt;omega) (by rw [xorL_length,kkL_length];omega) (xorL_lt _ _) (xorL_lt _ _) rfl (by omega) (by omega) hc6).mono ?_;rintro e W7 ⟨rfl,hb7⟩;rw [tTo_next key info k hk255];have hb7':Bl wr W7:=hb6.tr hb7;have hr7:W7.rangeAt B 0 LL:=range_below hrgr hb7' hBr;refine hK.out _ _ hr7 (fun hHeld7=> ?_);clear hK K hHeld6 hb7;refine wpAnyH_ready (rs:= [8]) (by kernel_rfl) (by simp) ?_;refine AllReadyH.cons rfl (fun K hK=> ?_) AllReadyH.nil
      go_simp
      refine hK.out _ _ hr7 (fun hHeld8=> ?_);clear hK K hHeld7;refine wpAnyH_done (by kernel_rfl) ?_ _;refine NoPanic.normal ?_;have hsz32:(strOfNums (tTo (byt key) (byt info) (k+1))).size=32:=by rw [strOfNums_size,tTo,hmacF_length]
      have hrow7:=HR.out.below hb7';have hs7:=hb7'.size
      have hbt:Hid ((outTo (byt key) (byt info) k).map (Value.int .u8)++(byt (strOfNums (tTo (byt key) (byt info) (k+1)))).map (Value.int .u8)=(outTo (byt key) (byt info) (k+1)).map (Value.int .u8)):=by
        simp only [Hid];rw [byt_str _ (tTo_lt _ _ _),←List.map_append,outTo]
      clear hHeld8 hr5 hr6 hr7 hT6 hc6 hb6 hb5' hTr hu hinf
      go_wp2_with (first
        | (refine wpList_append_str rfl _ _ 35 9 rfl (B+1) 5 i0 (.int .u8 0) underlying35 underlying9 hi0 hz0 hz1 hz2 rfl (.slice ao (32*k) cap) (32*k) ((outTo (byt key) (byt info) k).map (Value.int .u8)) rfl hrow7 (strOfNums (tTo (byt key) (byt info) (k+1))) rfl (by rw [hsz32];omega) (by rw [hsz32];omega) (by omega) ?_
           intro g3 cap3 w3 hrow3 hb8
           rw [hbt.out,hsz32] at hrow3))
      go_roundw
      case rel=>
        have R1:Row0 w3 (B+1) (.slice (some ⟨g3,0,none⟩) (32*k+32) cap3) (32*(k+1)) ((outTo (byt key) (byt info) (k+1)).map (Value.int .u8)):=by
          rw [Nat.mul_add];exact .inr ⟨g3,cap3,rfl,hrow3⟩
        have R2:Below (B+1) W2 w3:=(hbr.trans (hb7'.mono (by omega))).trans hb8
        first
          |exact ⟨k+1,by omega,by go_num,rfl,R1,R2⟩
          |((repeat apply Exists.intro);exact⟨⟨k+1,by omega,by go_num,rfl,R1,R2⟩,rfl⟩)
      case measure=>simp [intOf];omega
    · have hkk:k=(n+31)/32:=by omega
      have hbf:Bl w wr:=hbw.trans (hbr.mono (by have:=hbw.size;omega));have hexp:Hid (expF (byt key) (byt info) n=(outTo (byt key) (byt info) k).take n):=by simp only [Hid];rw [expF,←hkk]
      have hol:=outTo_length (byt key) (byt info) k;clear hkk;rcases hrow with ⟨rfl,hz,_⟩|⟨g,cap,rfl,hrow⟩
      · have hn0:n=0:=by omega
        subst hn0;have hk0:k=0:=by omega
        subst hk0;have hcv:=run_convert_bytes_nil (P:=prog) wr 35 5 underlying35 underlying5 0 0;go_wp2;go_ret2;refine⟨?_,hbf⟩;show Ending.returned (.tuple #[.string ByteArray.empty,.bool true])=_;rw [hexp.out];rfl
      · have hcv:=run_convert_bytes_arg (P:=prog) wr 35 5 underlying35 underlying5 g 0 n cap ((outTo (byt key) (byt info) k).take n) (by rw [List.length_take,hol];omega) (fun i h=>by rw [Nat.zero_add,hrow.cell i (by omega)];congr 2;rw [←lk_take _ n i h];rfl) 9 underlying9;have hcap:=hrow.le;go_wp2;go_ret2;refine⟨?_,hbf⟩;show Ending.returned (.tuple #[.string (strOfNums ((outTo (byt key) (byt info) k).take n)),.bool true])=_;rw [hexp.out]
end
section
open M
theorem cfpI (args:Array Value)(w:World):(callFunc 64 args).run prog w= .ok (.enter 64 args) w:=by kernel_rfl
theorem cfxI (args:Array Value)(w:World):(callFunc 63 args).run prog w= .ok (.enter 63 args) w:=by kernel_rfl
theorem TabK.kept {w w':World}(h:TabK w)(hb:Bl w w'):TabK w':=fun i hi=>(hb.cell (p:=⟨6,i,none⟩) (World.block_lt_of_cell? w _ (h i hi))).trans (h i hi)
theorem expa (x i:ByteArray)(w:World)(hT:TabK w)(hx:x.size≤1048576)(hi:i.size≤1048576):
    Cr 66 #[.string x,.string i] w (.string (exB x i)):=by
  have EX:=expI_yes x i 32 w hT hx hi (by decide);have e2:strOfNums (expF (byt x) (byt i) 32)=exB x i:=rfl;simp only [e2] at EX;generalize exB x i=r at*;clear e2;go_enter func66,ntmps66;go_wp2_with fail;refine EX.mono ?_;rintro e w2 ⟨rfl,b2⟩;go_wp2;go_ret;exact⟨rfl,b2⟩
theorem hash1 (s:ByteArray)(g:Nat)(w:World)(hT:TabK w)(hg:Bk w 9 g #[.string s])(hs:s.size≤1000000000000):
    Cr 65 #[.slice (some ⟨g,0,none⟩) 1 1] w (.string (shB s)):=by
  have hc:∀i,i<1→w.cell? ⟨g,i,none⟩=some (.string ([s].getD i ByteArray.empty)):=fun i hi=>by
    obtain rfl:i=0:=by omega
    exact hg.cell (k:=0) rfl
  refine(hashOfI_any g 1 1 [s] w hT (by simpa [sizeB] using hs) rfl (by omega) (by omega) hc).mono ?_;rintro e W2 ⟨rfl,hb2⟩;exact⟨by simp [catB,shB],hb2⟩
theorem agrI (x0 y0:Nat)(c0:Bool)(x1 y1:Nat)(c1:Bool)(x2 y2:Nat)(c2:Bool)(s:ByteArray)(w:World)(hT:TabK w)(hs:s.size≤1048576):
    Cr 22 #[.agg #[int u64 (x0:Int),int u64 (y0:Int),.bool c0],.agg #[int u64 (x1:Int),int u64 (y1:Int),.bool c1],.agg #[int u64 (x2:Int),int u64 (y2:Int),.bool c2],.string s] w (.agg (agK (asPt x0 y0 c0) (asPt x1 y1 c1) (asPt x2 y2 c2) s).toArray):=by
  have h0:=Bk.new w 27 #[int u64 (x0:Int),int u64 (y0:Int),.bool c0];have hB:=balc w (Obj.cells #[int u64 (x0:Int),int u64 (y0:Int),.bool c0] 27);obtain⟨W1,hW1⟩:∃W,w.alloc (Obj.cells #[int u64 (x0:Int),int u64 (y0:Int),.bool c0] 27)=W:=⟨_,rfl⟩;rw [hW1] at h0 hB;have h1:=Bk.new W1 27 #[int u64 (x1:Int),int u64 (y1:Int),.bool c1];replace h0:=h0.alloc (Obj.cells #[int u64 (x1:Int),int u64 (y1:Int),.bool c1] 27);replace hB:=hB.alloc hB.size (Obj.cells #[int u64 (x1:Int),int u64 (y1:Int),.bool c1] 27);obtain⟨W2,hW2⟩:∃W,W1.alloc (Obj.cells #[int u64 (x1:Int),int u64 (y1:Int),.bool c1] 27)=W:=⟨_,rfl⟩;rw [hW2] at h0 h1 hB;have h2:=Bk.new W2 27 #[int u64 (x2:Int),int u64 (y2:Int),.bool c2];replace h0:=h0.alloc (Obj.cells #[int u64 (x2:Int),int u64 (y2:Int),.bool c2] 27);replace h1:=h1.alloc (Obj.cells #[int u64 (x2:Int),int u64 (y2:Int),.bool c2] 27);replace hB:=hB.alloc hB.size (Obj.cells #[int u64 (x2:Int),int u64 (y2:Int),.bool c2] 27);obtain⟨W3,hW3⟩:∃W,W2.alloc (Obj.cells #[int u64 (x2:Int),int u64 (y2:Int),.bool c2] 27)=W:=⟨_,rfl⟩;rw [hW3] at h0 h1 h2 hB;have h8:=Bk.new W3 46 #[.string ⟨#[]⟩,.string ⟨#[]⟩,.string ⟨#[]⟩];replace h0:=h0.alloc (Obj.cells #[.string ⟨#[]⟩,.string ⟨#[]⟩,.string ⟨#[]⟩] 46);replace h1:=h1.alloc (Obj.cells #[.string ⟨#[]⟩,.string ⟨#[]⟩,.string ⟨#[]⟩] 46);replace h2:=h2.alloc (Obj.cells #[.string ⟨#[]⟩,.string ⟨#[]⟩,.string ⟨#[]⟩] 46);replace hB:=hB.alloc hB.size (Obj.cells #[.string ⟨#[]⟩,.string ⟨#[]⟩,.string ⟨#[]⟩] 46);obtain⟨W4,hW4⟩:∃W,W3.alloc (Obj.cells #[.string ⟨#[]⟩,.string ⟨#[]⟩,.string ⟨#[]⟩] 46)=W:=⟨_,rfl⟩;rw [hW4] at h0 h1 h2 h8 hB;have hT4:TabK W4:=hT.kept hB;obtain⟨b8,hb8⟩:∃r,r=W3.heap.size:=⟨_,rfl⟩;obtain⟨b2,hb2⟩:∃r,r=W2.heap.size:=⟨_,rfl⟩;obtain⟨b1,hb1⟩:∃r,r=W1.heap.size:=⟨_,rfl⟩;obtain⟨b0,hb0⟩:∃r,r=w.heap.size:=⟨_,rfl⟩;have l1:w.heap.size<W1.heap.size:=by rw [←hW1];simp
  have l2:W1.heap.size<W2.heap.size:=by rw [←hW2];simp
  have l3:W2.heap.size<W3.heap.size:=by rw [←hW3];simp
  have hl8:w.heap.size≤b8:=by omega
  rw [←hb8] at h8;rw [←hb2] at h2;rw [←hb1] at h1;rw [←hb0] at h0;have XI:∀w,TabK w→Cr 63 #[.string ⟨#[]⟩,.string (pB (asPt x0 y0 c0)++pB (asPt x1 y1 c1)++pB (asPt x2 y2 c2))] w (.string (agX (asPt x0 y0 c0) (asPt x1 y1 c1) (asPt x2 y2 c2))):=fun w hT=>extractI_any _ _ w hT (by decide) (by rw [ByteArray.size_append,ByteArray.size_append,pB_size,pB_size,pB_size];decide)
  have hTB:∀w,G.Sides [] W4.drew w→TabK w:=fun w hB i hi=>hB.cell (hT4 i hi) (by simp)
  have hxz:=agX_size (asPt x0 y0 c0) (asPt x1 y1 c1) (asPt x2 y2 c2);unfold agK;have hsz:=shB_size s;have HH:=fun g w hT hg=>hash1 s g w hT hg (by omega)
  have E1:=fun w hT=>expa (agX (asPt x0 y0 c0) (asPt x1 y1 c1) (asPt x2 y2 c2)) (wSes++shB s) w hT (by omega) (by rw [ByteArray.size_append,hsz];decide)
  have E2:=fun w hT=>expa (agX (asPt x0 y0 c0) (asPt x1 y1 c1) (asPt x2 y2 c2)) (wSrv++shB s) w hT (by omega) (by rw [ByteArray.size_append,hsz];decide)
  have E3:=fun w hT=>expa (agX (asPt x0 y0 c0) (asPt x1 y1 c1) (asPt x2 y2 c2)) (wCli++shB s) w hT (by omega) (by rw [ByteArray.size_append,hsz];decide)
  generalize exB (agX (asPt x0 y0 c0) (asPt x1 y1 c1) (asPt x2 y2 c2)) (wSes++shB s)=k1 at*;generalize exB (agX (asPt x0 y0 c0) (asPt x1 y1 c1) (asPt x2 y2 c2)) (wSrv++shB s)=k2 at*;generalize exB (agX (asPt x0 y0 c0) (asPt x1 y1 c1) (asPt x2 y2 c2)) (wCli++shB s)=k3 at*;generalize shB s=hh at*;have n1: ¬ (9223372036854775807<wSes.size+hh.size):=by rw [hsz];decide
  have n2: ¬ (9223372036854775807<wSrv.size+hh.size):=by rw [hsz];decide
  have n3: ¬ (9223372036854775807<wCli.size+hh.size):=by rw [hsz];decide
  unfold wSes at E1 n1;unfold wSrv at E2 n2;unfold wCli at E3 n3;go_enter func22,ntmps22;go_wp2;simp only [←hb8,←hb2,←hb1,←hb0];clear hb8 hb2 hb1 hb0 hW1 hW2 hW3 hW4 l1 l2 l3
  refine G.pool_list (W:=W4) [] [.val (.agg #[int u64 (x0:Int),int u64 (y0:Int),.bool c0]),
      .val (.string (pB (asPt x0 y0 c0))),
      .val (.agg #[int u64 (x1:Int),int u64 (y1:Int),.bool c1]),
      .val (.string (pB (asPt x1 y1 c1))),
      .val (.string (pB (asPt x0 y0 c0)++pB (asPt x1 y1 c1))),
      .val (.agg #[int u64 (x2:Int),int u64 (y2:Int),.bool c2]),
      .val (.string (pB (asPt x2 y2 c2))),
      .val (.string (pB (asPt x0 y0 c0)++pB (asPt x1 y1 c1)++pB (asPt x2 y2 c2))),
      .val (.string (agX (asPt x0 y0 c0) (asPt x1 y1 c1) (asPt x2 y2 c2))),
      .val (.string (agX (asPt x0 y0 c0) (asPt x1 y1 c1) (asPt x2 y2 c2)))] [[4],[11],[5],[13],[12,14],[6],[16],[15,17],[18],[19]] (fun f=> [(some 11,.agg #[int u64 (x0:Int),int u64 (y0:Int),.bool c0]),(some 12,.string (pB (asPt x0 y0 c0))),(some 13,.agg #[int u64 (x1:Int),int u64 (y1:Int),.bool c1]),(some 14,.string (pB (asPt x1 y1 c1))),(some 15,.string (pB (asPt x0 y0 c0)++pB (asPt x1 y1 c1))),(some 16,.agg #[int u64 (x2:Int),int u64 (y2:Int),.bool c2]),(some 17,.string (pB (asPt x2 y2 c2))),(some 18,.string (pB (asPt x0 y0 c0)++pB (asPt x1 y1 c1)++pB (asPt x2 y2 c2))),(some 19,.string (agX (asPt x0 y0 c0) (asPt x1 y1 c1) (asPt x2 y2 c2))),(some 9,.string (agX (asPt x0 y0 c0) (asPt x1 y1 c1) (asPt x2 y2 c2)))]) (by kernel_rfl) (by kernel_rfl) (by kernel_rfl) (by kernel_rfl) (fun _=>by kernel_rfl) (G.last_of [] (fun F R hm=>by simp at hm) (fun ob ob' k hm=>by simp at hm) (fun b ob ob' hm=>by simp at hm)) (fun b ob ob' hm=>by simp at hm) ?_ ?_
  · intro ix hix
    match ix,hix with
    |0,_=>exact G.obv [(4,.pointer (some ⟨b0,0,none⟩))] rfl rfl (fun A w ⟨e0,_⟩ hB=>Y.ldT underlying27 rfl (by kernel_rfl) e0 (Y.side hB h0))
    |1,_=>exact G.obv [(11,.agg #[int u64 (x0:Int),int u64 (y0:Int),.bool c0])] rfl rfl (fun A w ⟨e0,_⟩ hB=>Y.cl1 cfpI e0 (putI_pt x0 y0 c0 w))
    |2,_=>exact G.obv [(5,.pointer (some ⟨b1,0,none⟩))] rfl rfl (fun A w ⟨e0,_⟩ hB=>Y.ldT underlying27 rfl (by kernel_rfl) e0 (Y.side hB h1))
    |3,_=>exact G.obv [(13,.agg #[int u64 (x1:Int),int u64 (y1:Int),.bool c1])] rfl rfl (fun A w ⟨e0,_⟩ hB=>Y.cl1 cfpI e0 (putI_pt x1 y1 c1 w))
    |4,_=>exact G.obv [(12,.string (pB (asPt x0 y0 c0))),(14,.string (pB (asPt x1 y1 c1)))] rfl rfl (fun A w ⟨e0,e1,_⟩ hB=>Y.cat e0 e1 (by rw [pB_size,pB_size];decide))
    |5,_=>exact G.obv [(6,.pointer (some ⟨b2,0,none⟩))] rfl rfl (fun A w ⟨e0,_⟩ hB=>Y.ldT underlying27 rfl (by kernel_rfl) e0 (Y.side hB h2))
    |6,_=>exact G.obv [(16,.agg #[int u64 (x2:Int),int u64 (y2:Int),.bool c2])] rfl rfl (fun A w ⟨e0,_⟩ hB=>Y.cl1 cfpI e0 (putI_pt x2 y2 c2 w))
    |7,_=>exact G.obv [(15,.string (pB (asPt x0 y0 c0)++pB (asPt x1 y1 c1))),(17,.string (pB (asPt x2 y2 c2)))] rfl rfl (fun A w ⟨e0,e1,_⟩ hB=>Y.cat e0 e1 (by rw [ByteArray.size_append,pB_size,pB_size,pB_size];decide))
    |8,_=>exact G.obv [(18,.string (pB (asPt x0 y0 c0)++pB (asPt x1 y1 c1)++pB (asPt x2 y2 c2)))] rfl rfl (fun A w ⟨e0,_⟩ hB=>Y.cl2 cfxI rfl e0 (XI w (hTB w hB)))
    |9,_=>exact G.obv [(19,.string (agX (asPt x0 y0 c0) (asPt x1 y1 c1) (asPt x2 y2 c2)))] rfl rfl (fun A w ⟨e0,_⟩ hB=>Y.assign e0)
    |ix+10,h=>exact absurd h (by simp)
  intro f W5 hS y1 y2 y3 y4;have b5:Bl W4 W5:=(Below.refl _ W4).drew.trans hS.below;replace h8:=h8.keep b5;replace hB:=hB.tr b5;clear hS y1 y2 y3 y4 h0 h1 h2;simp only [puts,List.foldl,Act.put,List.setIfInBounds_toArray,List.set_cons_zero,List.set_cons_succ];have hT5:TabK W5:=hT.kept hB;have hg:=Bk.new W5 9 #[.string s];replace h8:=h8.alloc (Obj.cells #[.string s] 9);replace hB:=hB.alloc hB.size (Obj.cells #[.string s] 9);have hgl:W5.heap.size=W5.heap.size:=rfl;obtain⟨W6,hW6⟩:∃W,W5.alloc (Obj.cells #[.string s] 9)=W:=⟨_,rfl⟩;rw [hW6] at h8 hB hg;clear hxz XI hTB hT4 hT5 hgl;go_wp2_with fail;refine(HH _ _ (hT.kept hB) hg).mono ?_;rintro e w0 ⟨rfl,d0⟩;replace h8:=h8.keep d0;replace hB:=hB.tr d0;clear d0 hW6 hg HH;go_wp2_with fail;refine(E1 _ (hT.kept hB)).mono ?_;rintro e w1 ⟨rfl,d1⟩;replace h8:=h8.keep d1;replace hB:=hB.tr d1;clear d1;go_wp2_with fail;refine(E2 _ (hT.kept hB)).mono ?_;rintro e w2 ⟨rfl,d2⟩;replace h8:=h8.keep d2;replace hB:=hB.tr d2;clear d2;go_wp2_with fail;refine(E3 _ (hT.kept hB)).mono ?_;rintro e w3 ⟨rfl,d3⟩;replace h8:=h8.keep d3;replace hB:=hB.tr d3;clear d3;have z0:w3.cell? ⟨b8,0,none⟩=some (.string ⟨#[]⟩):=h8.cell (k:=0) rfl;have z1:w3.cell? ⟨b8,1,none⟩=some (.string ⟨#[]⟩):=h8.cell (k:=1) rfl;have z2:w3.cell? ⟨b8,2,none⟩=some (.string ⟨#[]⟩):=h8.cell (k:=2) rfl;have f0:=h8.frz 0;have f1:=h8.frz 1;have f2:=h8.frz 2;have hMn:=((h8.set 0 (.string k1)).set 1 (.string k2)).set 2 (.string k3);have hBn:=((hB.setCell (p:=⟨b8,0,none⟩) hl8 (.string k1)).setCell (p:=⟨b8,1,none⟩) hl8 (.string k2)).setCell (p:=⟨b8,2,none⟩) hl8 (.string k3);simp only [List.setIfInBounds_toArray,List.set_cons_zero,List.set_cons_succ] at hMn;go_wp2;exact bodyPost_ret (v:= .agg #[.string k1,.string k2,.string k3]) (bk_res1 (fn:=Tryz.f22) (p:=8) results22 _ rfl hMn underlying46 rfl (by kernel_rfl)) rfl ⟨rfl,hBn⟩
end
end Go.Proofs.YtjhbckngdclleaaGreatDoor
