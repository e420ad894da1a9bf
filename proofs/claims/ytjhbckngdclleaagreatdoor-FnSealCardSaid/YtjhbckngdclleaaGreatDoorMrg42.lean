import Derived.Test.YtjhbckngdclleaaGreatDoorMrg41
set_option linter.unusedVariables false
set_option maxRecDepth 100000
set_option maxHeartbeats 16000000
namespace Go.Proofs.YtjhbckngdclleaaGreatDoor
open Go.Proofs.Tryz Go.RowKit
open Go.Value (int)
open Go.IntKind (u64)
section
open M
theorem timI_of (k x y p q x4 y4:Int)(c pb c4 ok:Bool)(w:World)
    (F1:Cc 60 #[.agg #[int u64 x,int u64 y,.bool c]] (.tuple #[.agg #[int u64 p,int u64 q,.bool pb],.bool ok]))
    (Tm:Cc 61 #[.agg #[int u64 p,int u64 q,.bool pb],int u64 k] (.agg #[int u64 x4,int u64 y4,.bool c4])):
    Cr 20 #[int u64 k,.agg #[int u64 x,int u64 y,.bool c]] w (.agg #[int u64 x4,int u64 y4,.bool c4]):=by
  have hfl:=fldK;obtain⟨X,hX⟩:∃X,X=(w.alloc (Obj.cells #[int u64 x,int u64 y,.bool c] 27)).alloc (Obj.cells #[int u64 0,int u64 0,.bool false] 27):=⟨_,rfl⟩;have hr:K3 X 27 (w.heap.size+1) 0 0 false:=by rw [hX];exact(K3.new _ _ 0 0 false).at (by simp)
  have hb:Bl w X:=by rw [hX];exact((Below.refl _ w).alloc (Nat.le_refl _) _).alloc (by simp) _
  rw [hX] at hr hb;clear hX;go_enter func20,ntmps20;go_wp2_with fail;refine(F1 _).mono ?_;rintro e w1 ⟨rfl,b1⟩;replace hr:=(hr.keep b1).alloc (Obj.cells #[int u64 p,int u64 q,.bool pb] 101);replace hb:=keepB hb hb.size b1;replace hb:=hb.alloc hb.size (Obj.cells #[int u64 p,int u64 q,.bool pb] 101);clear b1 F1;go_wp2_with fail;refine(Tm _).mono ?_;rintro e w3 ⟨rfl,b3⟩;replace hr:=hr.keep b3;replace hb:=keepB hb hb.size b3;clear b3 Tm;have c0:=hr.c0;have c1:=hr.c1;have c2:=hr.c2;have f0:=hr.frz 0;have f1:=hr.frz 1;have f2:=hr.frz 2;go_wp2;exact bodyPost_ret (v:= .agg #[int u64 x4,int u64 y4,.bool c4]) (pt_res (fn:=Tryz.f20) (p:=4) results20 _ rfl (hr.set _ _ _)) rfl ⟨rfl,set3_below hb (by omega)⟩
theorem timI_pt (k x y:Nat)(c:Bool)(w:World)(hk:k<18446744073709551616):
    Cr 20 #[int u64 k,.agg #[int u64 x,int u64 y,.bool c]] w (ptW (nt k (asPt x y c))):=by
  have N:=ctmV (asPt_on x y c) k hk;rw [ptW_eq,ptW_eq] at N;rw [ptW_eq];exact timI_of _ _ _ _ _ _ _ _ _ _ _ w (fndW x y c) N
theorem putP_of (x y p q n:Int)(c pb ok:Bool)(s:ByteArray)(w:World)
    (F1:Cc 60 #[.agg #[int u64 x,int u64 y,.bool c]] (.tuple #[.agg #[int u64 p,int u64 q,.bool pb],.bool ok]))
    (Wd:Cc 122 #[.agg #[int u64 p,int u64 q,.bool pb]] (int u64 n))
    (Pw:Cc 121 #[int u64 n] (.string s)):
    Cr 64 #[.agg #[int u64 x,int u64 y,.bool c]] w (.string s):=by
  have hb:=balc w (Obj.cells #[int u64 x,int u64 y,.bool c] 27);go_enter func64,ntmps64;go_wp2_with fail;refine(F1 _).mono ?_;rintro e w1 ⟨rfl,b1⟩;replace hb:=keepB hb hb.size b1;replace hb:=hb.alloc hb.size (Obj.cells #[int u64 p,int u64 q,.bool pb] 101);clear b1 F1;go_wp2_with fail;refine(Wd _).mono ?_;rintro e w3 ⟨rfl,b3⟩;replace hb:=keepB hb hb.size b3;clear b3 Wd;go_wp2_with fail;refine(Pw _).mono ?_;rintro e w4 ⟨rfl,b4⟩;replace hb:=keepB hb hb.size b4;go_wp2;go_ret;exact⟨rfl,hb⟩
theorem putI_pt (x y:Nat)(c:Bool)(w:World):
    Cr 64 #[.agg #[int u64 x,int u64 y,.bool c]] w (.string (strOfNums (be8 (putN (asPt x y c):Nat)))):=by
  have Wd:=wrdV (asPt x y c);rw [ptW_eq] at Wd;exact putP_of _ _ _ _ _ _ _ _ _ w (fndW x y c) Wd (fun w=>putI_any _ w (putN_lt _))
end
theorem shaI_any (s:ByteArray)(w:World)(hT:TabK w)(hs:s.size≤1000000000000):
    Cr 189 #[.string s] w (.string (strOfNums (shaF (byt s)))):=by
  have hgw:6<w.heap.size:=World.block_lt_of_cell? w _ (hT 0 (by omega));go_enter func189,ntmps189;go_wp2_with fail;generalize hW1:w.alloc _=W1
  have hc:∀i,i<1→W1.cell? ⟨w.heap.size,i,none⟩=some (.string ([s].getD i ByteArray.empty)):=fun i hi=>by
    obtain rfl:i=0:=by omega
    rw [←hW1,cell_of_row _ _ _ _ _ _ (heap_alloc_new w _)];rfl
  have hb1:Bl w W1:=by rw [←hW1];exact(Below.refl _ _).alloc (Nat.le_refl _) _
  have hT1:TabK W1:=fun i hi=>(hb1.cell (p:=⟨6,i,none⟩) hgw).trans (hT i hi)
  clear hW1;refine(hashOfI_any w.heap.size 1 1 [s] W1 hT1 (by simpa [sizeB] using hs) rfl (by omega) (by omega) hc).mono ?_;rintro e W2 ⟨rfl,hb2⟩;go_wp2;go_ret;exact⟨by simp [catB],hb1.tr hb2⟩
section
theorem methK (a:Addr)(w:World):(method 469 280 (.pointer (some a)) "loop.example/s02095/impl.take").run prog w= .ok (280,.pointer (some a)) w:=by kernel_rfl
attribute [local go_sem ↓] Go.wp_at_zero Go.wp_at_succ
def IsRH (L:List Value)(t:List Int):Prop:=∃blk:List Int,blk.length=64∧(∀i,0≤lk blk i∧lk blk i<256)∧(∀i,i<t.length%64→lk blk i=lk t (64*(t.length/64)+i))∧
  L=rhL (stateTo t (t.length/64)) blk ((t.length%64:Nat):Int) (t.length:Int)
theorem IsRH.len {L:List Value}{t:List Int}(h:IsRH L t):L.length=74:=by
  obtain⟨blk,h1,_,_,rfl⟩:=h;simp [rhL,stateTo_length,h1]
theorem IsRH.one {L:List Value}{t:List Int}(h:IsRH L t):∀v∈L,v.oneCell'=true:=by
  obtain⟨blk,h1,_,_,rfl⟩:=h;exact rhL_one _ _ _ _
theorem IsRH.rh {L:List Value}{t:List Int}(h:IsRH L t){w:World}{b o:Nat}(hr:w.rangeAt b o L)(ht:w.there b o 74):RH w b o t (t.length:Int):=by
  obtain⟨blk,h1,h2,h3,rfl⟩:=h;exact⟨blk,h1,h2,h3,RC.of_range (stateTo_length _ _) h1 hr ht⟩
theorem RH.list {w:World}{b o:Nat}{t:List Int}(h:RH w b o t (t.length:Int)):∃L,IsRH L t∧w.rangeAt b o L:=by
  obtain⟨blk,h1,h2,h3,hC⟩:=h;exact⟨_,⟨blk,h1,h2,h3,rfl⟩,hC.range (stateTo_length _ _) h1⟩
theorem RH.carry {w w':World}{b o:Nat}{t:List Int}{z:Int}(h:RH w b o t z)(hc:∀j,o≤j→j<o+74→w'.cell? ⟨b,j,none⟩=w.cell? ⟨b,j,none⟩)(hf:∀j,w'.frozen? ⟨b,j,none⟩=w.frozen? ⟨b,j,none⟩):RH w' b o t z:=by
  obtain⟨blk,h1,h2,h3,hC⟩:=h;refine⟨blk,h1,h2,h3,fun j hj=> ?_,fun i hi=> ?_,fun i hi=> ?_,?_,?_⟩
  · rw [hc _ (by omega) (by omega),hf];exact hC.there j hj
  · rw [hc _ (by omega) (by omega)];exact hC.st i hi
  · rw [hc _ (by omega) (by omega)];exact hC.blk i hi
  · rw [hc _ (by omega) (by omega)];exact hC.filled
  · rw [hc _ (by omega) (by omega)];exact hC.size
theorem RH.block {w w':World}{b o:Nat}{t:List Int}{z:Int}(h:RH w b o t z)(hb:w'.heap[b]? =w.heap[b]?):RH w' b o t z:=
  h.carry (fun j _ _=>World.cell?_of_block (w:=w) (a:=⟨b,j,none⟩) hb) (fun j=>World.frozen?_of_block (w:=w) (a:=⟨b,j,none⟩) hb)
theorem RH.lt {w:World}{b o:Nat}{t:List Int}{z:Int}(h:RH w b o t z):b<w.heap.size:=by
  obtain⟨blk,_,_,_,hC⟩:=h;exact World.block_lt_of_cell? w _ hC.filled
theorem row_new (w:World)(cs:List Value)(t:TypeId)(n:Nat)(hn:cs.length=n)(hm:n≤maxLen):Row (w.alloc (.cells cs.toArray t)) w.heap.size w.heap.size n n cs:=by
  subst hn;have:=Row.of_block (base:=w.heap.size) (n:=cs.length) (cs:=cs.toArray) (heap_alloc_new w (.cells cs.toArray t)) (Nat.le_refl _) (by simp) (by simpa using hm);simpa using this
theorem xorI_any (blk:List Int)(m:Int)(w:World)(hl:blk.length=64)(hb:∀i,0≤lk blk i∧lk blk i<256)(h0:0≤m)(h1:m<256):
    Cr 190 #[.agg (blk.map (Value.int .u8)).toArray,.int .u8 m] w (.string (strOfNums (xorL blk m))):=by
  go_enter func190,ntmps190;go_wp2;have hrow0:=row_new w (blk.map (Value.int .u8)) 179 64 (by simp [hl]) (by unfold maxLen;omega);have hbl0:Bl w (w.alloc (Obj.cells (blk.map (Value.int .u8)).toArray 179)):=(Below.refl _ _).alloc (Nat.le_refl _) _;generalize w.alloc (Obj.cells (blk.map (Value.int .u8)).toArray 179)=W0 at*
  go_loopw [6] (fun i wr=>∃k:Nat,k≤64∧i= .int .i64 k∧Row wr w.heap.size w.heap.size 64 64 ((xorL (blk.take k) m++blk.drop k).map (Value.int .u8))∧Bl w wr) (fun i _=>64-(intOf i).toNat)
  case atStart=>exact ⟨0,by omega,rfl,by simpa [xorL] using hrow0,hbl0⟩
  case round=>
    clear hrow0 hbl0;obtain⟨k,hk,rfl,hrow,hbl⟩:=hrel;by_cases hlt:k<64
    · have hc:=hrow.cell k hlt;have hxl:(xorL (blk.take k) m).length=k:=by rw [xorL_length,List.length_take];omega
      have hd:blk.drop k=lk blk k::blk.drop (k+1):=by
        rw [List.drop_eq_getElem_cons (by omega)];have:=lk_get blk k (by omega);rw [List.getElem?_eq_getElem (by omega)] at this;rw [Option.some.inj this]
      have hlk:lk (xorL (blk.take k) m++blk.drop k) k=lk blk k:=by rw [hd,lk_mid _ _ _ _ hxl]
      rw [hlk] at hc;have hfz:=(hrow.room k hlt).2;have hbk:=hb k
      have hset:Hid ((xorL (blk.take k) m++blk.drop k).set k (bits BinOp.xor IntKind.u8 (lk blk k) m)=xorL (blk.take (k+1)) m++blk.drop (k+1)):=by
        simp only [Hid];rw [hd,set_at _ _ _ _ _ hxl,List.take_succ_eq_append_getElem (by omega),xorL,xorL,List.map_append,cons_snoc];have:=lk_get blk k (by omega);rw [List.getElem?_eq_getElem (by omega)] at this;rw [←Option.some.inj this];rfl
      have hk0:(k:Int)<64:=by omega
      clear hd hlk hxl;go_wp2;go_roundw
      case rel=>
        have R1:=hrow.set k hlt (.int .u8 (bits BinOp.xor IntKind.u8 (lk blk k) m));rw [←List.map_set,hset.out] at R1;have R2:=hbl.setCell (p:=⟨w.heap.size,k,none⟩) (Nat.le_refl _) (.int .u8 (bits BinOp.xor IntKind.u8 (lk blk k) m))
        first
          |exact ⟨k+1,by omega,by go_num,R1,R2⟩
          |((repeat apply Exists.intro);exact⟨⟨k+1,by omega,by go_num,R1,R2⟩,rfl⟩)
      case measure=>simp [intOf];omega
    · obtain rfl:k=64:=by omega
      rw [List.take_of_length_le (by omega),List.drop_of_length_le (by omega),List.append_nil] at hrow;have hsl:=slice41_all w.heap.size 0;have hcv:=run_convert_bytes_arg (P:=prog) wr 35 5 underlying35 underlying5 w.heap.size 0 64 64 (xorL blk m) (by rw [xorL_length,hl]) (fun i h=>by rw [Nat.zero_add];exact hrow.cell i h) 9 underlying9;go_wp2;go_ret;exact⟨rfl,hbl⟩
theorem takeK_any (b o:Nat)(t:List Int)(s:ByteArray)(w:World)(hR:RH w b o t (t.length:Int))(hT:TabK w)(hb0:b≠6)(hlen:t.length+s.size≤1152921504606846976):
    Calls prog 280 #[.pointer (some ⟨b,o,none⟩),.string s] w fun e w'=>e= .returned (.tuple #[])∧RH w' b o (t++byt s) ((t++byt s).length:Int)∧Upd b o w w':=by
  go_enter func280,ntmps280;go_wp2_with fail;refine(takeI_any b o t s w hR hT hb0 hlen).mono ?_;rintro e W1 ⟨rfl,hR1,hU1⟩;go_wp2
  go_end0
  exact⟨rfl,hR1,hU1⟩
theorem allK_any (b o g n cap:Nat)(t:List Int)(ps:List ByteArray)(w:World)(hR:RH w b o t (t.length:Int))(hT:TabK w)(hb0:b≠6)(hlen:t.length+sizeB ps≤1152921504606846976)
    (hps:ps.length=n)(hn:n≤100)(hc:∀i,i<n→w.cell? ⟨g,i,none⟩=some (.string (ps.getD i ByteArray.empty)))(hgb:g≠b):
    Calls prog 124 #[.iface 280 (.pointer (some ⟨b,o,none⟩)),.slice (some ⟨g,0,none⟩) n cap] w fun e w'=>e= .returned (.tuple #[])∧RH w' b o (t++catB ps) ((t++catB ps).length:Int)∧Upd b o w w':=by
  go_enter func124,ntmps124;go_wp2
  go_loopw [8] (fun i wr=>∃k:Nat,k≤n∧i= .int .i64 k∧RH wr b o (t++catB (ps.take k)) ((t++catB (ps.take k)).length:Int)∧Upd b o w wr) (fun i _=>n-(intOf i).toNat)
  case atStart=>exact ⟨0,by omega,rfl,by simpa [catB] using hR,Upd.refl _ _ _⟩
  case round=>
    obtain⟨k,hk,rfl,hR2,hU⟩:=hrel;by_cases hlt:k<n
    · have hck:=(hU.far (p:=⟨g,k,none⟩) (World.block_lt_of_cell? w _ (hc k hlt)) hgb).trans (hc k hlt);have hm:=methK ⟨b,o,none⟩;have hkp:k<ps.length:=by omega
      have hTr:TabK wr:=fun i hi=>(hU.far (p:=⟨6,i,none⟩) (World.block_lt_of_cell? w _ (hT i hi)) (fun e=>hb0 e.symm)).trans (hT i hi)
      have hsz:=sizeB_le ps k hkp;go_wp2_with fail;refine(takeK_any b o (t++catB (ps.take k)) ps[k] wr hR2 hTr hb0 (by rw [List.length_append];omega)).mono ?_;rintro e W2 ⟨rfl,hR3,hU3⟩;rw [List.append_assoc,←catB_snoc ps k hkp] at hR3;have hU4:=hU.trans hU3;clear hR2 hTr hck hm;go_wp2;go_roundw
      case rel=>
        first
          |exact ⟨k+1,by omega,by go_num,hR3,hU4⟩
          |((repeat apply Exists.intro);exact⟨⟨k+1,by omega,by go_num,hR3,hU4⟩,rfl⟩)
      case measure=>simp [intOf];omega
    · obtain rfl:k=n:=by omega
      rw [List.take_of_length_le (by omega)] at hR2;go_wp2
      go_end0
      exact⟨rfl,hR2,hU⟩
theorem sumK_any (b o:Nat)(t1 t2:List Int)(w:World)(hR1:RH w b o t1 (t1.length:Int))(hR2:RH w b (o+74) t2 (t2.length:Int))(hT:TabK w)(hl1:t1.length≤100000000000)(hl2:t2.length≤100000000000)
    (hb1:∀x∈t1,0≤x∧x<256)(hb2:∀x∈t2,0≤x∧x<256):
    Cr 188 #[.pointer (some ⟨b,o,none⟩)] w (.string (strOfNums (shaF (t2++shaF t1)))):=by
  have hz:=zero44;have hgw:6<w.heap.size:=World.block_lt_of_cell? w _ (hT 0 (by omega));have hbw:=hR1.lt;obtain⟨L,hL,hrg⟩:=hR2.list;have hrl:=hL.len;have hro:=hL.one;have hth:(w.alloc (.cells zeroRh.toArray 181)).there w.heap.size 0 74:=there_new w _ _ 74 (by simp [zeroRh_len]);go_enter func188,ntmps188
  go_wp2_with (first
    |(refine wpList_load_mid rfl 181 _ rfl b (o+74) rfl L _ hrg underlying181 rfl (by rw [size44,hrl]) ?_)
    | (refine wpList_store_mid rfl 181 _ _ rfl w.heap.size 0 L.toArray rfl rfl (by simpa [hrl] using hth) (by rw [size44];simp [hrl]) (all_oneCell_toArray hro) ?_
       generalize hW1:World.setCells _ _ _ _=W1
       have hRn:RH W1 w.heap.size 0 t2 (t2.length:Int):=by
         rw [←hW1];exact hL.rh (World.rangeAt_setCells_same _ _ _ _ (by rw [hrl];exact hth)) (World.there_setCells hth _ _ _)
       have hs1:W1.heap.size=w.heap.size+1:=by rw [←hW1,setCells_size];simp
       have hbl1:Bl w W1:=by rw [←hW1];exact below_setCells ((Below.refl _ _).alloc (Nat.le_refl _) _) (Nat.le_refl _) _ _
       clear hW1))
  have hT1:TabK W1:=fun i hi=>(hbl1.cell (p:=⟨6,i,none⟩) hgw).trans (hT i hi)
  have hR1':RH W1 b o t1 (t1.length:Int):=hR1.block (hbl1.block b hbw);refine(sumI_any b o t1 W1 hR1' hT1 (by omega) hb1).mono ?_;rintro e W2 ⟨rfl,hbl2⟩;have hRn2:RH W2 w.heap.size 0 t2 (t2.length:Int):=hRn.block (hbl2.block _ (by omega));have hbl2':Bl w W2:=hbl1.trans (hbl2.mono (by omega));have hT2:TabK W2:=fun i hi=>(hbl2'.cell (p:=⟨6,i,none⟩) hgw).trans (hT i hi)
  clear hRn hR1' hT1 hth hro hrl hrg hL;go_wp2_with fail;refine(takeI_any w.heap.size 0 t2 _ W2 hRn2 hT2 (by omega) (by rw [strOfNums_size,shaF_length];omega)).mono ?_;rintro e W3 ⟨rfl,hR3,hU3⟩;rw [byt_str _ (shaF_lt _)] at hR3;have hbl3:Bl w W3:=hbl2'.trans (hU3.below (Nat.le_refl _) hbl2'.size);have hT3:TabK W3:=fun i hi=>(hbl3.cell (p:=⟨6,i,none⟩) hgw).trans (hT i hi)
  clear hRn2 hT2 hU3;go_wp2_with fail;refine(sumI_any w.heap.size 0 (t2++shaF t1) W3 hR3 hT3 (by rw [List.length_append,shaF_length];omega) (app_lt hb2 (shaF_lt _))).mono ?_;rintro e W4 ⟨rfl,hbl4⟩;go_wp2;go_ret;exact⟨rfl,hbl3.tr hbl4⟩
theorem size46:(prog.info? 246).map (·.size)=some 148:=by kernel_rfl
theorem zero46 (w:World):(zeroValue 246).run prog w= .ok (.agg (zeroRh++zeroRh).toArray) w:=by kernel_rfl
theorem ofK_any (L1 L2:List Value)(t1 t2:List Int)(g n cap:Nat)(ps:List ByteArray)(w:World)(h1:IsRH L1 t1)(h2:IsRH L2 t2)(hT:TabK w)
    (hl1:t1.length+sizeB ps≤100000000000)(hl2:t2.length≤100000000000)(hb1:∀x∈t1,0≤x∧x<256)(hb2:∀x∈t2,0≤x∧x<256)
    (hps:ps.length=n)(hn:n≤100)(hn0:0<n)(hc:∀i,i<n→w.cell? ⟨g,i,none⟩=some (.string (ps.getD i ByteArray.empty))):
    Cr 157 #[.agg (L1++L2).toArray,.slice (some ⟨g,0,none⟩) n cap] w (.string (strOfNums (shaF (t2++shaF (t1++catB ps))))):=by
  have hgw:6<w.heap.size:=World.block_lt_of_cell? w _ (hT 0 (by omega));have hgg:g<w.heap.size:=World.block_lt_of_cell? w _ (hc 0 hn0);have hn1:=h1.len;have hn2:=h2.len;have hrow:=row_new w (L1++L2) 246 148 (by rw [List.length_append];omega) (by unfold maxLen;omega)
  have hRa:RH (w.alloc (.cells (L1++L2).toArray 246)) w.heap.size 0 t1 (t1.length:Int):=
    h1.rh (fun j v hv=>by rw [Nat.zero_add];exact hrow.cells j v (by rw [List.getElem?_append_left (List.getElem?_eq_some_iff.1 hv).1];exact hv)) (fun j hj=>by rw [Nat.zero_add];exact hrow.room j (by omega))
  have hRb:RH (w.alloc (.cells (L1++L2).toArray 246)) w.heap.size (0+74) t2 (t2.length:Int):=
    h2.rh (fun j v hv=>by rw [Nat.zero_add];exact hrow.cells (74+j) v (by rw [List.getElem?_append_right (by omega),hn1,show 74+j-74=j by omega];exact hv)) (fun j hj=>by rw [Nat.zero_add];exact hrow.room (74+j) (by omega))
  have hbA:Bl w (w.alloc (.cells (L1++L2).toArray 246)):=(Below.refl _ _).alloc (Nat.le_refl _) _;clear hrow;go_enter func157,ntmps157;go_wp2_with fail;have hsA:(w.alloc (.cells (L1++L2).toArray 246)).heap.size=w.heap.size+1:=by simp
  generalize w.alloc (.cells (L1++L2).toArray 246)=WA at*;have hTA:TabK WA:=fun i hi=>(hbA.cell (p:=⟨6,i,none⟩) hgw).trans (hT i hi)
  refine(allK_any w.heap.size 0 g n cap t1 ps WA hRa hTA (by omega) (by omega) hps hn (fun i hi=>(hbA.cell (p:=⟨g,i,none⟩) hgg).trans (hc i hi)) (by omega)).mono ?_;rintro e W1 ⟨rfl,hR1,hU1⟩;have hR2:RH W1 w.heap.size (0+74) t2 (t2.length:Int):=hRb.carry (fun j h1 h2=>hU1.cell j (by omega)) hU1.frozen;have hb1':Bl w W1:=hbA.trans (hU1.below (Nat.le_refl _) hbA.size);have hT1:TabK W1:=fun i hi=>(hb1'.cell (p:=⟨6,i,none⟩) hgw).trans (hT i hi)
  clear hRa hRb hTA hU1;go_wp2_with fail;refine(sumK_any w.heap.size 0 (t1++catB ps) t2 W1 hR1 hR2 hT1 (by rw [List.length_append,catB_length];omega) hl2 (app_lt hb1 (catB_lt ps)) hb2).mono ?_;rintro e W2 ⟨rfl,hb2'⟩;go_wp2;go_ret;exact⟨rfl,hb1'.tr hb2'⟩
end
end Go.Proofs.YtjhbckngdclleaaGreatDoor
