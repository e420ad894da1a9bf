import Derived.Test.YtjhbckngdclleaaGreatDoorMrg42
set_option linter.unusedVariables false
set_option maxRecDepth 100000
set_option maxHeartbeats 16000000
namespace Go.Proofs.YtjhbckngdclleaaGreatDoor
open Go.Proofs.Tryz Go.RowKit
open Go.Value (int)
open Go.IntKind (u64)
section
attribute [local go_sem ↓] Go.wp_at_zero Go.wp_at_succ
theorem wpList_copy_str {P:Program}{ops:Array Oper}{rest:List Oper}{o:Oper}{a:Act}{w:World}{Q:Exit→Act→World→Prop}
    (hg:o.guard=none)(d x:Operand)(dT sT:TypeId)(hop:o.op=Op.call {callee:=Callee.builtin Builtin.copy,args:=#[d,x],argTypes:=#[dT,sT]})
    (elem:TypeId)(hu:P.underlying dT=some (.slice elem))(hz:∀w,(Go.sizeOf elem).run P w= .ok 1 w)
    (b off dLen dCap:Nat)(hd:a.eval d= .slice (some ⟨b,off,none⟩) dLen dCap)(t:ByteArray)(hx:a.eval x= .string t)(n:Nat)(hn:n=Nat.min t.size dLen)
    (hc:∀j,j<n→(w.cell? ⟨b,off+j,none⟩).isSome=true)(hf:∀j,j<n→w.frozen? ⟨b,off+j,none⟩=false)
    (hK:wpList P ops Q rest (a.put o.dst (goInt n)) (w.setCells b off (((byt t).take n).map (Value.int .u8)))):wpList P ops Q (o::rest) a w:=by
  refine wpList_plain hg fun K hKK=> ?_
  have hrun:=run_copy_str (P:=P) w dT sT o.type elem b off dLen dCap t n hu hz hn hc hf;unfold Oper.wp execOp;simp only [hop,resolve,invoke,builtin,Sem.run_bind,Sem.run_pure,Result.andThen_ok,List.map_toArray,List.map_cons,List.map_nil,hd,hx,hrun];exact hKK _ _ hK
def zeroBlk:List Value:=(List.replicate 64 (0:Int)).map (Value.int .u8)
theorem zero41 (w:World):(zeroValue 179).run prog w= .ok (.agg zeroBlk.toArray) w:=by kernel_rfl
theorem newRh2_one:∀v∈newRh++newRh,v.oneCell'=true:=by
  intro v hv;rw [List.mem_append] at hv;rcases hv with h|h<;>exact rhL_one _ _ _ _ v h
theorem key_range (w:World)(k:ByteArray)(t:TypeId)(hk:k.size≤64):
    ((w.alloc (.cells zeroBlk.toArray t)).setCells w.heap.size 0 (((byt k).take k.size).map (Value.int .u8))).rangeAt w.heap.size 0 ((keyL (byt k)).map (Value.int .u8)):=by
  have hbl:(byt k).length=k.size:=byt_length k;have htk:(byt k).take k.size=byt k:=List.take_of_length_le (by omega);rw [htk];intro j v hv;rw [Nat.zero_add];unfold keyL at hv;rw [List.map_append] at hv;by_cases hj:j<k.size
  · rw [List.getElem?_append_left (by rw [List.length_map];omega)] at hv;have hin:=World.cell?_setCells_in w.heap.size ((byt k).map (Value.int .u8)) 0 (w.alloc (.cells zeroBlk.toArray t)) (fun q hq=>(there_new w zeroBlk.toArray t 64 (by decide) q (by rw [List.length_map] at hq;omega)).1) j (by rw [List.length_map];omega);rw [Nat.zero_add] at hin;rw [hin,←hv,List.getElem?_eq_getElem]
  · rw [List.getElem?_append_right (by rw [List.length_map];omega),List.length_map,hbl,List.map_replicate] at hv;have hj2:=(List.getElem?_eq_some_iff.1 hv).1;rw [List.length_replicate] at hj2;rw [List.getElem?_replicate_of_lt hj2] at hv;rw [World.cell?_setCells_out w.heap.size _ 0 _ ⟨w.heap.size,j,none⟩ (fun _ _=> .inr (by rw [List.length_map];show 0+(byt k).length≤j;omega)),cell_of_row _ _ _ _ _ _ (heap_alloc_new w _)]
    have hz:zeroBlk.toArray[j]? =some (.int .u8 0):=by
      rw [List.getElem?_toArray,zeroBlk,List.map_replicate,List.getElem?_replicate_of_lt (by omega)]
    rw [hz,←hv]
theorem newRh_is:IsRH newRh []:=⟨List.replicate 64 0,by simp,fun i=>lk_rep i,by simp,rfl⟩
theorem range_two {w:World}{b:Nat}{L1 L2:List Value}(h:L1.length=74)(h1:w.rangeAt b 0 L1)(h2:w.rangeAt b 74 L2):w.rangeAt b 0 (L1++L2):=fun j v hv=>by
  by_cases hj:j<74
  · rw [List.getElem?_append_left (by omega)] at hv;exact h1 j v hv
  · rw [List.getElem?_append_right (by omega),h] at hv;have:=h2 (j-74) v hv;rwa [show 74+(j-74)=0+j by omega] at this
theorem there_below {w w':World}{b o n B:Nat}(ht:w.there b o n)(h:Below B w w')(hb:b<B:=by omega):w'.there b o n:=fun j hj=>
  ⟨by rw [h.cell (p:=⟨b,o+j,none⟩) hb];exact(ht j hj).1,by rw [h.frozen (p:=⟨b,o+j,none⟩) hb];exact(ht j hj).2⟩
theorem newK_any (key:ByteArray)(w:World)(hT:TabK w)(hk:key.size≤100000000000):
    Calls prog 158 #[.string key] w fun e w'=>∃L1 L2,e= .returned (.agg (L1++L2).toArray)∧IsRH L1 (xorL (kkL (byt key)) 54)∧IsRH L2 (xorL (kkL (byt key)) 92)∧Bl w w':=by
  have hgw:6<w.heap.size:=World.block_lt_of_cell? w _ (hT 0 (by omega));have hz46:=zero46;have hz41:=zero41;have hthA:(w.alloc (.cells (zeroRh++zeroRh).toArray 246)).there w.heap.size 0 148:=there_new w _ _ 148 (by simp [zeroRh_len]);have hbA:Bl w (w.alloc (.cells (zeroRh++zeroRh).toArray 246)):=(Below.refl _ _).alloc (Nat.le_refl _) _;have hsA:(w.alloc (.cells (zeroRh++zeroRh).toArray 246)).heap.size=w.heap.size+1:=by simp
  by_cases h64:64<key.size
  · have h64i : (64:Int)<(key.size:Int):=by omega
    go_enter func158,ntmps158;go_wp2_with fail;generalize w.alloc (.cells (zeroRh++zeroRh).toArray 246)=WA at*;have hTA:TabK WA:=fun i hi=>(hbA.cell (p:=⟨6,i,none⟩) hgw).trans (hT i hi)
    refine(shaI_any key WA hTA (by omega)).mono ?_;rintro e W0 ⟨rfl,hb0⟩;have hs0:=hb0.size;obtain⟨k1,Hk1',hk1le⟩:∃k1,Hid (k1=strOfNums (shaF (byt key)))∧k1.size≤64:=⟨_,rfl,by rw [strOfNums_size,shaF_length];omega⟩;rw [←Hk1'.out]
    have Hk1:Hid (keyL (byt k1)=kkL (byt key)):=by
      simp only [Hid];unfold kkL;rw [if_pos (by rw [byt_length];omega),Hk1'.out,byt_str _ (shaF_lt _)]
    have hth0:W0.there w.heap.size 0 148:=there_below hthA hb0;have hbW:Bl w W0:=hbA.trans (hb0.mono (by omega));have hsl:=slice41_all W0.heap.size 0;clear hthA hTA;have hcs:=there_new W0 zeroBlk.toArray 179 64 (by decide)
    go_wp2_with (refine wpList_copy_str rfl _ _ _ _ rfl 5 underlying35 sizeOf5 W0.heap.size 0 64 64 rfl k1 rfl k1.size (by exact(Nat.min_eq_left hk1le).symm) (by exact fun j hj=>(hcs j (by omega)).1) (by exact fun j hj=>(hcs j (by omega)).2) ?_
                 generalize hW1:World.setCells _ _ _ _=W1;have hrk:W1.rangeAt W0.heap.size 0 ((keyL (byt k1)).map (Value.int .u8)):=by rw [←hW1];exact key_range W0 k1 _ hk1le
                 have hs1:W1.heap.size=W0.heap.size+1:=by rw [←hW1,setCells_size];simp
                 have hb1:Bl W0 W1:=by rw [←hW1];exact below_setCells ((Below.refl _ _).alloc (Nat.le_refl _) _) (Nat.le_refl _) _ _
                 clear hW1)
    rw [Hk1.out] at hrk;have hth1:W1.there w.heap.size 0 148:=there_below hth0 hb1;have hbW1:Bl w W1:=hbW.trans (hb1.mono (by omega));have hB3:w.heap.size<W0.heap.size:=by omega
    clear hcs hth0 hb1 hsl;generalize W0.heap.size=B3 at*;refine(newI_any W1).mono ?_;rintro e W2 ⟨rfl,hb2⟩;have hs2:=hb2.size;go_wp2_with fail;refine(newI_any W2).mono ?_;rintro e W3 ⟨rfl,hb3⟩;have hs3:=hb3.size;have hth:(W3.alloc (.cells (zeroRh++zeroRh).toArray 246)).there W3.heap.size 0 148:=there_new W3 _ _ 148 (by simp [zeroRh_len]);have hnl:(newRh++newRh).length=148:=by rw [List.length_append,newRh_len]
    have hnt:(newRh++newRh).toArray.size=148:=by simp [newRh_len]
    have hrk3:W3.rangeAt B3 0 ((kkL (byt key)).map (Value.int .u8)):=fun j v hv=>((hb3.cell (p:=⟨B3,0+j,none⟩) (by simp;omega)).trans (hb2.cell (p:=⟨B3,0+j,none⟩) (by simp;omega))).trans (hrk j v hv)
    have hkl:((kkL (byt key)).map (Value.int .u8)).length=64:=by rw [List.length_map,kkL_length]
    go_wp2_with (first
      | (refine wpList_store_mid rfl 246 _ _ rfl W3.heap.size 0 (newRh++newRh).toArray rfl rfl (by rw [hnt];exact hth) (by rw [size46,hnt]) (all_oneCell_toArray newRh2_one) ?_
         generalize hW4:World.setCells _ _ _ _=W4;have hrn:W4.rangeAt W3.heap.size 0 (newRh++newRh):=by rw [←hW4];exact World.rangeAt_setCells_same _ _ _ _ (by rw [hnl];exact hth)
         have htn:W4.there W3.heap.size 0 148:=by rw [←hW4];exact World.there_setCells hth _ _ _
         have hs4:W4.heap.size=W3.heap.size+1:=by rw [←hW4,setCells_size];simp
         have hb4:Bl W3 W4:=by rw [←hW4];exact below_setCells ((Below.refl _ _).alloc (Nat.le_refl _) _) (Nat.le_refl _) _ _
         clear hW4)
      |(refine wpList_load_mid rfl 179 _ rfl B3 0 rfl ((kkL (byt key)).map (Value.int .u8)) _ (by exact fun j v hv=>(hb4.cell (p:=⟨B3,0+j,none⟩) (by simp;omega)).trans (hrk3 j v hv)) underlying179 rfl (by rw [size41,hkl]) ?_))
    have hkb:=lk_lt (kkL_lt (byt_lt key));refine(xorI_any (kkL (byt key)) 54 W4 (kkL_length _) hkb (by omega) (by omega)).mono ?_;rintro e W5 ⟨rfl,hb5⟩;have hs5:=hb5.size;have hBw:Bl w W5:=((((hbW1).trans (hb2.mono (by omega))).trans (hb3.mono (by omega))).trans (hb4.mono (by omega))).trans (hb5.mono (by omega));have hT5:TabK W5:=fun i hi=>(hBw.cell (p:=⟨6,i,none⟩) hgw).trans (hT i hi)
    have hRi:RH W5 W3.heap.size 0 [] (([]:List Int).length:Int):=(newRh_is.rh (fun j v hv=>hrn j v (by rw [List.getElem?_append_left (List.getElem?_eq_some_iff.1 hv).1];exact hv)) (fun j hj=>htn j (by omega))).block (hb5.block _ (by omega));have hRo:RH W5 W3.heap.size 74 [] (([]:List Int).length:Int):=(newRh_is.rh (fun j v hv=>by have:=hrn (74+j) v (by rw [List.getElem?_append_right (by rw [newRh_len];omega),newRh_len,show 74+j-74=j by omega];exact hv);rwa [Nat.zero_add] at this) (fun j hj=>by have:=htn (74+j) (by omega);rwa [Nat.zero_add] at this)).block (hb5.block _ (by omega));clear hrn htn hth hnl;go_wp2_with fail;refine(takeI_any W3.heap.size 0 [] _ W5 hRi hT5 (by omega) (by rw [strOfNums_size,xorL_length,kkL_length];simp)).mono ?_;rintro e W6 ⟨rfl,hRi6,hU6⟩;rw [List.nil_append,byt_str _ (xorL_lt _ _)] at hRi6;have hs6:=hU6.size;have hRo6:RH W6 W3.heap.size 74 [] (([]:List Int).length:Int):=hRo.carry (fun j h1 h2=>hU6.cell j (by omega)) hU6.frozen;have hB6:Below W3.heap.size W5 W6:=hU6.below (Nat.le_refl _) (by omega);have hrk6:W6.rangeAt B3 0 ((kkL (byt key)).map (Value.int .u8)):=fun j v hv=>(((hB6.cell (p:=⟨B3,0+j,none⟩) (by simp;omega)).trans (hb5.cell (p:=⟨B3,0+j,none⟩) (by simp;omega))).trans (hb4.cell (p:=⟨B3,0+j,none⟩) (by simp;omega))).trans (hrk3 j v hv)
    clear hRi hRo hT5;go_wp2_with (refine wpList_load_mid rfl 179 _ rfl B3 0 rfl ((kkL (byt key)).map (Value.int .u8)) _ (by exact hrk6) underlying179 rfl (by rw [size41,hkl]) ?_);refine(xorI_any (kkL (byt key)) 92 W6 (kkL_length _) hkb (by omega) (by omega)).mono ?_;rintro e W7 ⟨rfl,hb7⟩;have hs7:=hb7.size;have hBw7:Bl w W7:=(hBw.trans (hB6.mono (by omega))).trans (hb7.mono (by omega));have hT7:TabK W7:=fun i hi=>(hBw7.cell (p:=⟨6,i,none⟩) hgw).trans (hT i hi)
    have hRo7:=hRo6.block (hb7.block _ (by omega));have hRi7:=hRi6.block (hb7.block _ (by omega));go_wp2_with fail;refine(takeI_any W3.heap.size 74 [] _ W7 hRo7 hT7 (by omega) (by rw [strOfNums_size,xorL_length,kkL_length];simp)).mono ?_;rintro e W8 ⟨rfl,hRo8,hU8⟩;rw [List.nil_append,byt_str _ (xorL_lt _ _)] at hRo8;have hs8:=hU8.size;have hRi8:=hRi7.carry (w':=W8) (fun j h1 h2=>hU8.cell j (by omega)) hU8.frozen;have hBw8:Bl w W8:=hBw7.trans (hU8.below (by omega) (by omega));obtain⟨L1,hL1,hr1⟩:=hRi8.list;obtain⟨L2,hL2,hr2⟩:=hRo8.list;have hn1:=hL1.len;have hn2:=hL2.len;have hr12:W8.rangeAt W3.heap.size 0 (L1++L2):=range_two hn1 hr1 hr2;have hlen:(L1++L2).length=148:=by rw [List.length_append];omega
    have hth2:W8.there w.heap.size 0 148:=there_below (B:=w.heap.size+1) hth1 (((((((hb2.mono (by omega)).trans (hb3.mono (by omega))).trans (hb4.mono (by omega))).trans (hb5.mono (by omega))).trans (hB6.mono (by omega))).trans (hb7.mono (by omega))).trans (hU8.below (by omega) (by omega)))
    have hone:∀v∈L1++L2,v.oneCell'=true:=fun v hv=>by
      rw [List.mem_append] at hv;rcases hv with h|h
      · exact hL1.one v h
      · exact hL2.one v h
    have hr:=results_mid (P:=prog) (fn:=Tryz.f158) (p:=2) (ty:=246) results158;have hfin:Hid (∃M1 M2,L1++L2=M1++M2∧IsRH M1 (xorL (kkL (byt key)) 54)∧IsRH M2 (xorL (kkL (byt key)) 92)):=⟨L1,L2,rfl,hL1,hL2⟩;clear hL1 hL2 hr1 hr2 hRi8 hRo8 hRi7 hRo7 hRi6 hRo6 hU8 hU6;generalize L1++L2=LL at*
    go_wp2_with (first
      |(refine wpList_load_mid rfl 246 _ rfl W3.heap.size 0 rfl LL _ (by exact hr12) underlying246 rfl (by rw [size46,hlen]) ?_)
      |(refine wpList_store_mid rfl 246 _ _ rfl w.heap.size 0 LL.toArray rfl rfl (by simpa [hlen] using hth2) (by rw [size46];simp [hlen]) (all_oneCell_toArray hone) ?_))
    obtain⟨M1,M2,hM,h1,h2⟩:=hfin.out;refine bodyPost_ret (v:= .agg LL.toArray) (hr _ _ w.heap.size 0 LL _ rfl (World.rangeAt_setCells_same _ _ _ _ (by rw [hlen];exact hth2)) underlying246 rfl (by rw [size46,hlen])) rfl ⟨M1,M2,by rw [hM],h1,h2,?_⟩;exact below_setCells hBw8 (Nat.le_refl _) _ _
  · have h64i: ¬ ((64:Int)<(key.size:Int)):=by omega
    have hk1le:key.size≤64:=by omega
    have Hk1:Hid (keyL (byt key)=kkL (byt key)):=by
      simp only [Hid];unfold kkL;rw [if_neg (by rw [byt_length];omega)]
    have hcs:=there_new (w.alloc (.cells (zeroRh++zeroRh).toArray 246)) zeroBlk.toArray 179 64 (by decide);have hkr:=key_range (w.alloc (.cells (zeroRh++zeroRh).toArray 246)) key 179 hk1le;rw [hsA] at hcs hkr;have hsl:=slice41_all (w.heap.size+1) 0;go_enter func158,ntmps158
    go_wp2_with (refine wpList_copy_str rfl _ _ _ _ rfl 5 underlying35 sizeOf5 (w.heap.size+1) 0 64 64 rfl key rfl key.size (by exact(Nat.min_eq_left hk1le).symm) (by exact fun j hj=>(hcs j (by omega)).1) (by exact fun j hj=>(hcs j (by omega)).2) ?_
                 generalize hW1:World.setCells _ _ _ _=W1;have hrk:W1.rangeAt (w.heap.size+1) 0 ((keyL (byt key)).map (Value.int .u8)):=by rw [←hW1];exact hkr
                 have hs1:W1.heap.size=w.heap.size+1+1:=by rw [←hW1,setCells_size];simp
                 have hb1:Below (w.heap.size+1) (w.alloc (.cells (zeroRh++zeroRh).toArray 246)) W1:=by rw [←hW1];exact below_setCells ((Below.refl _ _).alloc (by rw [hsA];exact Nat.le_refl _) _) (Nat.le_refl _) _ _
                 clear hW1)
    rw [Hk1.out] at hrk;have hth1:W1.there w.heap.size 0 148:=there_below hthA hb1;have hbW1:Bl w W1:=hbA.trans (hb1.mono (by omega));obtain⟨B3,hB3e⟩:∃B3,B3=w.heap.size+1:=⟨_,rfl⟩;rw [←hB3e] at hrk hs1;have hB3:w.heap.size<B3:=by omega
    clear hcs hkr hb1 hsl;simp only [←hB3e];clear hB3e hthA hbA hsA;refine(newI_any W1).mono ?_;rintro e W2 ⟨rfl,hb2⟩;have hs2:=hb2.size;go_wp2_with fail;refine(newI_any W2).mono ?_;rintro e W3 ⟨rfl,hb3⟩;have hs3:=hb3.size;have hth:(W3.alloc (.cells (zeroRh++zeroRh).toArray 246)).there W3.heap.size 0 148:=there_new W3 _ _ 148 (by simp [zeroRh_len]);have hnl:(newRh++newRh).length=148:=by rw [List.length_append,newRh_len]
    have hnt:(newRh++newRh).toArray.size=148:=by simp [newRh_len]
    have hrk3:W3.rangeAt B3 0 ((kkL (byt key)).map (Value.int .u8)):=fun j v hv=>((hb3.cell (p:=⟨B3,0+j,none⟩) (by simp;omega)).trans (hb2.cell (p:=⟨B3,0+j,none⟩) (by simp;omega))).trans (hrk j v hv)
    have hkl:((kkL (byt key)).map (Value.int .u8)).length=64:=by rw [List.length_map,kkL_length]
    go_wp2_with (first
      | (refine wpList_store_mid rfl 246 _ _ rfl W3.heap.size 0 (newRh++newRh).toArray rfl rfl (by rw [hnt];exact hth) (by rw [size46,hnt]) (all_oneCell_toArray newRh2_one) ?_
         generalize hW4:World.setCells _ _ _ _=W4;have hrn:W4.rangeAt W3.heap.size 0 (newRh++newRh):=by rw [←hW4];exact World.rangeAt_setCells_same _ _ _ _ (by rw [hnl];exact hth)
         have htn:W4.there W3.heap.size 0 148:=by rw [←hW4];exact World.there_setCells hth _ _ _
         have hs4:W4.heap.size=W3.heap.size+1:=by rw [←hW4,setCells_size];simp
         have hb4:Bl W3 W4:=by rw [←hW4];exact below_setCells ((Below.refl _ _).alloc (Nat.le_refl _) _) (Nat.le_refl _) _ _
         clear hW4)
      |(refine wpList_load_mid rfl 179 _ rfl B3 0 rfl ((kkL (byt key)).map (Value.int .u8)) _ (by exact fun j v hv=>(hb4.cell (p:=⟨B3,0+j,none⟩) (by simp;omega)).trans (hrk3 j v hv)) underlying179 rfl (by rw [size41,hkl]) ?_))
    have hkb:=lk_lt (kkL_lt (byt_lt key));refine(xorI_any (kkL (byt key)) 54 W4 (kkL_length _) hkb (by omega) (by omega)).mono ?_;rintro e W5 ⟨rfl,hb5⟩;have hs5:=hb5.size;have hBw:Bl w W5:=((((hbW1).trans (hb2.mono (by omega))).trans (hb3.mono (by omega))).trans (hb4.mono (by omega))).trans (hb5.mono (by omega));have hT5:TabK W5:=fun i hi=>(hBw.cell (p:=⟨6,i,none⟩) hgw).trans (hT i hi)
    have hRi:RH W5 W3.heap.size 0 [] (([]:List Int).length:Int):=(newRh_is.rh (fun j v hv=>hrn j v (by rw [List.getElem?_append_left (List.getElem?_eq_some_iff.1 hv).1];exact hv)) (fun j hj=>htn j (by omega))).block (hb5.block _ (by omega));have hRo:RH W5 W3.heap.size 74 [] (([]:List Int).length:Int):=(newRh_is.rh (fun j v hv=>by have:=hrn (74+j) v (by rw [List.getElem?_append_right (by rw [newRh_len];omega),newRh_len,show 74+j-74=j by omega];exact hv);rwa [Nat.zero_add] at this) (fun j hj=>by have:=htn (74+j) (by omega);rwa [Nat.zero_add] at this)).block (hb5.block _ (by omega));clear hrn htn hth hnl;go_wp2_with fail;refine(takeI_any W3.heap.size 0 [] _ W5 hRi hT5 (by omega) (by rw [strOfNums_size,xorL_length,kkL_length];simp)).mono ?_;rintro e W6 ⟨rfl,hRi6,hU6⟩;rw [List.nil_append,byt_str _ (xorL_lt _ _)] at hRi6;have hs6:=hU6.size;have hRo6:RH W6 W3.heap.size 74 [] (([]:List Int).length:Int):=hRo.carry (fun j h1 h2=>hU6.cell j (by omega)) hU6.frozen;have hB6:Below W3.heap.size W5 W6:=hU6.below (Nat.le_refl _) (by omega);have hrk6:W6.rangeAt B3 0 ((kkL (byt key)).map (Value.int .u8)):=fun j v hv=>(((hB6.cell (p:=⟨B3,0+j,none⟩) (by simp;omega)).trans (hb5.cell (p:=⟨B3,0+j,none⟩) (by simp;omega))).trans (hb4.cell (p:=⟨B3,0+j,none⟩) (by simp;omega))).trans (hrk3 j v hv)
    clear hRi hRo hT5;go_wp2_with (refine wpList_load_mid rfl 179 _ rfl B3 0 rfl ((kkL (byt key)).map (Value.int .u8)) _ (by exact hrk6) underlying179 rfl (by rw [size41,hkl]) ?_);refine(xorI_any (kkL (byt key)) 92 W6 (kkL_length _) hkb (by omega) (by omega)).mono ?_;rintro e W7 ⟨rfl,hb7⟩;have hs7:=hb7.size;have hBw7:Bl w W7:=(hBw.trans (hB6.mono (by omega))).trans (hb7.mono (by omega));have hT7:TabK W7:=fun i hi=>(hBw7.cell (p:=⟨6,i,none⟩) hgw).trans (hT i hi)
    have hRo7:=hRo6.block (hb7.block _ (by omega));have hRi7:=hRi6.block (hb7.block _ (by omega));go_wp2_with fail;refine(takeI_any W3.heap.size 74 [] _ W7 hRo7 hT7 (by omega) (by rw [strOfNums_size,xorL_length,kkL_length];simp)).mono ?_;rintro e W8 ⟨rfl,hRo8,hU8⟩;rw [List.nil_append,byt_str _ (xorL_lt _ _)] at hRo8;have hs8:=hU8.size;have hRi8:=hRi7.carry (w':=W8) (fun j h1 h2=>hU8.cell j (by omega)) hU8.frozen;have hBw8:Bl w W8:=hBw7.trans (hU8.below (by omega) (by omega));obtain⟨L1,hL1,hr1⟩:=hRi8.list;obtain⟨L2,hL2,hr2⟩:=hRo8.list;have hn1:=hL1.len;have hn2:=hL2.len;have hr12:W8.rangeAt W3.heap.size 0 (L1++L2):=range_two hn1 hr1 hr2;have hlen:(L1++L2).length=148:=by rw [List.length_append];omega
    have hth2:W8.there w.heap.size 0 148:=there_below (B:=w.heap.size+1) hth1 (((((((hb2.mono (by omega)).trans (hb3.mono (by omega))).trans (hb4.mono (by omega))).trans (hb5.mono (by omega))).trans (hB6.mono (by omega))).trans (hb7.mono (by omega))).trans (hU8.below (by omega) (by omega)))
    have hone:∀v∈L1++L2,v.oneCell'=true:=fun v hv=>by
      rw [List.mem_append] at hv;rcases hv with h|h
      · exact hL1.one v h
      · exact hL2.one v h
    have hr:=results_mid (P:=prog) (fn:=Tryz.f158) (p:=2) (ty:=246) results158;have hfin:Hid (∃M1 M2,L1++L2=M1++M2∧IsRH M1 (xorL (kkL (byt key)) 54)∧IsRH M2 (xorL (kkL (byt key)) 92)):=⟨L1,L2,rfl,hL1,hL2⟩;clear hL1 hL2 hr1 hr2 hRi8 hRo8 hRi7 hRo7 hRi6 hRo6 hU8 hU6;generalize L1++L2=LL at*
    go_wp2_with (first
      |(refine wpList_load_mid rfl 246 _ rfl W3.heap.size 0 rfl LL _ (by exact hr12) underlying246 rfl (by rw [size46,hlen]) ?_)
      |(refine wpList_store_mid rfl 246 _ _ rfl w.heap.size 0 LL.toArray rfl rfl (by simpa [hlen] using hth2) (by rw [size46];simp [hlen]) (all_oneCell_toArray hone) ?_))
    obtain⟨M1,M2,hM,h1,h2⟩:=hfin.out;refine bodyPost_ret (v:= .agg LL.toArray) (hr _ _ w.heap.size 0 LL _ rfl (World.rangeAt_setCells_same _ _ _ _ (by rw [hlen];exact hth2)) underlying246 rfl (by rw [size46,hlen])) rfl ⟨M1,M2,by rw [hM],h1,h2,?_⟩;exact below_setCells hBw8 (Nat.le_refl _) _ _
end
theorem hmacI_any (key s:ByteArray)(w:World)(hT:TabK w)(hk:key.size≤10000000000)(hs:s.size≤10000000000):
    Cr 106 #[.string key,.string s] w (.string (strOfNums (hmacF (byt key) (byt s)))):=by
  have hgw:6<w.heap.size:=World.block_lt_of_cell? w _ (hT 0 (by omega));go_enter func106,ntmps106;go_wp2_with fail;refine(newK_any key w hT (by omega)).mono ?_;rintro e W1 ⟨L1,L2,rfl,h1,h2,hb1⟩;go_wp2_with fail;generalize hW2:W1.alloc _=W2
  have hc:∀i,i<1→W2.cell? ⟨W1.heap.size,i,none⟩=some (.string ([s].getD i ByteArray.empty)):=fun i hi=>by
    obtain rfl:i=0:=by omega
    rw [←hW2,cell_of_row _ _ _ _ _ _ (heap_alloc_new W1 _)];rfl
  have hb2:Bl w W2:=by rw [←hW2];exact hb1.alloc hb1.size _
  have hT2:TabK W2:=fun i hi=>(hb2.cell (p:=⟨6,i,none⟩) hgw).trans (hT i hi)
  clear hW2;refine(ofK_any L1 L2 _ _ W1.heap.size 1 1 [s] W2 h1 h2 hT2 (by rw [xorL_length,kkL_length];simp [sizeB];omega) (by rw [xorL_length,kkL_length];omega) (xorL_lt _ _) (xorL_lt _ _) rfl (by omega) (by omega) hc).mono ?_;rintro e W3 ⟨rfl,hb3⟩;go_wp2;go_ret;exact⟨by simp [catB,hmacF],hb2.tr hb3⟩
theorem extractI_any (key s:ByteArray)(w:World)(hT:TabK w)(hk:key.size≤10000000000)(hs:s.size≤10000000000):
    Cr 63 #[.string key,.string s] w (.string (strOfNums (hmacF (byt key) (byt s)))):=by
  go_enter func63,ntmps63;go_wp2_with fail;refine(hmacI_any key s w hT hk hs).mono ?_;rintro e W1 ⟨rfl,hb1⟩;go_wp2;go_ret;exact⟨rfl,hb1⟩
section
attribute [local go_sem ↓] Go.wp_at_zero Go.wp_at_succ
theorem expI_no (key info:ByteArray)(n:Int)(w:World)(hn:n<0∨8160<n):
    Cr 126 #[.string key,.string info,.int .i64 n] w (.tuple #[.string ⟨#[]⟩,.bool false]):=by
  rcases hn with hn|hn
  · go_enter func126,ntmps126;go_wp2;go_ret2;exact⟨rfl,Below.refl _ _⟩
  · have h0: ¬ n<0:=by omega
    go_enter func126,ntmps126;go_wp2;go_ret2;exact⟨rfl,Below.refl _ _⟩
theorem tTo_next (key info:ByteArray)(k:Nat)(hk:k<255):
    shaF (xorL (kkL (byt key)) 92++shaF (xorL (kkL (byt key)) 54++catB [strOfNums (tTo (byt key) (byt info) k),info,strOfNums (beTo ((k:Int)+1) 1)]))=tTo (byt key) (byt info) (k+1):=by
  have hb:beTo ((k:Int)+1) 1= [(k:Int)+1]:=by
    simp only [beTo,Int.pow_zero,Int.ediv_one];rw [show ((k:Int)+1)%256=(k:Int)+1 by omega]
  rw [tTo,hmacF,hb];simp only [catB,List.append_nil];rw [byt_str _ (tTo_lt _ _ _),byt_one k hk,List.append_assoc]
theorem range_below {w w':World}{b o B:Nat}{L:List Value}(h:w.rangeAt b o L)(hb:Below B w w')(hlt:b<B):w'.rangeAt b o L:=fun j v hv=>(hb.cell (p:=⟨b,o+j,none⟩) hlt).trans (h j v hv)
theorem Row0.below {w w':World}{base n:Nat}{v:Value}{xs:List Value}(h:Row0 w base v n xs)(hb:Bl w w'):Row0 w' base v n xs:=by
  rcases h with h|⟨g,cap,rfl,hr⟩
  · exact .inl h
  · exact .inr ⟨g,cap,rfl,hr.below hb hr.hi⟩
theorem expI_yes (key info:ByteArray)(n:Nat)(w:World)(hT:TabK w)(hk:key.size≤1048576)(hi:info.size≤1048576)(hn:n≤8160):
    Cr 126 #[.string key,.string info,.int .i64 n] w (.tuple #[.string (strOfNums (expF (byt key) (byt info) n)),.bool true]):=by
  obtain⟨i0,hi0,hz0,hz1,hz2⟩:=info_parts infoU8';have hgw:6<w.heap.size:=World.block_lt_of_cell? w _ (hT 0 (by omega));have h0: ¬ ((n:Int)<0):=by omega
  have h1: ¬ ((8160:Int)<(n:Int)):=by omega
  have hz46:=zero46;go_enter func126,ntmps126;go_wp2_with fail;refine(newK_any key w hT (by omega)).mono ?_;rintro e W1 ⟨L1,L2,rfl,hL1,hL2,hb1⟩;have hs1:=hb1.size;have hn1:=hL1.len;have hn2:=hL2.len;have hlen:(L1++L2).length=148:=by rw [List.length_append];omega
  have hlt:(L1++L2).toArray.size=148:=by rw [←hlen];simp
  have hth:(W1.alloc (.cells (zeroRh++zeroRh).toArray 246)).there W1.heap.size 0 148:=there_new W1 _ _ 148 (by simp [zeroRh_len])
  have hone:∀v∈L1++L2,v.oneCell'=true:=fun v hv=>by
    rw [List.mem_append] at hv;rcases hv with h|h
    · exact hL1.one v h
    · exact hL2.one v h
  have HL:Hid (IsRH L1 (xorL (kkL (byt key)) 54)∧IsRH L2 (xorL (kkL (byt key)) 92)):=⟨hL1,hL2⟩;clear hL1 hL2
  go_wp2_with (refine wpList_store_mid rfl 246 _ _ rfl W1.heap.size 0 (L1++L2).toArray rfl rfl (by rw [hlt];exact hth) (by rw [size46,hlt]) (all_oneCell_toArray hone) ?_
               generalize hW2:World.setCells _ _ _ _=W2;have hrg:W2.rangeAt W1.heap.size 0 (L1++L2):=by rw [←hW2];exact World.rangeAt_setCells_same _ _ _ _ (by rw [hlen];exact hth)
               have hs2:W2.heap.size=W1.heap.size+1:=by rw [←hW2,setCells_size];simp
               have hb2:Bl W1 W2:=by rw [←hW2];exact below_setCells ((Below.refl _ _).alloc (Nat.le_refl _) _) (Nat.le_refl _) _ _
               clear hW2)
  have hbw:Bl w W2:=hb1.trans (hb2.mono hs1);clear hth hb1 hb2 hz46;generalize hB:W1.heap.size=B at*;clear hB
  go_loopw [9,10,11] (fun ov tv i wr=>∃k:Nat,32*k≤n+31∧i= .int .i64 ((k:Int)+1)∧tv= .string (strOfNums (tTo (byt key) (byt info) k))∧Row0 wr (B+1) ov (32*k) ((outTo (byt key) (byt info) k).map (Value.int .u8))∧Below (B+1) W2 wr) (fun _ _ i _=>300-(intOf i).toNat)
  case atStart=>exact ⟨0,by omega,rfl,rfl,.inl ⟨rfl,rfl,rfl⟩,Below.refl _ _⟩
  case round=>
    obtain⟨k,hkn,rfl,rfl,hrow,hbr⟩:=hrel;by_cases hltk:32*k<n
    · have hk255:k<255:=by omega
      have hrgr:wr.rangeAt B 0 (L1++L2):=range_below hrg hbr (by omega);have hsr:=hbr.size
      obtain⟨ao,cap,rfl⟩:∃ao cap,u9= .slice ao (32*k) cap:=by
        rcases hrow with ⟨rfl,h,_⟩|⟨g,cap,rfl,_⟩
        · exact⟨none,0,by rw [h]⟩
        · exact⟨_,_,rfl⟩
      have hu:=underlying246;have hinf:(prog.info? 246).map (·.size)=some (L1++L2).length:=by rw [size46,hlen]
      have hgr:6<wr.heap.size:=by have:=hbw.size;omega
      have hTr:TabK wr:=fun i hi=>((hbr.cell (p:=⟨6,i,none⟩) (Nat.lt_of_lt_of_le hgw (by have:=hbw.size;omega))).trans (hbw.cell (p:=⟨6,i,none⟩) hgw)).trans (hT i hi)
      have hBr:B<wr.heap.size:=by omega
      have hzt:(strOfNums (tTo (byt key) (byt info) k)).size≤32:=by rw [strOfNums_size];exact tTo_le _ _ _
      have HR:Hid (Row0 wr (B+1) (.slice ao (32*k) cap) (32*k) ((outTo (byt key) (byt info) k).map (Value.int .u8))):=hrow;clear hrow hlt;go_wp2;generalize hLL:L1++L2=LL at*;have HLL:Hid (L1++L2=LL):=hLL;clear hLL;refine wp_region_noPanic ?_;refine wp_region_held_drew (S:=fun w'=>w'.rangeAt B 0 LL) (by kernel_rfl) hrgr (fun hHeld=> ?_)
      refine' wpAnyH_take (i:=0) (v:=_) rfl (by kernel_rfl) (by kernel_rfl) (by kernel_rfl) (fun _ _ _ h=>h) (yieldsIf_load_mid (by rfl) 246 (.tmp 8) rfl B 0 rfl LL _ (fun w h=>h) hu rfl hinf) hHeld ?_
      simp only [Act.put,List.getElem_toArray,List.getElem_cons_zero,List.setIfInBounds_toArray,List.set_cons_zero,List.set_cons_succ];refine wpAnyH_take (i:=1) (v:= .string (strOfNums (tTo (byt key) (byt info) k))) rfl (by kernel_rfl) (by kernel_rfl) (by kernel_rfl) (fun _ _ _ h=>h) (Or.inl ⟨by rfl,fun w _=>by rfl⟩) hHeld ?_;simp only [Act.put,List.getElem_toArray,List.getElem_cons_zero,List.getElem_cons_succ,List.setIfInBounds_toArray,List.set_cons_zero,List.set_cons_succ];refine wpAnyH_take (i:=2) (v:= .string info) rfl (by kernel_rfl) (by kernel_rfl) (by kernel_rfl) (fun _ _ _ h=>h) (Or.inl ⟨by rfl,fun w _=>by rfl⟩) hHeld ?_;simp only [Act.put,List.getElem_toArray,List.getElem_cons_zero,List.getElem_cons_succ,List.setIfInBounds_toArray,List.set_cons_zero,List.set_cons_succ];refine wpAnyH_take (i:=3) (v:= .int .i64 ((k:Int)+1)) rfl (by kernel_rfl) (by kernel_rfl) (by kernel_rfl) (fun _ _ _ h=>h) (Or.inl ⟨by rfl,fun w _=>by rfl⟩) hHeld ?_;simp only [Act.put,List.getElem_toArray,List.getElem_cons_zero,List.getElem_cons_succ,List.setIfInBounds_toArray,List.set_cons_zero,List.set_cons_succ];refine wpAnyH_take (i:=4) (v:=int u64 ((k:Int)+1)) rfl (by kernel_rfl) (by kernel_rfl) (by kernel_rfl) (fun _ _ _ h=>h) (Or.inl ⟨by rfl,?_⟩) hHeld ?_
      · intro w _;have e64:IntKind.u64.wrap ((k:Int)+1)=(k:Int)+1:=by rw [IntKind.wrap_u64];omega
        go_simp
      simp only [Act.put,List.getElem_toArray,List.getElem_cons_zero,List.getElem_cons_succ,List.setIfInBounds_toArray,List.set_cons_zero,List.set_cons_succ];refine wpAnyH_ready (rs:= [5]) (by kernel_rfl) (by simp) ?_;refine AllReadyH.cons rfl (fun K hK=> ?_) AllReadyH.nil
      go_simp
      refine(beI_any ((k:Int)+1) 1 wr.drew (by omega) (by omega) (by omega) (by omega)).mono ?_;rintro e W5 ⟨rfl,hb5⟩;have hb5':Bl wr W5:=(Below.refl wr.heap.size wr).drew.trans hb5;have hs5:wr.heap.size≤W5.heap.size:=hb5'.size;have hr5:W5.rangeAt B 0 LL:=range_below hrgr hb5' hBr;refine hK.out _ _ hr5 (fun hHeld5=> ?_);clear hK K hHeld hb5;refine wpAnyH_ready (rs:= [6]) (by kernel_rfl) (by simp) ?_;refine AllReadyH.cons rfl (fun K hK=> ?_) AllReadyH.nil
      go_simp
      generalize hW6:W5.alloc _=W6
      have hc6:∀i,i<3→W6.cell? ⟨W5.heap.size,i,none⟩=some (.string ([strOfNums (tTo (byt key) (byt info) k),info,strOfNums (beTo ((k:Int)+1) 1)].getD i ByteArray.empty)):=fun i hi=>by
        rw [←hW6,cell_of_row _ _ _ _ _ _ (heap_alloc_new W5 _)]
        match i,hi with
        |0,_=>rfl
        |1,_=>rfl
        |2,_=>rfl
      have hb6:Bl wr W6:=by rw [←hW6];exact hb5'.alloc hs5 _
      clear hW6;have hr6:W6.rangeAt B 0 LL:=range_below hrgr hb6 hBr;have hT6:TabK W6:=fun i hi=>(hb6.cell (p:=⟨6,i,none⟩) hgr).trans (hTr i hi)
      refine hK.out _ _ hr6 (fun hHeld6=> ?_);clear hK K hHeld5;refine wpAnyH_ready (rs:= [7]) (by kernel_rfl) (by simp) ?_;refine AllReadyH.cons rfl (fun K hK=> ?_) AllReadyH.nil
      go_simp
      rw [←HLL.out];refine(ofK_any L1 L2 _ _ W5.heap.size 3 3 [strOfNums (tTo (byt key) (byt info) k),info,strOfNums (beTo ((k:Int)+1) 1)] W6 HL.out.1 HL.out.2 hT6 (by rw [xorL_length,kkL_length];simp only [sizeB,strOfNums_size,beTo_length];rw [strOfNums_size] at hzt;omega) (by rw [xorL_length,kkL_length];omega) (xorL_lt _ _) (xorL_lt _ _) rfl (by omega) (by omega) hc6).mono ?_;rintro e W7 ⟨rfl,hb7⟩;rw [tTo_next key info k hk255];have hb7':Bl wr W7:=hb6.tr hb7;have hr7:W7.rangeAt B 0 LL:=range_below hrgr hb7' hBr;refine hK.out _ _ hr7 (fun hHeld7=> ?_);clear hK K hHeld6 hb7;refine wpAnyH_ready (rs:= [8]) (by kernel_rfl) (by simp) ?_;refine AllReadyH.cons rfl (fun K hK=> ?_) AllReadyH.nil
      go_simp
      refine hK.out _ _ hr7 (fun hHeld8=> ?_);clear hK K hHeld7;refine wpAnyH_done (by kernel_rfl) ?_ _;refine NoPanic.normal ?_;have hsz32:(strOfNums (tTo (byt key) (byt info) (k+1))).size=32:=by rw [strOfNums_size,tTo,hmacF_length]
      have hrow7:=HR.out.below hb7';have hs7:=hb7'.size
      have hbt:Hid ((outTo (byt key) (byt info) k).map (Value.int .u8)++(byt (strOfNums (tTo (byt key) (byt info) (k+1)))).map (Value.int .u8)=(outTo (byt key) (byt info) (k+1)).map (Value.int .u8)):=by
        simp only [Hid];rw [byt_str _ (tTo_lt _ _ _),←List.map_append,outTo]
      clear hHeld8 hr5 hr6 hr7 hT6 hc6 hb6 hb5' hTr hu hinf
      go_wp2_with (first
        | (refine wpList_append_str rfl _ _ 35 9 rfl (B+1) 5 i0 (.int .u8 0) underlying35 underlying9 hi0 hz0 hz1 hz2 rfl (.slice ao (32*k) cap) (32*k) ((outTo (byt key) (byt info) k).map (Value.int .u8)) rfl hrow7 (strOfNums (tTo (byt key) (byt info) (k+1))) rfl (by rw [hsz32];omega) (by rw [hsz32];omega) (by omega) ?_
           intro g3 cap3 w3 hrow3 hb8
           rw [hbt.out,hsz32] at hrow3))
      go_roundw
      case rel=>
        have R1:Row0 w3 (B+1) (.slice (some ⟨g3,0,none⟩) (32*k+32) cap3) (32*(k+1)) ((outTo (byt key) (byt info) (k+1)).map (Value.int .u8)):=by
          rw [Nat.mul_add];exact .inr ⟨g3,cap3,rfl,hrow3⟩
        have R2:Below (B+1) W2 w3:=(hbr.trans (hb7'.mono (by omega))).trans hb8
        first
          |exact ⟨k+1,by omega,by go_num,rfl,R1,R2⟩
          |((repeat apply Exists.intro);exact⟨⟨k+1,by omega,by go_num,rfl,R1,R2⟩,rfl⟩)
      case measure=>simp [intOf];omega
    · have hkk:k=(n+31)/32:=by omega
      have hbf:Bl w wr:=hbw.trans (hbr.mono (by have:=hbw.size;omega));have hexp:Hid (expF (byt key) (byt info) n=(outTo (byt key) (byt info) k).take n):=by simp only [Hid];rw [expF,←hkk]
      have hol:=outTo_length (byt key) (byt info) k;clear hkk;rcases hrow with ⟨rfl,hz,_⟩|⟨g,cap,rfl,hrow⟩
      · have hn0:n=0:=by omega
        subst hn0;have hk0:k=0:=by omega
        subst hk0;have hcv:=run_convert_bytes_nil (P:=prog) wr 35 5 underlying35 underlying5 0 0;go_wp2;go_ret2;refine⟨?_,hbf⟩;show Ending.returned (.tuple #[.string ByteArray.empty,.bool true])=_;rw [hexp.out];rfl
      · have hcv:=run_convert_bytes_arg (P:=prog) wr 35 5 underlying35 underlying5 g 0 n cap ((outTo (byt key) (byt info) k).take n) (by rw [List.length_take,hol];omega) (fun i h=>by rw [Nat.zero_add,hrow.cell i (by omega)];congr 2;rw [←lk_take _ n i h];rfl) 9 underlying9;have hcap:=hrow.le;go_wp2;go_ret2;refine⟨?_,hbf⟩;show Ending.returned (.tuple #[.string (strOfNums ((outTo (byt key) (byt info) k).take n)),.bool true])=_;rw [hexp.out]
end
end Go.Proofs.YtjhbckngdclleaaGreatDoor
