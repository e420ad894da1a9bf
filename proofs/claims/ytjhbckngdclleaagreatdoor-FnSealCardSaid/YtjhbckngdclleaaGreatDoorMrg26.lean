import Derived.Test.YtjhbckngdclleaaGreatDoorMrg19
set_option linter.unusedVariables false
set_option maxRecDepth 100000
set_option maxHeartbeats 16000000
namespace Go.Proofs.YtjhbckngdclleaaGreatDoor
open Go.Proofs.Tryz Go.RowKit
open Go.Value (int)
open Go.IntKind (u64)
theorem beTo2 (n:Nat)(h:n≤65535):strOfNums (beTo (n:Int) 2)=numB n:=by
  unfold numB
  have e:beTo (n:Int) 2= [((n/256%256:Nat):Int),((n%256:Nat):Int)]:=by
    simp only [beTo];simp
  rw [e]
theorem wrtZ (s:ByteArray)(w:World)(h:s.size≤65535):
    Cr 272 #[.string s] w (.string (sizB s)):=by
  have L:=fun w=>beI_any (s.size:Int) 2 w (by omega) (by omega) (by omega) (by omega)
  rw [beTo2 _ h] at L;have e1:IntKind.u64.wrap (s.size:Int)=(s.size:Int):=by rw [IntKind.wrap_u64];omega
  have hs:sizB s=numB s.size++s:=rfl;have hz:=numB_size s.size;rw [hs];generalize numB s.size=T at*;clear hs;go_enter func272,ntmps272;go_wp2_with fail;refine(L _).mono ?_;rintro e w1 ⟨rfl,b1⟩;go_wp2;go_ret;exact⟨rfl,b1⟩
theorem wrtP (s:ByteArray)(w:World):
    Cr 276 #[.string s] w (.string s):=by
  go_enter func276,ntmps276;go_wp2;go_ret;exact⟨rfl,Below.refl _ _⟩
def Writ (v:Value)(s:ByteArray):Prop:=∃(T:TypeId) (x:Value) (F:FuncId),v= .iface T x∧(∀w,(method 469 T x "loop.example/s02095/impl.written").run prog w= .ok (F,x) w)∧
  (∀(args:Array Value) (w:World),(callFunc F args).run prog w= .ok (.enter F args) w)∧Cc F #[x] (.string s)
theorem mthZ (s:ByteArray)(w:World):(method 469 156 (.string s) "loop.example/s02095/impl.written").run prog w= .ok (272,.string s) w:=by kernel_rfl
theorem mthP (s:ByteArray)(w:World):(method 469 155 (.string s) "loop.example/s02095/impl.written").run prog w= .ok (276,.string s) w:=by kernel_rfl
theorem ceZ (args:Array Value)(w:World):(callFunc 272 args).run prog w= .ok (.enter 272 args) w:=by kernel_rfl
theorem ceP (args:Array Value)(w:World):(callFunc 276 args).run prog w= .ok (.enter 276 args) w:=by kernel_rfl
theorem writZ (s:ByteArray)(h:s.size≤65535):Writ (.iface 156 (.string s)) (sizB s):=⟨_,_,_,rfl,mthZ s,ceZ,fun w=>wrtZ s w h⟩
theorem writP (s:ByteArray):Writ (.iface 155 (.string s)) s:=⟨_,_,_,rfl,mthP s,ceP,fun w=>wrtP s w⟩
section
open Go
def Row0 (w:World)(base:Nat)(v:Value)(n:Nat)(xs:List Value):Prop:=
  (v= .slice none 0 0∧n=0∧xs= [])∨∃g cap,v= .slice (some ⟨g,0,none⟩) n cap∧Row w base g n cap xs
theorem byteCells_byt (s:ByteArray):byteCells s=(byt s).map (Value.int .u8):=by
  rw [byteCells,byt,List.map_map];rfl
theorem row_grown {w:World}{e:TypeId}{z:Value}{base n m old:Nat}{xs news:List Value}(hzs:z.cells.size=1)(hx:xs.length=n)(hl:news.length=m)(h63:n+m≤maxLen)(hbase:base≤w.heap.size):
    Row (w.drew.alloc (.cells ((xs++news).toArray++Builtin.zeroCells z.cells (grownCap w (n+m) old e-(n+m))) e)) base w.heap.size (n+m) (grownCap w (n+m) old e) (xs++news):=by
  have hge:=grownCap_ge w (n+m) old e;have hcm:grownCap w (n+m) old e≤maxLen:=grownCap_le_maxLen w (n+m) old e h63
  have hsz:((xs++news).toArray++Builtin.zeroCells z.cells (grownCap w (n+m) old e-(n+m))).size=grownCap w (n+m) old e:=by
    simp only [Array.size_append,List.size_toArray,List.length_append,size_zeroCells,hzs];omega
  have hblk:=Row.of_block (w:=w.drew.alloc (.cells ((xs++news).toArray++Builtin.zeroCells z.cells (grownCap w (n+m) old e-(n+m))) e)) (base:=base) (g:=w.heap.size) (n:=n+m) (heap_alloc_new w.drew _) hbase (by rw [hsz];exact hge) (by rw [hsz];exact hcm);rw [hsz] at hblk
  have htk:((xs++news).toArray++Builtin.zeroCells z.cells (grownCap w (n+m) old e-(n+m))).toList.take (n+m)=xs++news:=by
    simp only [Array.toList_append];rw [List.take_append_of_le_length (by simp;omega),List.take_of_length_le (by simp;omega)]
  rwa [htk] at hblk
theorem run_append_str {P:Program}(w:World)(t tx ty:TypeId)(base:Nat)(e:TypeId)(i:TypeInfo)(z:Value)(ht:P.underlying t=some (.slice e))(htx:P.underlying tx=some .string)(hi:P.info? e=some i)(hz:i.zero=some z)
    (hsize:i.size=1)(hby:i.bytes=1)(hzs:z.cells.size=1)(v:Value)(n:Nat)(xs:List Value)(hown:Row0 w base v n xs)(s:ByteArray)(hs0:0<s.size)
    (h63:n+s.size≤140737488355328)(hbase:base≤w.heap.size):
    ∃ g cap w',(Builtin.append_ #[t,tx] ty #[v,.string s]).run P w= .ok (.slice (some ⟨g,0,none⟩) (n+s.size) cap) w'∧
      Row w' base g (n+s.size) cap (xs++(byt s).map (Value.int .u8))∧Below base w w':=by
  have hsrc:Src P i.size tx (.string s) s.size ((byt s).map (Value.int .u8)) w:=by rw [hsize,←byteCells_byt];exact Src.ofString w htx s
  have hl:((byt s).map (Value.int .u8)).length=s.size:=by rw [List.length_map,byt_length]
  have hm:n+s.size≤maxLen:=by unfold maxLen;omega
  rcases hown with ⟨rfl,rfl,rfl⟩|⟨g,cap,rfl,hrow⟩
  · have hr:=run_append_grow_src (P:=P) w t tx ty e i z ht hi hz none 0 0 [] (by rw [hsize];exact run_firstCells_none w.drew 1 0 0 0) (.string s) s.size _ hsrc (by omega) (by omega) (growslice_fits (by omega) (by rw [hby];omega));exact⟨w.heap.size,_,_,hr,row_grown hzs rfl hl hm hbase,(Below.refl _ _).drew.alloc hbase _⟩
  · have hlx:=hrow.len;by_cases hroom:n+s.size≤cap
    · have hr:=run_append_room_src (P:=P) w t tx ty e i ht hi g 0 n cap (.string s) s.size _ hsrc hroom
        (fun j hj=>by rw [hsize];exact(hrow.room _ (by omega)).1) (fun j hj=>by rw [hsize];exact(hrow.room _ (by omega)).2)
      rw [hsize,Nat.zero_add,Nat.mul_one] at hr;refine⟨g,cap,_,hr,⟨hrow.lo,by rw [setCells_size];exact hrow.hi,by rw [List.length_append];omega,hroom,hrow.max,fun j u hu=> ?_,fun j hj=> ?_⟩,below_setCells (Below.refl _ _) hrow.lo _ _⟩
      · by_cases hj:j<xs.length
        · rw [List.getElem?_append_left hj] at hu;rw [World.cell?_setCells_out g _ n w ⟨g,j,none⟩ (fun _ _=> .inl (by show j<n;omega))];exact hrow.cells j u hu
        · rw [List.getElem?_append_right (by omega)] at hu;have hj2:=(List.getElem?_eq_some_iff.1 hu).1;have:=World.cell?_setCells_in g ((byt s).map (Value.int .u8)) n w (fun q hq=>(hrow.room _ (by omega)).1) (j-xs.length) hj2;rw [show n+(j-xs.length)=j by omega] at this;rw [this,←hu,List.getElem?_eq_getElem hj2]
      · exact⟨World.isSome_setCells g _ n w _ (hrow.room j hj).1,by rw [World.frozen?_setCells];exact(hrow.room j hj).2⟩
    · have hr:=run_append_grow_src (P:=P) w t tx ty e i z ht hi hz (some ⟨g,0,none⟩) n cap xs (by
          rw [hsize]
          exact run_firstCells_some w.drew 1 n ⟨g,0,none⟩ n cap xs (by omega) (fun j u hu=>by rw [Addr.add_mid,Nat.zero_add];exact hrow.cells j u hu)) (.string s) s.size _ hsrc (by omega) (by omega) (growslice_fits (by omega) (by rw [hby];omega))
      exact⟨w.heap.size,_,_,hr,row_grown hzs hlx hl hm hbase,(Below.refl _ _).drew.alloc hbase _⟩
theorem wpList_append_str {P:Program}{w:World}{ops:Array Oper}{rest:List Oper}{o:Oper}{a:Act}{Q:Exit→Act→World→Prop}(hgd:o.guard=none)(sl x:Operand)(t tx:TypeId)
    (ho:o.op= .call {callee:= .builtin .append,args:=#[sl,x],argTypes:=#[t,tx]})
    (base:Nat)(e:TypeId)(i:TypeInfo)(z:Value)(ht:P.underlying t=some (.slice e))(htx:P.underlying tx=some .string)(hi:P.info? e=some i)(hz:i.zero=some z)
    (hsize:i.size=1)(hby:i.bytes=1)(hzs:z.cells.size=1)(v:Value)(n:Nat)(xs:List Value)(hs:a.eval sl=v)(hown:Row0 w base v n xs)(s:ByteArray)(hx:a.eval x= .string s)(hs0:0<s.size)
    (h63:n+s.size≤140737488355328)(hbase:base≤w.heap.size)
    (h:∀g cap w',Row w' base g (n+s.size) cap (xs++(byt s).map (Value.int .u8))→Below base w w'→wpList P ops Q rest (a.put o.dst (.slice (some ⟨g,0,none⟩) (n+s.size) cap)) w'):wpList P ops Q (o::rest) a w:=by
  refine wpList_plain hgd fun K hK=> ?_
  obtain⟨g,cap,w',hr,h2,h3⟩:=run_append_str (P:=P) w t tx o.type base e i z ht htx hi hz hsize hby hzs v n xs hown s hs0 h63 hbase;unfold Oper.wp execOp;simp only [ho,resolve,invoke,builtin,Sem.run_bind,Sem.run_pure,Result.andThen_ok,List.map_toArray,List.map_cons,List.map_nil,hs,hx,hr];exact hK _ _ (h g cap w' h2 h3)
end
section
attribute [local go_sem ↓] Go.wp_at_zero Go.wp_at_succ
theorem exmI_no (msg tag:ByteArray)(n:Int)(w:World)(h: ¬ okM msg tag n):
    Cr 195 #[.string msg,.string tag,.int .i64 n] w (.tuple #[.string ⟨#[]⟩,.bool false]):=by
  by_cases h1:tag.size<1
  · have g1:(tag.size:Int)<1:=by omega
    go_enter func195,ntmps195;go_wp2;go_ret2;exact⟨rfl,Below.refl _ _⟩
  · have g1 : ¬ (tag.size:Int)<1:=by omega
    by_cases h2:255<tag.size
    · have g2:(255:Int)<(tag.size:Int):=by omega
      go_enter func195,ntmps195;go_wp2;go_ret2;exact⟨rfl,Below.refl _ _⟩
    · have g2: ¬ (255:Int)<(tag.size:Int):=by omega
      by_cases h3:n<1
      · go_enter func195,ntmps195;go_wp2;go_ret2;exact⟨rfl,Below.refl _ _⟩
      · by_cases h4:8160<n
        · go_enter func195,ntmps195;go_wp2;go_ret2;exact⟨rfl,Below.refl _ _⟩
        · by_cases h5:65535<msg.size
          · have g5:(65535:Int)<(msg.size:Int):=by omega
            go_enter func195,ntmps195;go_wp2;go_ret2;exact⟨rfl,Below.refl _ _⟩
          · exact absurd ⟨by omega,by omega,by omega,by omega,by omega⟩ h
theorem cf_cls (args:Array Value)(w:World):(callFunc 239 args).run prog w= .ok (.enter 239 args) w:=by kernel_rfl
theorem Row0.same {w w':World}{base n:Nat}{v:Value}{xs:List Value}(h:Row0 w base v n xs)(hb:∀b,base≤b→b<w.heap.size→w'.heap[b]? =w.heap[b]?)(hs:w.heap.size≤w'.heap.size):Row0 w' base v n xs:=by
  rcases h with h|⟨g,cap,rfl,hr⟩
  · exact .inl h
  · exact .inr ⟨g,cap,rfl,hr.same (hb g hr.lo hr.hi) hs⟩
theorem Cls.below {W W':World}{B bc bs bl be:Nat}{F Tl:List Int}{T:ByteArray}{k:Nat}(h:Cls W bc bs bl be F Tl T k)(hb:Below B W W')(h1:bc<B)(h2:bs<B)(h3:bl<B)(h4:be<B):Cls W' bc bs bl be F Tl T k:=
  ⟨(hb.block _ h1).trans h.c,(hb.block _ h2).trans h.s,(hb.block _ h3).trans h.l,(hb.block _ h4).trans h.e⟩
theorem exmI_yes (msg tag:ByteArray)(n:Nat)(w:World)(hT0:TabK w)(h:okM msg tag n):
    Cr 195 #[.string msg,.string tag,.int .i64 n] w (.tuple #[.string (strOfNums (expM (byt msg) (byt tag) n)),.bool true]):=by
  obtain⟨i0,hi0,hz0,hz1,hz2⟩:=info_parts infoU8';have hgw:6<w.heap.size:=World.block_lt_of_cell? w _ (hT0 0 (by omega));obtain⟨E,hE0⟩:∃E,Hid (E=expM (byt msg) (byt tag) n):=⟨_,rfl⟩;rw [←hE0.out];obtain⟨h1,h2,h3,h4,h5⟩:=h;have g1: ¬ (tag.size:Int)<1:=by omega
  have g2: ¬ (255:Int)<(tag.size:Int):=by omega
  have g3: ¬ (n:Int)<1:=by omega
  have g4: ¬ (8160:Int)<(n:Int):=by omega
  have g5: ¬ (65535:Int)<(msg.size:Int):=by omega
  have ecl:=cf_cls;go_enter func195,ntmps195;go_wp2_with fail;refine(blocksI msg tag n w hT0 h1 h2 (by omega) h5).mono ?_;rintro e W1 ⟨bc,bs,bl,be,T,rfl,hC,hTb,hTs,hls,hle,hlc,hll,hb1⟩;have hE:Hid (E=(mOut (mFirst (byt msg) (byt tag) n) (mTag (byt tag)) ((n+31)/32)).take n):=by simp only [Hid];rw [hE0.out,expM]
  have hFl:=mFirst_length (byt msg) (byt tag) n;have hFb:=mFirst_lt (byt msg) (byt tag) n;generalize mFirst (byt msg) (byt tag) n=F at*;generalize mTag (byt tag)=Tl at*;clear hE0;have lc:=hC.c.lt;have ls:=hC.s.lt;have ll:=hC.l.lt;have le:=hC.e.lt;go_wp2
  go_loopw [9] (fun ov wr=>∃k:Nat,32*k≤n+31∧Row0 wr W1.heap.size ov (32*k) ((mOut F Tl k).map (Value.int .u8))∧Cls wr bc bs bl be F Tl T k∧W1.heap.size≤wr.heap.size∧Bl w wr) (fun v _=>n+32-lenV v)
  case atStart=>exact ⟨0,by omega,.inl ⟨rfl,rfl,rfl⟩,hC,Nat.le_refl _,hb1⟩
  case round=>
    clear hC hb1;obtain⟨k,hkn,hrow,hC,hsz,hbr⟩:=hrel
    obtain⟨ao,cap,rfl⟩:∃ao cap,u9= .slice ao (32*k) cap:=by
      rcases hrow with ⟨rfl,h,_⟩|⟨g,cap,rfl,_⟩
      · exact⟨none,0,by rw [h]⟩
      · exact⟨_,_,rfl⟩
    by_cases hltk:32*k<n
    · have hk255:k<255:=by omega
      have hTr:TabK wr:=fun i hi=>(hbr.cell (p:=⟨6,i,none⟩) hgw).trans (hT0 i hi)
      have hli:((32*k:Nat):Int)<(n:Int):=by omega
      have HR:Hid (Row0 wr W1.heap.size (.slice ao (32*k) cap) (32*k) ((mOut F Tl k).map (Value.int .u8))):=hrow;clear hrow;go_wp2_with fail;refine(nextI w.heap.size bc bs bl be F Tl T k wr hC hTr hls hle hgw hlc hll hk255 hFl hFb hTb hTs).mono ?_;rintro e W2 ⟨rfl,hC2,hb2,ho2⟩;have hs2:=hb2.size;have hrow2:=HR.out.same (fun b h1 h2=>ho2 b h2 (by omega) (by omega)) hs2;have hbr2:Bl w W2:=hbr.trans hb2;have hsz32:(strOfNums (mBlk F Tl (k+1))).size=32:=by rw [strOfNums_size,mBlk_length]
      have hbt:Hid ((mOut F Tl k).map (Value.int .u8)++(byt (strOfNums (mBlk F Tl (k+1)))).map (Value.int .u8)=(mOut F Tl (k+1)).map (Value.int .u8)):=by
        simp only [Hid];rw [byt_str _ (mBlk_lt _ _ _),←List.map_append,mOut]
      clear hC hbr HR ho2 hb2 hTr
      go_wp2_with (first
        | (refine wpList_append_str rfl _ _ 35 9 rfl W1.heap.size 5 i0 (.int .u8 0) underlying35 underlying9 hi0 hz0 hz1 hz2 rfl (.slice ao (32*k) cap) (32*k) ((mOut F Tl k).map (Value.int .u8)) rfl hrow2 (strOfNums (mBlk F Tl (k+1))) rfl (by rw [hsz32];omega) (by rw [hsz32];omega) (by omega) ?_
           intro g3 cap3 w3 hrow3 hb8
           rw [hbt.out,hsz32] at hrow3))
      have R1:Row0 w3 W1.heap.size (.slice (some ⟨g3,0,none⟩) (32*k+32) cap3) (32*(k+1)) ((mOut F Tl (k+1)).map (Value.int .u8)):=by
        rw [Nat.mul_add];exact .inr ⟨g3,cap3,rfl,hrow3⟩
      have R2:=hC2.below hb8 lc ls ll le;have R3:Bl w w3:=hbr2.trans (hb8.mono (by omega));have R4:W1.heap.size≤w3.heap.size:=by have:=hb8.size;omega
      go_roundw
      case rel=>
        first
          |exact ⟨k+1,by omega,R1,R2,R4,R3⟩
          |((repeat apply Exists.intro);exact⟨⟨k+1,by omega,R1,R2,R4,R3⟩,rfl⟩)
      case measure=>simp [lenV];omega
    · have hkk:k=(n+31)/32:=by omega
      have hexp:Hid (E=(mOut F Tl k).take n):=by simp only [Hid];rw [hE.out,←hkk]
      have hol:=mOut_length F Tl k;clear hkk;rcases hrow with ⟨_,hz,_⟩|⟨g,cap',hsl,hrow⟩
      · omega
      · cases hsl;have hcv:=run_convert_bytes_arg (P:=prog) wr 35 5 underlying35 underlying5 g 0 n cap ((mOut F Tl k).take n) (by rw [List.length_take,hol];omega) (fun i h=>by rw [Nat.zero_add,hrow.cell i (by omega)];congr 2;rw [←lk_take _ n i h];rfl) 9 underlying9;have hcap:=hrow.le;have hli: ¬ ((32*k:Nat):Int)<(n:Int):=by omega
        go_wp2;go_ret2;refine⟨?_,hbr⟩;show Ending.returned (.tuple #[.string (strOfNums ((mOut F Tl k).take n)),.bool true])=_;rw [hexp.out]
end
theorem reduI_any (s:ByteArray)(m:Nat)(w:World)(hs:s.size≤65535)(hm:m<18446744073709551616)(h0:m≠0):
    Cr 197 #[.string s,int u64 m] w (int u64 (numL (byt s)%m:Nat)):=by
  obtain⟨c,hc⟩:∃c,Hid (c=numL (byt s)%m):=⟨_,rfl⟩;rw [←hc.out];have z0:((m:Int)==0)=false:=by simp;omega
  have z1: ¬ ((65535:Int)<(s.size:Int)):=by omega
  go_enter func197,ntmps197;go_wp2
  go_loopw [5,16] (fun rv iv wr=>∃(k r:Nat),k≤s.size∧r<m∧iv= .int .i64 (k:Int)∧rv=int u64 (r:Int)∧Hid (r=numL ((byt s).take k)%m)∧Bl w wr) (fun _ i _=>s.size-(intOf i).toNat)
  case atStart=>exact ⟨0,0,by omega,by omega,rfl,rfl,by simp [Hid,numL],Below.refl _ _⟩
  case round=>
    obtain⟨k,r,hk,hrm,rfl,rfl,hr,hbl⟩:=hrel;by_cases hlt:k<s.size
    · have hlti:(k:Int)<(s.size:Int):=by omega
      have hv:=s[k].toNat_lt;have e0:IntKind.u64.wrap (s[k].toNat:Int)=(s[k].toNat:Int):=by simp only [IntKind.wrap_u64];omega
      have e1:=or_byte r s[k];have e2:(r:Int)/72057594037927936=((r/72057594037927936:Nat):Int):=by omega
      have D:=fun w=>div_any (r/72057594037927936) (r*256%18446744073709551616+s[k].toNat) m w (by omega) hm (by omega)
      have e3:r/72057594037927936*18446744073709551616+(r*256%18446744073709551616+s[k].toNat)=r*256+s[k].toNat:=by omega
      rw [e3] at D
      have hn:Hid ((r*256+s[k].toNat)%m=numL ((byt s).take (k+1))%m):=by
        simp only [Hid];rw [numL_take s k hlt,hr.out,Nat.add_mod,Nat.mod_mul_mod,←Nat.add_mod]
      have hd:=Nat.mod_lt (r*256+s[k].toNat) (show 0<m by omega);generalize (r*256+s[k].toNat)%m=r' at*;generalize r/72057594037927936=hi at*;generalize r*256%18446744073709551616+s[k].toNat=lo at*;clear hv e3 hs hm h0;go_wp2_with fail;refine(D _).mono ?_;rintro e w' ⟨⟨z,rfl⟩,hw⟩
      have hb2:Bl w w':=by
        rcases hw with rfl|rfl
        · exact hbl
        · exact hbl.drew
      clear hw;go_wp2;go_roundw
      case rel=>exact ⟨k+1,r',by omega,hd,by go_num,rfl,hn,hb2⟩
      case measure=>simp [intOf];omega
    · obtain rfl:k=s.size:=by omega
      rw [List.take_of_length_le (by rw [byt_length];omega)] at hr;go_wp2;go_ret;exact⟨congrArg (fun z:Int=>Ending.returned (Value.int .u64 z)) (by rw [hc.out,hr.out]),hbl⟩
end Go.Proofs.YtjhbckngdclleaaGreatDoor
