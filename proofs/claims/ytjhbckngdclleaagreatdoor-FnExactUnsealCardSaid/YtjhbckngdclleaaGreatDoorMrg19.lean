import Derived.Test.YtjhbckngdclleaaGreatDoorMrg15
import Derived.Shelf.Strings.Repeat
import Derived.Laws.EntriesVeiled
set_option linter.unusedVariables false
set_option maxRecDepth 100000
set_option maxHeartbeats 16000000
namespace Go.Proofs.YtjhbckngdclleaaGreatDoor
open Go.Proofs.Tryz Go.RowKit
open Go.Value (int)
open Go.IntKind (u64)
theorem lkb (a:ByteArray)(k:Nat)(h:k<a.size):lk (byt a) k=(a[k].toNat:Int):=by
  unfold lk byt;rw [List.getD_eq_getElem?_getD,List.getElem?_map,List.getElem?_eq_getElem (by simpa using h)];rfl
theorem xorB_set (a b:ByteArray)(k:Nat)(ha:k<a.size)(hb:k<b.size):
    ((xorB (byt a) (byt b)).take k++(byt a).drop k).set k ((a[k].toNat^^^b[k].toNat:Nat):Int)=(xorB (byt a) (byt b)).take (k+1)++(byt a).drop (k+1):=by
  have hl:((xorB (byt a) (byt b)).take k).length=k:=by rw [List.length_take,xorB_length,byt_length,byt_length];omega
  rw [List.drop_eq_getElem_cons (by rw [byt_length];exact ha),set_at _ _ _ _ _ hl,xorB_take a b k ha hb,←cons_snoc]
theorem xorT_any (a b:ByteArray)(w:World)(ha:a.size≤1000)(hab:a.size≤b.size):
    Cr 240 #[.string a,.string b] w (.string (strOfNums (xorB (byt a) (byt b)))):=by
  obtain⟨cap0,w1,hcv,hrow0,hbl0⟩:∃cap0 w1,(convert 9 35 (.string a)).run prog w= .ok (.slice (some ⟨w.heap.size,0,none⟩) a.size cap0) w1∧
      Row w1 w.heap.size w.heap.size a.size cap0 ((byt a).map (Value.int .u8))∧Bl w w1:=
    ⟨_,_,Lib.run_convert_string_bytes w 9 35 5 a underlying9 underlying35 underlying5,row_bytes w _ a w.heap.size (Nat.le_refl _) (by unfold maxLen;omega)⟩
  have hxl:(xorB (byt a) (byt b)).length=a.size:=by rw [xorB_length,byt_length,byt_length];omega
  have hset:=xorB_set a b;obtain⟨X,hX⟩:∃X,X=xorB (byt a) (byt b):=⟨_,rfl⟩;rw [←hX] at hxl hset⊢;go_enter func240,ntmps240;go_wp2
  go_loopw [6,11] (fun _ i wr=>∃k:Nat,k≤a.size∧i= .int .i64 (k:Int)∧Row wr w.heap.size w.heap.size a.size cap0 ((X.take k++(byt a).drop k).map (Value.int .u8))∧Bl w wr) (fun _ i _=>a.size-(intOf i).toNat)
  case atStart=>exact ⟨0,by omega,rfl,by simpa using hrow0,hbl0⟩
  case round=>
    clear hrow0 hbl0 hcv hX;obtain⟨k,hk,rfl,hrow,hbl⟩:=hrel;have hbk:=hrow.le;by_cases hlt:k<a.size
    · have hlt2:k<b.size:=by omega
      have hc:=hrow.cell k hlt
      have hlk:lk (X.take k++(byt a).drop k) k=(a[k].toNat:Int):=by
        rw [List.drop_eq_getElem_cons (by rw [byt_length];exact hlt),lk_mid _ _ _ _ (by rw [List.length_take];omega)];have:=lkb a k hlt;unfold lk at this;rw [List.getD_eq_getElem?_getD,List.getElem?_eq_getElem (by rw [byt_length];exact hlt)] at this;exact this
      rw [hlk] at hc;have hfz:=(hrow.room k (by omega)).2;have hst:=hset k hlt hlt2;have ex:=u8_xor_nat a[k].toNat b[k].toNat a[k].toNat_lt b[k].toNat_lt;have q0:(0:Int)≤(k:Int):=by omega
      have q1:(k:Int)<(a.size:Int):=by omega
      have q2:(k:Int)<(b.size:Int):=by omega
      generalize a[k].toNat=za at*;generalize hzz:za^^^b[k].toNat=z at*;clear hlk hset hzz;go_wp2
      go_region
      have R1:=(hrow.set k hlt (.int .u8 (z:Int))).drew;rw [←List.map_set,hst] at R1;have R2:=(hbl.setCell (p:=⟨w.heap.size,k,none⟩) (Nat.le_refl _) (.int .u8 (z:Int))).drew;clear hst ex hc hrow hbl;go_wp2;go_roundw
      case rel=>
        first
          |exact ⟨k+1,by omega,by go_num,R1,R2⟩
          |((repeat apply Exists.intro);exact⟨⟨k+1,by omega,by go_num,R1,R2⟩,rfl⟩)
      case measure=>simp [intOf];omega
    · obtain rfl:k=a.size:=by omega
      rw [List.take_of_length_le (by omega),List.drop_of_length_le (by rw [byt_length];omega),List.append_nil] at hrow;have hcv:=run_convert_bytes_arg (P:=prog) wr 35 5 underlying35 underlying5 w.heap.size 0 a.size cap0 X hxl (fun i h=>by rw [Nat.zero_add];exact hrow.cell i h) 9 underlying9;go_wp2;go_ret;exact⟨rfl,hbl⟩
section
open Go.Shelf
def renRepeat:Go.Shelf.Ren:=⟨fun|105=>238|212=>246|99=>247|165=>248|166=>155|170=>249|169=>156|263=>252|264=>164|206=>253|240=>187|241=>254|276=>225|277=>255|n=>n,fun|9=>9|3=>3|4=>4|20=>20|0=>0|46=>108|109=>326|5=>5|72=>239|76=>240|51=>177|146=>332|53=>22|148=>254|70=>237|37=>35|75=>76|127=>279|164=>299|80=>185|n=>n,fun|n=>n⟩
theorem laysRepeat:Go.Proofs.Lays.n105 prog renRepeat:={
  mixed:=by kernel_rfl
  f99:=func247.trans (congrArg some (by kernel_rfl))
  f105:=func238.trans (congrArg some (by kernel_rfl))
  f165:=func248.trans (congrArg some (by kernel_rfl))
  f166:=func155.trans (congrArg some (by kernel_rfl))
  f169:=func156.trans (congrArg some (by kernel_rfl))
  f170:=func249.trans (congrArg some (by kernel_rfl))
  f206:=func253.trans (congrArg some (by kernel_rfl))
  f212:=func246.trans (congrArg some (by kernel_rfl))
  f240:=func187.trans (congrArg some (by kernel_rfl))
  f241:=func254.trans (congrArg some (by kernel_rfl))
  f263:=func252.trans (congrArg some (by kernel_rfl))
  f264:=func164.trans (congrArg some (by kernel_rfl))
  f276:=func225.trans (congrArg some (by kernel_rfl))
  f277:=func255.trans (congrArg some (by kernel_rfl))
  t0:=underlying0
  a0:=Tryz.isAgg0
  z0:=Tryz.sizeOf0
  v0:=Tryz.zeroValue0
  t3:=underlying3
  a3:=Tryz.isAgg3
  z3:=Tryz.sizeOf3
  v3:=Tryz.zeroValue3
  t4:=underlying4
  a4:=Tryz.isAgg4
  z4:=Tryz.sizeOf4
  v4:=Tryz.zeroValue4
  t5:=underlying5
  a5:=Tryz.isAgg5
  z5:=Tryz.sizeOf5
  v5:=Tryz.zeroValue5
  t9:=underlying9
  a9:=Tryz.isAgg9
  z9:=Tryz.sizeOf9
  v9:=Tryz.zeroValue9
  t20:=underlying20
  a20:=Tryz.isAgg20
  z20:=Tryz.sizeOf20
  v20:=Tryz.zeroValue20
  t37:=underlying35
  a37:=Tryz.isAgg35
  z37:=Tryz.sizeOf35
  v37:=Tryz.zeroValue35
  t46:=underlying108
  a46:=Tryz.isAgg108
  z46:=Tryz.sizeOf108
  v46:=Tryz.zeroValue108
  t51:=underlying177
  a51:=Tryz.isAgg177
  z51:=Tryz.sizeOf177
  v51:=Tryz.zeroValue177
  t53:=underlying22
  a53:=Tryz.isAgg22
  z53:=Tryz.sizeOf22
  v53:=Tryz.zeroValue22
  t70:=underlying237
  a70:=Tryz.isAgg237
  z70:=Tryz.sizeOf237
  v70:=Tryz.zeroValue237
  t72:=underlying239
  a72:=Tryz.isAgg239
  z72:=Tryz.sizeOf239
  v72:=Tryz.zeroValue239
  t75:=underlying76
  a75:=Tryz.isAgg76
  z75:=Tryz.sizeOf76
  v75:=Tryz.zeroValue76
  t76:=underlying240
  a76:=Tryz.isAgg240
  z76:=Tryz.sizeOf240
  v76:=Tryz.zeroValue240
  t109:=underlying326
  a109:=Tryz.isAgg326
  z109:=Tryz.sizeOf326
  v109:=Tryz.zeroValue326
  t127:=underlying279
  a127:=Tryz.isAgg279
  z127:=Tryz.sizeOf279
  v127:=Tryz.zeroValue279
  t146:=underlying332
  a146:=Tryz.isAgg332
  z146:=Tryz.sizeOf332
  v146:=Tryz.zeroValue332
  t148:=underlying254
  a148:=Tryz.isAgg254
  z148:=Tryz.sizeOf254
  v148:=Tryz.zeroValue254
  t164:=underlying299
  a164:=Tryz.isAgg299
  z164:=Tryz.sizeOf299
  v164:=Tryz.zeroValue299}
theorem extraRepeat:Builder.Extra prog renRepeat:={
  sizeBuilder:=by kernel_rfl
  liesBuilder:=by kernel_rfl
  t5:=laysRepeat.t5
  a5:=laysRepeat.a5
  z5:=laysRepeat.z5
  v5:=laysRepeat.v5
  infoByte:=by kernel_rfl
  cellsByte:=by kernel_rfl
  sizeByte:=by kernel_rfl
  neB5:=by decide}
theorem eq64:(⟨(Lib.repeatL (⟨#[0]⟩:ByteArray).data.toList 64).toArray⟩:ByteArray)=strOfNums (List.replicate 64 0):=by kernel_rfl
theorem rep64 (w:World):Cr 238 #[.string ⟨#[0]⟩,.int .i64 64] w (.string (strOfNums (List.replicate 64 0))):=
  (Any.strings_Repeat laysRepeat extraRepeat ⟨#[0]⟩ 64 w (by decide) (by decide)).mono fun e w' ⟨h,h'⟩=>⟨h.trans (by rw [eq64]),h'⟩
theorem eq32:(⟨(Lib.repeatL (⟨#[0]⟩:ByteArray).data.toList 32).toArray⟩:ByteArray)=strOfNums (List.replicate 32 0):=by kernel_rfl
theorem rep32 (w:World):Cr 238 #[.string ⟨#[0]⟩,.int .i64 32] w (.string (strOfNums (List.replicate 32 0))):=
  (Any.strings_Repeat laysRepeat extraRepeat ⟨#[0]⟩ 32 w (by decide) (by decide)).mono fun e w' ⟨h,h'⟩=>⟨h.trans (by rw [eq32]),h'⟩
end
theorem cf_xor (args:Array Value)(w:World):(callFunc 240 args).run prog w= .ok (.enter 240 args) w:=by kernel_rfl
theorem cf_be (args:Array Value)(w:World):(callFunc 111 args).run prog w= .ok (.enter 111 args) w:=by kernel_rfl
theorem cf_hash (args:Array Value)(w:World):(callFunc 65 args).run prog w= .ok (.enter 65 args) w:=by kernel_rfl
theorem cf_rep (args:Array Value)(w:World):(callFunc 238 args).run prog w= .ok (.enter 238 args) w:=by kernel_rfl
theorem keepA {w1 w2:World}{p:Addr}{v:Value}(h:w1.cell? p=some v)(b:Bl w1 w2):w2.cell? p=some v:=
  (b.cell (p:=p) (World.block_lt_of_cell? w1 _ h)).trans h
theorem keepT {w1 w2:World}(h:TabK w1)(hg:6<w1.heap.size)(b:Bl w1 w2):TabK w2:=fun i hi=>(b.cell (p:=⟨6,i,none⟩) hg).trans (h i hi)
theorem str3 {w:World}{b:Nat}{t:TypeId}{x y z:ByteArray}(h:w.heap[b]? =some (.cells #[.string x,.string y,.string z] t))(i:Nat)(hi:i<3):w.cell? ⟨b,i,none⟩=some (.string ([x,y,z].getD i ByteArray.empty)):=by
  match i,hi with
  |0,_=>exact block_cell h rfl
  |1,_=>exact block_cell h rfl
  |2,_=>exact block_cell h rfl
theorem str5 {w:World}{b:Nat}{t:TypeId}{x y z u v:ByteArray}(h:w.heap[b]? =some (.cells #[.string x,.string y,.string z,.string u,.string v] t))(i:Nat)(hi:i<5):w.cell? ⟨b,i,none⟩=some (.string ([x,y,z,u,v].getD i ByteArray.empty)):=by
  match i,hi with
  |0,_=>exact block_cell h rfl
  |1,_=>exact block_cell h rfl
  |2,_=>exact block_cell h rfl
  |3,_=>exact block_cell h rfl
  |4,_=>exact block_cell h rfl
def R1c (W:World)(t:TypeId)(b:Nat)(v:Value):Prop:=W.heap[b]? =some (.cells #[v] t)
section
variable {W W':World}{t:TypeId}{b:Nat}{v:Value}
theorem R1c.cell (h:R1c W t b v):W.cell? ⟨b,0,none⟩=some v:=block_cell h rfl
theorem R1c.frz (h:R1c W t b v):W.frozen? ⟨b,0,none⟩=false:=by unfold R1c at h;simp [World.frozen?,h]
theorem R1c.lt (h:R1c W t b v):b<W.heap.size:=(Array.getElem?_eq_some_iff.1 h).1
theorem R1c.keep (h:R1c W t b v)(hb:Bl W W'):R1c W' t b v:=(hb.block b h.lt).trans h
theorem R1c.new (w:World)(t:TypeId)(v:Value):R1c (w.alloc (.cells #[v] t)) t w.heap.size v:=heap_alloc_new w _
theorem R1c.alloc (h:R1c W t b v)(o:Obj):R1c (W.alloc o) t b v:=(Below.heap_alloc W o b h.lt).trans h
theorem R1c.drew (h:R1c W t b v):R1c W.drew t b v:=h
theorem R1c.at {b':Nat}(h:R1c W t b v)(e:b=b'):R1c W t b' v:=e▸h
theorem R1c.set (h:R1c W t b v)(u:Value):R1c (W.setCell ⟨b,0,none⟩ u) t b u:=by
  unfold R1c at*;simp [World.setCell,Array.getElem?_modify,h]
theorem R1c.other {b':Nat}(h:R1c W t b v)(hne:b≠b')(i:Nat)(u:Value):R1c (W.setCell ⟨b',i,none⟩ u) t b v:=by
  unfold R1c at*;rw [←h];simp [World.setCell,Array.getElem?_modify,Ne.symm hne]
theorem R1c.ne {b':Nat}{t':TypeId}{v':Value}(h:R1c W t b v)(h':R1c W t' b' v')(hne:t≠t'):b≠b':=by
  rintro rfl;unfold R1c at h h';rw [h] at h';simp at h';exact hne h'.2
end
structure Cls (W:World)(bc bs bl be:Nat)(F Tl:List Int)(T:ByteArray)(k:Nat):Prop where
  c:R1c W 22 bc (int u64 (k:Int))
  s:R1c W 9 bs (.string (strOfNums F))
  l:R1c W 9 bl (.string (strOfNums (mBlk F Tl k)))
  e:R1c W 9 be (.string T)
theorem nextI (B bc bs bl be:Nat)(F Tl:List Int)(T:ByteArray)(k:Nat)(w:World)(hC:Cls w bc bs bl be F Tl T k)(hT0:TabK w)(hls:bl≠bs)(hle:bl≠be)(hgb:6<B)(hB1:B≤bc)(hB2:B≤bl)
    (hk:k<255)(hF:F.length=32)(hFb:∀x∈F,0≤x∧x<256)(hTb:byt T=Tl)(hTs:T.size≤256):
    Calls prog 239 #[.pointer (some ⟨bc,0,none⟩),.pointer (some ⟨bs,0,none⟩),.pointer (some ⟨bl,0,none⟩),.pointer (some ⟨be,0,none⟩)] w fun e w'=>
      e= .returned (.string (strOfNums (mBlk F Tl (k+1))))∧Cls w' bc bs bl be F Tl T (k+1)∧Below B w w'∧(∀b,b<w.heap.size→b≠bc→b≠bl→w'.heap[b]? =w.heap[b]?):=by
  have hbl:=mBlk_length F Tl k;have hxl:(xorB F (mBlk F Tl k)).length=32:=by rw [xorB_length];omega
  obtain⟨X,hX⟩:∃X,X=strOfNums (xorB F (mBlk F Tl k)):=⟨_,rfl⟩
  have XT:∀w,Cr 240 #[.string (strOfNums F),.string (strOfNums (mBlk F Tl k))] w (.string X):=fun w=>by
    have:=xorT_any (strOfNums F) (strOfNums (mBlk F Tl k)) w (by rw [strOfNums_size];omega) (by rw [strOfNums_size,strOfNums_size];omega);rwa [byt_str _ hFb,byt_str _ (mBlk_lt F Tl k),←hX] at this
  have BE:∀w,Cr 111 #[int u64 ((k:Int)+1),.int .i64 1] w (.string (strOfNums (beTo ((k:Int)+1) 1))):=fun w=>beI_any ((k:Int)+1) 1 w (by omega) (by omega) (by omega) (by omega)
  have hcat:shaF (catB [X,strOfNums (beTo ((k:Int)+1) 1),T])=mBlk F Tl (k+1):=by
    have hb:beTo ((k:Int)+1) 1= [(k:Int)+1]:=by
      simp only [beTo,Int.pow_zero,Int.ediv_one];rw [show ((k:Int)+1)%256=(k:Int)+1 by omega]
    simp only [catB,List.append_nil];rw [hX,hb,byt_str _ (xorB_lt _ _ hFb (mBlk_lt F Tl k)),byt_one k hk,hTb,mBlk,List.append_assoc]
  have HO:∀(g:Nat) (w:World),TabK w→(∀i,i<3→w.cell? ⟨g,i,none⟩=some (.string ([X,strOfNums (beTo ((k:Int)+1) 1),T].getD i ByteArray.empty)))→Cr 65 #[.slice (some ⟨g,0,none⟩) 3 3] w (.string (strOfNums (mBlk F Tl (k+1)))):=fun g w hTw hc=>by
    have:=hashOfI_any g 3 3 [X,strOfNums (beTo ((k:Int)+1) 1),T] w hTw (by rw [hX];simp only [sizeB,strOfNums_size,beTo_length];omega) rfl (by omega) (by omega) hc;rwa [hcat] at this
  have hgw:6<w.heap.size:=World.block_lt_of_cell? w _ (hT0 0 (by omega));have ew:IntKind.u64.wrap ((k:Int)+1)=(k:Int)+1:=by rw [IntKind.wrap_u64];omega
  obtain⟨hc,hs,hl,he⟩:=hC;have n1:bl≠bc:=hl.ne hc (by decide);have n2:bs≠bc:=hs.ne hc (by decide);have n3:be≠bc:=he.ne hc (by decide);have c0:=hc.cell;have f0:=hc.frz;have hc1:=hc.set (int u64 ((k:Int)+1));have hs1:=hs.other n2 0 (int u64 ((k:Int)+1));have hl1:=hl.other n1 0 (int u64 ((k:Int)+1));have he1:=he.other n3 0 (int u64 ((k:Int)+1));have hb1:Below B w (w.setCell ⟨bc,0,none⟩ (int u64 ((k:Int)+1))):=(Below.refl _ w).setCell (p:=⟨bc,0,none⟩) hB1 _;have ho1:∀b,b≠bc→(w.setCell ⟨bc,0,none⟩ (int u64 ((k:Int)+1))).heap[b]? =w.heap[b]? :=fun b hb=>by simp [World.setCell,Array.getElem?_modify,Ne.symm hb]
  have hz1:(w.setCell ⟨bc,0,none⟩ (int u64 ((k:Int)+1))).drew.heap.size=w.heap.size:=by simp [World.setCell]
  have hT:TabK (w.setCell ⟨bc,0,none⟩ (int u64 ((k:Int)+1))).drew:=fun i hi=>(hb1.cell (p:=⟨6,i,none⟩) hgb).trans (hT0 i hi)
  have hg:6<(w.setCell ⟨bc,0,none⟩ (int u64 ((k:Int)+1))).drew.heap.size:=Nat.lt_of_lt_of_le hgw hb1.size;have cs:=hs1.drew.cell;have cl:=hl1.drew.cell;have ce:=he1.drew.cell;have cc:=hc1.drew.cell;clear hc hs hl he hT0 hX hcat;go_enter func239,ntmps239;go_wp2
  refine pool_tail [.val (.string (strOfNums F)),
      .val (.string (strOfNums (mBlk F Tl k))),
      .val (.string X),
      .val (int u64 ((k:Int)+1)),
      .val (.string (strOfNums (beTo ((k:Int)+1) 1))),
      .val (.string T),
      .new (.cells #[.string X,.string (strOfNums (beTo ((k:Int)+1) 1)),.string T] 9) (.cells #[.string X,.string (strOfNums (beTo ((k:Int)+1) 1)),.string T] 9) 1003,
      .val (.string (strOfNums (mBlk F Tl (k+1)))),
      .val undef] [[1],[2],[7,8],[0],[10],[3],[9,11,12],[13],[2,14]] (fun f=> [(some 7,.string (strOfNums F)),(some 8,.string (strOfNums (mBlk F Tl k))),(some 9,.string X),(some 10,int u64 ((k:Int)+1)),(some 11,.string (strOfNums (beTo ((k:Int)+1) 1))),(some 12,.string T),(some 13,.slice (some ⟨f 6,0,none⟩) 3 3),(some 14,.string (strOfNums (mBlk F Tl (k+1))))]) (fun f=> [(2,.pointer (some ⟨bl,0,none⟩)),(14,.string (strOfNums (mBlk F Tl (k+1))))]) (by kernel_rfl) (by kernel_rfl) (by kernel_rfl) (by kernel_rfl) (by kernel_rfl) (fun _=>by kernel_rfl) ?_ rfl (fun _=>by kernel_rfl) ?_
  · intro ix hix
    match ix,hix with
    |0,_=>exact obv [(1,.pointer (some ⟨bs,0,none⟩))] rfl rfl (fun A w ⟨e0,_⟩ hB=>doS_loadS e0 (keepA cs hB))
    |1,_=>exact obv [(2,.pointer (some ⟨bl,0,none⟩))] rfl rfl (fun A w ⟨e0,_⟩ hB=>doS_loadS e0 (keepA cl hB))
    |2,_=>exact obv [(7,.string (strOfNums F)),(8,.string (strOfNums (mBlk F Tl k)))] rfl rfl (fun A w ⟨e0,e1,_⟩ hB=>doS_call2 cf_xor e0 e1 (XT w))
    |3,_=>exact obv [(0,.pointer (some ⟨bc,0,none⟩))] rfl rfl (fun A w ⟨e0,_⟩ hB=>doS_loadW e0 (keepA cc hB))
    |4,_=>exact obv [(10,int u64 ((k:Int)+1))] rfl rfl (fun A w ⟨e0,_⟩ hB=>doS_call2 cf_be e0 rfl (BE w))
    |5,_=>exact obv [(3,.pointer (some ⟨be,0,none⟩))] rfl rfl (fun A w ⟨e0,_⟩ hB=>doS_loadS e0 (keepA ce hB))
    |6,_=>exact ob_slc 3 [(9,.string X),(11,.string (strOfNums (beTo ((k:Int)+1) 1))),(12,.string T)] rfl rfl (fun _=>by kernel_rfl) (fun A w ⟨e0,e1,e2,_⟩=>doS_str3 e0 e1 e2)
    |7,_=>exact ob_use 13 6 1003 (.cells #[.string X,.string (strOfNums (beTo ((k:Int)+1) 1)),.string T] 9) (fun f=> [(13,.slice (some ⟨f 6,0,none⟩) 3 3)]) rfl rfl (by decide) (by kernel_rfl) rfl (fun _=>by kernel_rfl) (fun f A w ⟨e0,_⟩ hB hr=>doS_call1 cf_hash e0 (HO (f 6) w (keepT hT hg hB) (fun i h=>str3 hr i h)))
    |ix+8,h=>exact absurd h (by simp)
  rintro f A w3 ⟨e0,e1,_⟩ hB _;have hc3:=hc1.drew.keep hB;have hs3:=hs1.drew.keep hB;have hl3:=hl1.drew.keep hB;have he3:=he1.drew.keep hB;have hb3:Below B w w3:=(hb1.drew).trans (hB.mono (Nat.le_of_lt (Nat.lt_of_le_of_lt hB2 hl1.lt)));refine does_skip (execS_storeS e0 e1 hl3.cell hl3.frz) ?_;simp only [puts,List.foldl,Act.put,List.setIfInBounds_toArray,List.set_cons_zero,List.set_cons_succ];have hl4:=hl3.set (.string (strOfNums (mBlk F Tl (k+1))));have R:Cls (w3.setCell ⟨bl,0,none⟩ (.string (strOfNums (mBlk F Tl (k+1))))) bc bs bl be F Tl T (k+1):=⟨hc3.other (Ne.symm n1) 0 _,hs3.other (Ne.symm hls) 0 _,hl4,he3.other (Ne.symm hle) 0 _⟩;have hb4:=hb3.setCell (p:=⟨bl,0,none⟩) hB2 (.string (strOfNums (mBlk F Tl (k+1))))
  have ho4:∀b,b<w.heap.size→b≠bc→b≠bl→(w3.setCell ⟨bl,0,none⟩ (.string (strOfNums (mBlk F Tl (k+1))))).heap[b]? =w.heap[b]? :=fun b h1 h2 h3=>by
    have e1:(w3.setCell ⟨bl,0,none⟩ (.string (strOfNums (mBlk F Tl (k+1))))).heap[b]? =w3.heap[b]? :=by simp [World.setCell,Array.getElem?_modify,Ne.symm h3]
    rw [e1,hB.block b (by rw [hz1];exact h1)];exact ho1 b h2
  have c4:=hl4.cell;clear hc3 hs3 hl3 he3 hb3 cs cl ce cc c0 f0;go_wp2;go_ret;exact⟨rfl,R,hb4,ho4⟩
theorem blocksI (msg tag:ByteArray)(n:Nat)(w:World)(hT0:TabK w)(h1:1≤tag.size)(h2:tag.size≤255)(h3:n≤8160)(h4:msg.size≤65535):
    Calls prog 227 #[.string msg,.string tag,.int .i64 n] w fun e w'=>∃(bc bs bl be:Nat) (T:ByteArray),e= .returned (.func (.func 239) #[] #[.pointer (some ⟨bc,0,none⟩),.pointer (some ⟨bs,0,none⟩),.pointer (some ⟨bl,0,none⟩),.pointer (some ⟨be,0,none⟩)])∧
      Cls w' bc bs bl be (mFirst (byt msg) (byt tag) n) (mTag (byt tag)) T 0∧byt T=mTag (byt tag)∧T.size≤256∧bl≠bs∧bl≠be∧w.heap.size≤bc∧w.heap.size≤bl∧Bl w w':=by
  have hgw:6<w.heap.size:=World.block_lt_of_cell? w _ (hT0 0 (by omega))
  have hbe1:beTo (tag.size:Int) 1= [(tag.size:Int)]:=by
    simp only [beTo,Int.pow_zero,Int.ediv_one];rw [show (tag.size:Int)%256=(tag.size:Int) by omega]
  have hbe2:beTo (n:Int) 2= [((n/256:Nat):Int),((n%256:Nat):Int)]:=by
    simp only [beTo,Int.pow_zero,Int.ediv_one,Int.pow_one];rw [show (n:Int)/256%256=((n/256:Nat):Int) by omega,show (n:Int)%256=((n%256:Nat):Int) by omega]
  obtain⟨T1,hT1⟩:∃T1,T1=strOfNums (beTo (tag.size:Int) 1):=⟨_,rfl⟩;have hT1s:T1.size=1:=by rw [hT1,strOfNums_size,beTo_length]
  have hTb:byt (tag++T1)=mTag (byt tag):=by
    rw [hT1,byt_append,hbe1,mTag,byt_length,byt_str _ (fun x hx=>by simp at hx;omega)]
  have hTs:(tag++T1).size≤256:=by rw [ByteArray.size_append];omega
  have B1:∀w,Cr 111 #[int u64 (tag.size:Int),.int .i64 1] w (.string T1):=fun w=>hT1▸beI_any (tag.size:Int) 1 w (by omega) (by omega) (by omega) (by omega)
  obtain⟨N2,hN2⟩:∃N2,N2=strOfNums (beTo (n:Int) 2):=⟨_,rfl⟩;have B2:∀w,Cr 111 #[int u64 (n:Int),.int .i64 2] w (.string N2):=fun w=>hN2▸beI_any (n:Int) 2 w (by omega) (by omega) (by omega) (by omega)
  obtain⟨Z,hZ⟩:∃Z,Z=strOfNums (List.replicate 64 0):=⟨_,rfl⟩;have Z64:∀w,Cr 238 #[.string ⟨#[0]⟩,.int .i64 64] w (.string Z):=fun w=>hZ▸rep64 w
  obtain⟨F,hF⟩:∃F,F=mFirst (byt msg) (byt tag) n:=⟨_,rfl⟩;rw [←hF]
  have hcat:shaF (catB [Z,msg,N2,⟨#[0]⟩,tag++T1])=F:=by
    simp only [catB,List.append_nil];rw [hF,mFirst,hZ,hN2,hTb,hbe2,byt_str _ (rep_lt 64),byt_str _ (fun x hx=>by simp at hx;omega),show byt ⟨#[0]⟩= [0] from rfl];simp only [List.append_assoc,List.cons_append,List.nil_append]
  have HO:∀(g:Nat) (w:World),TabK w→(∀i,i<5→w.cell? ⟨g,i,none⟩=some (.string ([Z,msg,N2,⟨#[0]⟩,tag++T1].getD i ByteArray.empty)))→Cr 65 #[.slice (some ⟨g,0,none⟩) 5 5] w (.string (strOfNums F)):=fun g w hTw hc=>by
    have:=hashOfI_any g 5 5 [Z,msg,N2,⟨#[0]⟩,tag++T1] w hTw (by rw [hZ,hN2];simp only [sizeB,strOfNums_size,beTo_length,List.length_replicate,show (⟨#[0]⟩:ByteArray).size=1 from rfl];omega) rfl (by omega) (by omega) hc;rwa [hcat] at this
  have e64:IntKind.u64.wrap (n:Int)=(n:Int):=by rw [IntKind.wrap_u64];omega
  have e64t:IntKind.u64.wrap (tag.size:Int)=(tag.size:Int):=by rw [IntKind.wrap_u64];omega
  clear hcat hbe1 hbe2 hZ hN2 hF hT1;go_enter func227,ntmps227;go_wp2_with fail;refine(B1 _).mono ?_;rintro e w1 ⟨rfl,b1⟩;go_wp2;generalize hTT:tag++T1=T at*;have hTr:R1c (w1.alloc (.cells #[.string T] 9)) 9 w1.heap.size (.string T):=R1c.new w1 _ _;have hb1:Bl w (w1.alloc (.cells #[.string T] 9)):=b1.alloc b1.size _;have hl1:(w1.alloc (.cells #[.string T] 9)).heap.size=w1.heap.size+1:=by simp
  have hw1:=b1.size;generalize w1.alloc (.cells #[.string T] 9)=W1 at*;generalize w1.heap.size=q7 at*;have hT:TabK W1.drew:=fun i hi=>(hb1.cell (p:=⟨6,i,none⟩) hgw).trans (hT0 i hi)
  have hg:6<W1.drew.heap.size:=Nat.lt_of_lt_of_le hgw hb1.size;have c7:=hTr.drew.cell;clear B1 hTT b1 hT0 e64t
  refine pool_list [.val (.string Z),
      .val (.string msg),
      .val (.int .i64 n),
      .val (int u64 n),
      .val (.string N2),
      .val (.string T),
      .new (.cells #[.string Z,.string msg,.string N2,.string ⟨#[0]⟩,.string T] 9) (.cells #[.string Z,.string msg,.string N2,.string ⟨#[0]⟩,.string T] 9) 1005,
      .val (.string (strOfNums F)),
      .new (.cells #[.string ⟨#[]⟩] 9) (.cells #[.string (strOfNums F)] 9) 9,
      .put 8] [[],[0],[2],[19],[20],[7],[17,18,21,22],[23],[],[8,24]] (fun f=> [(some 17,.string Z),(some 18,.string msg),(some 19,.int .i64 n),(some 20,int u64 n),(some 21,.string N2),(some 22,.string T),(some 23,.slice (some ⟨f 6,0,none⟩) 5 5),(some 24,.string (strOfNums F)),(some 8,.pointer (some ⟨f 8,0,none⟩)),(none,undef)]) (by kernel_rfl) (by kernel_rfl) (by kernel_rfl) (by kernel_rfl) (fun _=>by kernel_rfl) ?_ ?_
  · intro ix hix
    match ix,hix with
    |0,_=>exact obv [] rfl rfl (fun A w _ hB=>doS_call2 cf_rep rfl rfl (Z64 w))
    |1,_=>exact obv [(0,.string msg)] rfl rfl (fun A w ⟨e0,_⟩ hB=>doS_move e0)
    |2,_=>exact obv [(2,.int .i64 n)] rfl rfl (fun A w ⟨e0,_⟩ hB=>doS_move e0)
    |3,_=>exact obv [(19,.int .i64 n)] rfl rfl (fun A w ⟨e0,_⟩ hB=>doS_c64 e0 e64)
    |4,_=>exact obv [(20,int u64 n)] rfl rfl (fun A w ⟨e0,_⟩ hB=>doS_call2 cf_be e0 rfl (B2 w))
    |5,_=>exact obv [(7,.pointer (some ⟨q7,0,none⟩))] rfl rfl (fun A w ⟨e0,_⟩ hB=>doS_loadS e0 (keepA c7 hB))
    |6,_=>exact ob_slc 5 [(17,.string Z),(18,.string msg),(21,.string N2),(22,.string T)] rfl rfl (fun _=>by kernel_rfl) (fun A w ⟨e0,e1,e2,e3,_⟩=>doS_str5 e0 e1 e2 rfl e3)
    |7,_=>exact ob_use 23 6 1005 (.cells #[.string Z,.string msg,.string N2,.string ⟨#[0]⟩,.string T] 9) (fun f=> [(23,.slice (some ⟨f 6,0,none⟩) 5 5)]) rfl rfl (by decide) (by kernel_rfl) rfl (fun _=>by kernel_rfl) (fun f A w ⟨e0,_⟩ hB hr=>doS_call1 cf_hash e0 (HO (f 6) w (keepT hT hg hB) (fun i h=>str5 hr i h)))
    |8,_=>exact ob_new rfl rfl (fun A w=>doS_new)
    |9,_=>exact ob_put 8 (fun f=> [(8,.pointer (some ⟨f 8,0,none⟩)),(24,.string (strOfNums F))]) rfl rfl rfl (by decide) (by kernel_rfl) rfl (fun _=>by kernel_rfl) (fun f A w ⟨e0,e1,_⟩ hr=>doS_put e0 e1 hr)
    |ix+10,h=>exact absurd h (by simp)
  intro f w2 hB hN _;have n8:=hN 8 _ _ _ rfl (by simp);rw [if_pos (by simp)] at n8;replace hTr:=hTr.drew.keep hB;replace hb1:=hb1.drew.trans (hB.mono hb1.size);have l2:=hB.size;simp only [puts,List.foldl,Act.put,List.setIfInBounds_toArray,List.set_cons_zero,List.set_cons_succ];obtain⟨l8,n8⟩:=n8;replace n8:R1c w2 9 (f 8) (.string (strOfNums F)):=n8;have l8':=n8.lt;generalize f 8=q8 at*;clear hN hB hT hg c7 HO B2 Z64;go_wp2_with fail;refine(rep32 _).mono ?_;rintro e w3 ⟨rfl,b3⟩;replace hTr:=hTr.keep b3;replace n8:=n8.keep b3;replace hb1:=hb1.tr b3;have l3:=b3.size;clear b3;go_wp2;go_ret;refine⟨w3.heap.size+1,q8,w3.heap.size,q7,T,rfl,⟨(R1c.new _ _ _).at (by simp),(n8.alloc _).alloc _,(R1c.new w3 _ _).alloc _,(hTr.alloc _).alloc _⟩,hTb,hTs,by omega,?_,by have:=hb1.size;omega,hb1.size,(hb1.alloc hb1.size _).alloc (by have:=hb1.size;simp;omega) _⟩
  · have:=hTr.lt;omega
theorem len_le (x:Nat)(hx:x<2^64):Lib.bitLen x≤64:=Lib.bitLen_le x 64 (Nat.le_refl _) hx
theorem len_up:∀(f x:Nat),x<2^f→x<2^(Lib.bitLenAux f x)
  |0,x,h=>by simpa [Lib.bitLenAux] using h
  | f+1,x,h=>by
    unfold Lib.bitLenAux;split
    · subst_vars;simp
    · have:=len_up f (x/2) (by rw [Nat.pow_succ] at h;omega);rw [Nat.add_comm,Nat.pow_succ];omega
theorem len_lo:∀(f x:Nat),x≠0→x<2^f→1≤Lib.bitLenAux f x∧2^(Lib.bitLenAux f x-1)≤x
  |0,x,h0,h=>by simp at h;omega
  | f +1,x,h0,h=>by
    unfold Lib.bitLenAux;rw [if_neg h0];refine⟨by omega,?_⟩;rw [Nat.add_sub_cancel_left];by_cases h2:x/2=0
    · rw [h2];have:Lib.bitLenAux f 0=0:=by cases f<;>simp [Lib.bitLenAux]
      rw [this];omega
    · obtain⟨q1,q2⟩:=len_lo f (x/2) h2 (by rw [Nat.pow_succ] at h;omega);have:Lib.bitLenAux f (x/2)=(Lib.bitLenAux f (x/2)-1)+1:=by omega
      rw [this,Nat.pow_succ];omega
theorem ret_i64 {a b:Int}(h:a=b):Ending.returned (.int .i64 a)= .returned (.int .i64 b):=by rw [h]
theorem get8 (i:Nat)(h:i<Lib.len8tab.size):((Lib.len8tab[i]'h).toNat:Int)=Lib.bitLen i:=by
  have hs:=Lib.len8tab_size;have:=Lib.len8_of (i:Int) (by omega) (by omega);rw [Int.toNat_natCast] at this;rw [←this,Lib.len8,Int.toNat_natCast,getElem?_pos _ i h];rfl
theorem get8_sh (k x:Nat)(i:Nat)(h:i<Lib.len8tab.size)(hE:i=x/2^k)(hk:k=0∨2^k≤x)(hx:x<2^64):(k:Int)+((Lib.len8tab[i]'h).toNat:Int)=(Lib.bitLen x:Int):=by
  rw [get8,hE];rcases hk with rfl|hk
  · simp
  · rw [Lib.bitLen_shift k x hk hx];omega
theorem wrap64_small (z:Int)(h0:0≤z)(h1:z≤9223372036854775807):wrap64 z=z:=by unfold wrap64;omega
theorem sh_wrap (k x:Nat)(i:Nat)(h:i<Lib.len8tab.size)(hE:i=x/2^k)(hk:k=0∨2^k≤x)(hx:x<2^64)(hk64:k≤64):wrap64 ((k:Int)+wrap64 ((Lib.len8tab[i]'h).toNat:Int))=(Lib.bitLen x:Int):=by
  have e:=get8_sh k x i h hE hk hx;have l:=(Lib.len8tab[i]'h).toNat_lt;generalize (Lib.len8tab[i]'h).toNat=q at*;rw [wrap64_small q (by omega) (by omega),wrap64_small _ (by omega) (by omega)];exact e
theorem sh_wrap0 (x:Nat)(i:Nat)(h:i<Lib.len8tab.size)(hE:i=x)(hx:x<2^64):wrap64 (wrap64 ((Lib.len8tab[i]'h).toNat:Int))=(Lib.bitLen x:Int):=by
  have:=sh_wrap 0 x i h (by rw [hE,Nat.pow_zero,Nat.div_one]) (.inl rfl) hx (by omega);simpa using this
theorem len_int (x:Int)(w:World)(h0:0≤x)(h1:x≤18446744073709551615):
    Calls prog 201 #[int u64 x] w fun e w'=>e= .returned (.int .i64 (Lib.bitLen x.toNat))∧w=w':=by
  go_enter func201,ntmps201;go_wp2
  all_goals first
    |(go_ret;refine⟨ret_i64 ?_,rfl⟩)
    |(exfalso;have hs:=Lib.len8tab_size;omega)
  all_goals have hs:=Lib.len8tab_size
  · exact sh_wrap 56 x.toNat _ _ (by omega) (.inr (by omega)) (by omega) (by omega)
  · exact sh_wrap 48 x.toNat _ _ (by omega) (.inr (by omega)) (by omega) (by omega)
  · exact sh_wrap 40 x.toNat _ _ (by omega) (.inr (by omega)) (by omega) (by omega)
  · exact sh_wrap 32 x.toNat _ _ (by omega) (.inr (by omega)) (by omega) (by omega)
  · exact sh_wrap 24 x.toNat _ _ (by omega) (.inr (by omega)) (by omega) (by omega)
  · exact sh_wrap 16 x.toNat _ _ (by omega) (.inr (by omega)) (by omega) (by omega)
  · exact sh_wrap 8 x.toNat _ _ (by omega) (.inr (by omega)) (by omega) (by omega)
  · exact sh_wrap0 x.toNat _ _ rfl (by omega)
theorem len_nat (x:Nat)(hx:x<18446744073709551616)(w:World):
    Calls prog 201 #[int u64 x] w fun e w'=>e= .returned (.int .i64 (Lib.bitLen x))∧w=w':=by
  have:=len_int (x:Int) w (by omega) (by omega);rwa [Int.toNat_natCast] at this
theorem lead_any (x:Nat)(hx:x<18446744073709551616)(w:World):
    Calls prog 198 #[int u64 x] w fun e w'=>e= .returned (.int .i64 ((64-Lib.bitLen x:Nat):Int))∧w=w':=by
  have L:=len_nat x hx;have hl:=len_le x (by omega);generalize Lib.bitLen x=q at*;clear hx;go_enter func198,ntmps198;go_wp2_with fail;refine(L _).mono ?_;rintro e w' ⟨rfl,rfl⟩;go_wp2;go_ret;exact⟨ret_i64 (by omega),rfl⟩
theorem maskN (a:Nat)(ha:a<18446744073709551616):bits .and .u64 (a:Int) 4294967295=((a%4294967296:Nat):Int):=by
  have h:=bits_and_u64_nat a 4294967295 ha (by omega);rwa [show a&&&4294967295=a%4294967296 from Nat.and_two_pow_sub_one_eq_mod a 32] at h
theorem maskW (z:Int):bits .and .u64 (IntKind.u64.wrap z) 4294967295=IntKind.u64.wrap z%4294967296:=by
  obtain⟨n,hn⟩:∃n:Nat,IntKind.u64.wrap z=n:=⟨(IntKind.u64.wrap z).toNat,by rw [IntKind.wrap_u64];omega⟩;have hl:n<18446744073709551616:=by rw [IntKind.wrap_u64] at hn;omega
  rw [hn,maskN n hl];omega
theorem ret_two {k l:IntKind}{a b c d:Int}(h:a=c)(h2:b=d):Ending.returned (.tuple #[.int k a,.int l b])= .returned (.tuple #[.int k c,.int l d]):=by rw [h,h2]
theorem wrapM (a:Nat):IntKind.u64.wrap (a:Int)=((a%18446744073709551616:Nat):Int):=by rw [IntKind.wrap_u64];omega
theorem mul64_any (x y:Nat)(hx:x<18446744073709551616)(hy:y<18446744073709551616)(w:World):
    Calls prog 164 #[int u64 x,int u64 y] w fun e w'=>e= .returned (.tuple #[int u64 ((x*y/18446744073709551616:Nat):Int),int u64 ((x*y%18446744073709551616:Nat):Int)])∧w=w':=by
  go_enter func164,ntmps164;go_wp2;go_ret2;refine⟨ret_two ?_ ?_,rfl⟩
  · obtain⟨b1,b2,b3,hh⟩:=Lib.mul64_hi x y hx hy;have ba:=Lib.half_mul_le (a:=x/4294967296) (b:=y/4294967296) (by omega) (by omega);have bb:=Lib.half_mul_le (a:=x/4294967296) (b:=y%4294967296) (by omega) (by omega);have bc:=Lib.half_mul_le (a:=x%4294967296) (b:=y/4294967296) (by omega) (by omega);have d0:(x:Int)/4294967296=((x/4294967296:Nat):Int):=by omega
    have d1:(y:Int)/4294967296=((y/4294967296:Nat):Int):=by omega
    rw [maskN x hx,maskN y hy,d0,d1];simp only [maskW,←Int.natCast_mul];simp only [IntKind.wrap_u64];rw [←hh];generalize x/4294967296*(y/4294967296)=p3 at*;generalize x/4294967296*(y%4294967296)=p2 at*;generalize x%4294967296*(y/4294967296)=p1 at*;generalize x%4294967296*(y%4294967296)=p0 at*;clear d0 d1 hh hx hy;omega
  · rw [←Int.natCast_mul,wrapM]
namespace Dv
structure Half (Y a b U d:Nat):Prop where
  y:Y=a*4294967296+b
  b:b<4294967296
  a0:2147483648≤a
  a1:a<4294967296
  u:U<Y
  d:d<4294967296
variable {Y a b U d q r:Nat}
theorem Half.ypos (h:Half Y a b U d):0<Y:=by have:=h.u;omega
theorem Half.small (h:Half Y a b U d):(U*4294967296+d)/Y<4294967296:=by
  rw [Nat.div_lt_iff_lt_mul h.ypos];have:=h.u;have:=h.d;have:(U+1)*4294967296≤Y*4294967296:=Nat.mul_le_mul_right _ (by omega);omega
theorem Half.less (h:Half Y a b U d)(e:q*a+r=U):((U*4294967296+d)/Y<q↔4294967296*r+d<q*b):=by
  rw [Nat.div_lt_iff_lt_mul h.ypos,h.y,Nat.mul_add,←Nat.mul_assoc];generalize q*a=m at*;generalize q*b=n at*;omega
theorem Half.start (h:Half Y a b U d):(U*4294967296+d)/Y≤U/a∧U/a≤4294967297:=by
  have h0:=h.a0;have h1:=h.u;have h2:=h.d;have h3:=h.b;have hy:=h.y;constructor
  · apply Nat.le_of_lt_succ;rw [Nat.div_lt_iff_lt_mul h.ypos,hy];have e:=Nat.lt_mul_div_succ U (show 0<a by omega);have e2:U+1≤(U/a+1)*a:=by rw [Nat.mul_comm];exact e
    have e3:(U+1)*4294967296≤(U/a+1)*a*4294967296:=Nat.mul_le_mul_right _ e2;rw [Nat.mul_add,←Nat.mul_assoc];generalize (U/a).succ*b=z;generalize hz:(U/a+1)*a=t at*;omega
  · apply Nat.le_of_lt_succ;rw [Nat.div_lt_iff_lt_mul (by omega)];omega
theorem Half.over (h:Half Y a b U d)(e:q*a+r=U)(hq:q≤4294967296)(hr:4294967296≤r):q≤(U*4294967296+d)/Y:=by
  rw [Nat.le_div_iff_mul_le h.ypos,h.y,Nat.mul_add,←Nat.mul_assoc];have h1:q*b≤4294967296*r:=Nat.mul_le_mul hq (by have:=h.b;omega);generalize q*a=m at*;generalize q*b=n at*;omega
theorem two (Y U d0 d1:Nat)(hY:0<Y):((U*4294967296+d1)%Y*4294967296+d0)%Y=(U*18446744073709551616+d1*4294967296+d0)%Y:=by
  have e:U*18446744073709551616+d1*4294967296+d0=(U*4294967296+d1)*4294967296+d0:=by omega
  rw [e,Nat.add_mod,Nat.mod_mul_mod,←Nat.add_mod]
theorem left (z Y:Nat)(hY:Y<18446744073709551616)(h0:0<Y):(((z:Int)%18446744073709551616)-(((z/Y)*Y:Nat):Int)%18446744073709551616)%18446744073709551616=((z%Y:Nat):Int):=by
  have e:=Nat.div_add_mod z Y;rw [Nat.mul_comm] at e;have l:=Nat.mod_lt z h0;generalize z/Y*Y=t at*;generalize z%Y=u at*;omega
theorem shifted (x y s:Nat):(x*2^s)%(y*2^s)/2^s=x%y:=by
  rw [Nat.mul_mod_mul_right,Nat.mul_div_cancel _ (Nat.two_pow_pos s)]
theorem words (hi lo y s:Nat)(hs:s≤63)(hlo:lo<18446744073709551616)(hh:hi<y)(hy:y*2^s<18446744073709551616):
    hi*2^s<18446744073709551616∧lo/2^(64-s)<2^s∧hi*2^s+lo/2^(64-s)<y*2^s∧
    (hi*2^s+lo/2^(64-s))*18446744073709551616+lo*2^s%18446744073709551616=(hi*18446744073709551616+lo)*2^s:=by
  have hp:=Nat.two_pow_pos s;have e1:(hi+1)*2^s≤y*2^s:=Nat.mul_le_mul_right _ hh;rw [Nat.add_mul,Nat.one_mul] at e1;have e2:(2:Nat)^(64-s)*2^s=18446744073709551616:=by rw [←Nat.pow_add,show 64-s+s=64 by omega]
  have e3:lo/2^(64-s)<2^s:=by
    rw [Nat.div_lt_iff_lt_mul (Nat.two_pow_pos _),Nat.mul_comm,e2];exact hlo
  have e4:lo*2^s/18446744073709551616=lo/2^(64-s):=by
    rw [←e2,Nat.mul_div_mul_right _ _ hp]
  refine⟨by omega,e3,by omega,?_⟩;rw [←e4,Nat.add_mul,Nat.add_mul,Nat.mul_right_comm hi];have:=Nat.div_add_mod (lo*2^s) 18446744073709551616;generalize hi*2^s=t at*;generalize lo*2^s=u at*;omega
end Dv
theorem div_zero (lo y:Nat)(w:World)(hy:0<y):
    Calls prog 165 #[int u64 0,int u64 lo,int u64 y] w fun e w'=>(∃z:Int,e= .returned (.tuple #[int u64 z,int u64 ((lo%y:Nat):Int)]))∧(w'=w∨w'=w.drew):=by
  have z0:((y:Int)==0)=false:=by simp;omega
  have z1: ¬ ((y:Int)≤0):=by omega
  go_enter func165,ntmps165;go_wp2
  go_region
  go_wp2;go_ret2;exact⟨⟨IntKind.u64.wrap ((lo:Int)/(y:Int)),by simp⟩,.inr rfl⟩
theorem prep (hi lo y s:Nat)(h0:0<hi)(hh:hi<y)(hy:y<18446744073709551616)(hlo:lo<18446744073709551616)(hs:s=64-Lib.bitLen y):
    s ≤63∧∃Y a b H T U X d1 d0:Nat,IntKind.u64.wrap ((y:Int)*2^s)=Y∧(Y:Int)/4294967296=a∧bits .and .u64 (Y:Int) 4294967295=b∧
      IntKind.u64.wrap ((hi:Int)*2^s)=H∧(lo:Int)/2^(64-s)=T∧bits .or .u64 (H:Int) (T:Int)=U∧IntKind.u64.wrap ((lo:Int)*2^s)=X∧
      (X:Int)/4294967296=d1∧bits .and .u64 (X:Int) 4294967295=d0∧Dv.Half Y a b U d1∧Y<18446744073709551616∧d0<4294967296∧
      (U*18446744073709551616+d1*4294967296+d0)%Y/2^s=(hi*18446744073709551616+lo)%y:=by
  obtain⟨b1,b2⟩:=len_lo 64 y (by omega) (by omega);have b3:=len_up 64 y (by omega);have b4:=len_le y (by omega);change 1≤Lib.bitLen y at b1;change 2^(Lib.bitLen y-1)≤y at b2;change y<2^(Lib.bitLen y) at b3;generalize Lib.bitLen y=L at*;have hs63:s≤63:=by omega
  have p1:(2:Nat)^L*2^s=18446744073709551616:=by rw [←Nat.pow_add,show L+s=64 by omega]
  have p2:(2:Nat)^(L-1)*2^s=9223372036854775808:=by rw [←Nat.pow_add,show L-1+s=63 by omega]
  have q1:y*2^s<18446744073709551616:=by rw [←p1];exact Nat.mul_lt_mul_of_pos_right b3 (Nat.two_pow_pos s)
  have q2:9223372036854775808≤y*2^s:=by rw [←p2];exact Nat.mul_le_mul_right _ b2
  obtain⟨w1,w2,w3,w4⟩:=Dv.words hi lo y s hs63 hlo hh q1;have c:∀n:Nat,(n:Int)*2^s=((n*2^s:Nat):Int):=fun n=>by simp
  have c2:(lo:Int)/2^(64-s)=((lo/2^(64-s):Nat):Int):=by simp
  have e6:=orN (hi*2^s) (lo/2^(64-s)) w1 (by omega);rw [Dv.or_add _ _ _ w2] at e6;have e1:IntKind.u64.wrap ((y:Int)*2^s)=((y*2^s:Nat):Int):=by rw [c,wrapM,Nat.mod_eq_of_lt q1]
  have e4:IntKind.u64.wrap ((hi:Int)*2^s)=((hi*2^s:Nat):Int):=by rw [c,wrapM,Nat.mod_eq_of_lt w1]
  have e7:IntKind.u64.wrap ((lo:Int)*2^s)=((lo*2^s%18446744073709551616:Nat):Int):=by rw [c,wrapM]
  have e3:=maskN (y*2^s) q1;have e9:=maskN (lo*2^s%18446744073709551616) (Nat.mod_lt _ (by decide));have sh:=Dv.shifted (hi*18446744073709551616+lo) y s;rw [←w4] at sh;refine⟨hs63,y*2^s,y*2^s/4294967296,y*2^s%4294967296,hi*2^s,lo/2^(64-s),hi*2^s+lo/2^(64-s),lo*2^s%18446744073709551616,lo*2^s%18446744073709551616/4294967296,lo*2^s%18446744073709551616%4294967296,e1,?_,e3,e4,c2,e6,e7,?_,e9,⟨?_,?_,?_,?_,?_,?_⟩,q1,?_,?_⟩
  · generalize y*2^s=Y at*;omega
  · generalize lo*2^s%18446744073709551616=Y at*;omega
  · generalize y*2^s=Y at*;omega
  · generalize y*2^s=Y at*;omega
  · generalize y*2^s=Y at*;omega
  · generalize y*2^s=Y at*;omega
  · exact w3
  · have:=Nat.mod_lt (lo*2^s) (show 0<18446744073709551616 by decide);clear e1 e3 e4 e6 e7 e9 c c2 sh w4;generalize lo*2^s%18446744073709551616=Y at*;omega
  · generalize lo*2^s%18446744073709551616=Y at*;omega
  · rw [←sh];clear e1 e3 e4 e6 e7 e9 c c2 sh w4;generalize hi*2^s+lo/2^(64-s)=U;generalize lo*2^s%18446744073709551616=X;have:U*18446744073709551616+X/4294967296*4294967296+X%4294967296=U*18446744073709551616+X:=by omega
    rw [this]
theorem turn {Y a b U d q r:Nat}(h:Dv.Half Y a b U d)(i1:q*a+r=U)(i2:(U*4294967296+d)/Y≤q)(i3:q≤4294967297)(i4:r<4294967296):
    (∃n z v:Nat,¬ ((4294967296:Int)≤q)∧IntKind.u64.wrap ((q:Int)*(b:Int))=n∧IntKind.u64.wrap (4294967296*(r:Int))=z∧IntKind.u64.wrap ((z:Int)+(d:Int))=v∧
      (¬ ((v:Int)<(n:Int))∧q=(U*4294967296+d)/Y∨(v:Int)<(n:Int)∧(U*4294967296+d)/Y<q))∨((4294967296:Int)≤q∧(U*4294967296+d)/Y<q):=by
  have hb:=h.b;have hd:=h.d;by_cases k1:4294967296≤q
  · exact .inr ⟨by omega,by have:=h.small;omega⟩
  · refine .inl ⟨q*b,4294967296*r,4294967296*r+d,by omega,?_,?_,?_,?_⟩
    · rw [←Int.natCast_mul,wrapM,Nat.mod_eq_of_lt];have:q*b≤4294967295*4294967295:=Nat.mul_le_mul (by omega) (by omega);omega
    · rw [IntKind.wrap_u64];omega
    · rw [IntKind.wrap_u64];omega
    · have e:=h.less (q:=q) (r:=r) i1;by_cases k2:4294967296*r+d<q*b
      · exact .inr ⟨by omega,e.2 k2⟩
      · refine .inl ⟨by omega,?_⟩;have: ¬ (U*4294967296+d)/Y<q:=fun h=>k2 (e.1 h)
        omega
theorem turned {Y a b U d q r:Nat}(h:Dv.Half Y a b U d)(i1:q*a+r=U)(i3:q≤4294967297)(i4:r<4294967296)(k:(U*4294967296+d)/Y<q):
    ∃ p t:Nat,IntKind.u64.wrap ((q:Int)-1)=p∧IntKind.u64.wrap ((r:Int)+(a:Int))=t∧p<q∧
      ((4294967296:Int)≤t∧p=(U*4294967296+d)/Y∨ ¬ ((4294967296:Int)≤t)∧(p*a+t=U∧(U*4294967296+d)/Y≤p∧p≤4294967297∧t<4294967296)):=by
  have ha:=h.a1;have ho:∀p t,p*a+t=U→p≤4294967296→4294967296≤t→p≤(U*4294967296+d)/Y:=fun p t=>h.over
  generalize (U*4294967296+d)/Y=Q at*;obtain⟨p,rfl⟩:∃p,q=p+1:=⟨q-1,by omega⟩;have e:p*a+(r+a)=U:=by rw [←i1,Nat.add_mul,Nat.one_mul];omega
  refine⟨p,r+a,by rw [IntKind.wrap_u64];omega,by rw [IntKind.wrap_u64];omega,by omega,?_⟩;by_cases k3:4294967296≤r+a
  · refine .inl ⟨by omega,?_⟩;have:=ho _ _ e (by omega) k3;omega
  · exact .inr ⟨by omega,e,by omega,by omega,by omega⟩
theorem rest {Y a b U d k:Nat}(h:Dv.Half Y a b U d)(hY:Y<18446744073709551616)(hk:k=(U*4294967296+d)/Y):
    ∃A1 A2 A3 V:Nat,IntKind.u64.wrap ((U:Int)*4294967296)=A1∧IntKind.u64.wrap ((A1:Int)+(d:Int))=A2∧IntKind.u64.wrap ((k:Int)*(Y:Int))=A3∧IntKind.u64.wrap ((A2:Int)-(A3:Int))=V∧V=(U*4294967296+d)%Y:=by
  have e:=Dv.left (U*4294967296+d) Y hY h.ypos;rw [←hk] at e;refine⟨U*4294967296%18446744073709551616,(U*4294967296+d)%18446744073709551616,k*Y%18446744073709551616,(U*4294967296+d)%Y,?_,?_,?_,?_,rfl⟩
  · rw [IntKind.wrap_u64];omega
  · rw [IntKind.wrap_u64];omega
  · rw [←Int.natCast_mul,wrapM]
  · rw [IntKind.wrap_u64,←e];generalize k*Y=z;omega
theorem guess {Y a b U d:Nat}(hf:Dv.Half Y a b U d)(hY:Y<18446744073709551616):
    ∃ q r m:Nat,(U:Int)/(a:Int)=q∧IntKind.u64.wrap (q:Int)=q∧IntKind.u64.wrap ((q:Int)*(a:Int))=m∧IntKind.u64.wrap ((U:Int)-(m:Int))=r∧
      (q*a+r=U∧(U*4294967296+d)/Y≤q∧q≤4294967297∧r<4294967296):=by
  have ha0:=hf.a0;have ha1:=hf.a1;have hu:=hf.u;have hst:=hf.start;have hd:=Nat.div_add_mod U a;have hl:=Nat.mod_lt U (show 0<a by omega);have hql:U/a≤U:=Nat.div_le_self _ _;refine⟨U/a,U%a,U/a*a,by simp,?_,?_,?_,?_,hst.1,hst.2,by omega⟩
  · rw [wrapM,Nat.mod_eq_of_lt (by omega)]
  · rw [←Int.natCast_mul,wrapM,Nat.mod_eq_of_lt];rw [Nat.mul_comm];generalize a*(U/a)=z at*;omega
  · rw [Nat.mul_comm a] at hd;generalize U/a*a=z at*;rw [IntKind.wrap_u64];omega
  · rw [Nat.mul_comm a] at hd;exact hd
theorem div_more (hi lo y:Nat)(w:World)(h0:0<hi)(hh:hi<y)(hy:y<18446744073709551616)(hlo:lo<18446744073709551616):
    Calls prog 165 #[int u64 hi,int u64 lo,int u64 y] w fun e w'=>(∃z:Int,e= .returned (.tuple #[int u64 z,int u64 (((hi*18446744073709551616+lo)%y:Nat):Int)]))∧(w'=w∨w'=w.drew):=by
  have z0:((y:Int)==0)=false:=by simp;omega
  have z1: ¬ ((y:Int)≤(hi:Int)):=by omega
  have z2:((hi:Int)==0)=false:=by simp;omega
  have L:=lead_any y hy;obtain⟨s,hs⟩:∃s,s=64-Lib.bitLen y:=⟨_,rfl⟩;obtain⟨hs63,Y,a,b,H,T,U,X,d1,d0,e1,e2,e3,e4,e5,e6,e7,e8,e9,hf,hY,hd0,hres⟩:=prep hi lo y s h0 hh hy hlo hs;rw [←hs] at L;obtain⟨res,hr'⟩:∃res,res=(hi*18446744073709551616+lo)%y:=⟨_,rfl⟩;rw [←hr'] at hres⊢;clear hr';have hres:Hid ((U*18446744073709551616+d1*4294967296+d0)%Y/2^s=res):=hres;have z4: ¬ (a=0):=by have:=hf.a0;omega
  obtain⟨q,r,m,f1,f2,f3,f4,f5⟩:=guess hf hY;have hF:Hid (q*a+r=U∧(U*4294967296+d1)/Y≤q∧q≤4294967297∧r<4294967296):=f5;have hHf:Hid (Dv.Half Y a b U d1∧Y<18446744073709551616∧d0<4294967296):=⟨hf,hY,hd0⟩;clear hs hh h0 hlo hy hY hd0 hf f5;go_enter func165,ntmps165;go_wp2_with fail;refine(L _).mono ?_;rintro e w' ⟨rfl,rfl⟩;clear L;go_wp2
  go_loop [15,16] (fun qv rv=>∃q r:Nat,qv=int u64 (q:Int)∧rv=int u64 (r:Int)∧Hid (q*a+r=U∧(U*4294967296+d1)/Y≤q∧q≤4294967297∧r<4294967296)) (fun qv _=>(intOf qv).toNat)
  case atStart=>exact ⟨q,r,rfl,rfl,hF⟩
  case round=>
    clear f1 f2 f3 f4 hF;obtain⟨g,x,rfl,rfl,hI⟩:=hrel;obtain⟨i1,i2,i3,i4⟩:=hI.out;rcases turn hHf.out.1 i1 i2 i3 i4 with ⟨n,z,v,j1,j2,j3,j4,⟨j5,j6⟩|⟨j5,j6⟩⟩|⟨j1,j6⟩
    case inl.inl=>
      have hx:Hid (g=(U*4294967296+d1)/Y):=j6;clear hI i1 i2 i3 i4 j6;obtain⟨A1,A2,A3,V,n1,n2,n3,n4,n5⟩:=rest hHf.out.1 hHf.out.2.1 hx.out;have hg:Hid (Dv.Half Y a b V d0∧Y<18446744073709551616∧V=(U*4294967296+d1)%Y):=⟨⟨hHf.out.1.y,hHf.out.1.b,hHf.out.1.a0,hHf.out.1.a1,by rw [n5];exact Nat.mod_lt _ hHf.out.1.ypos,hHf.out.2.2⟩,hHf.out.2.1,n5⟩;obtain⟨q2,r2,m2,g1,g2,g3,g4,g5⟩:=guess hg.out.1 hg.out.2.1;have hG:Hid (q2*a+r2=V∧(V*4294967296+d0)/Y≤q2∧q2≤4294967297∧r2<4294967296):=g5;clear hx n5 hHf g5;go_wp2
      go_loop [18,16] (fun qv rv=>∃q r:Nat,qv=int u64 (q:Int)∧rv=int u64 (r:Int)∧Hid (q*a+r=V∧(V*4294967296+d0)/Y≤q∧q≤4294967297∧r<4294967296)) (fun qv _=>(intOf qv).toNat)
      case atStart=>exact ⟨q2,r2,rfl,rfl,hG⟩
      case round=>
        clear g1 g2 g3 g4 hG n1 n2 n3 n4;obtain⟨g',x',rfl,rfl,hI⟩:=hrel;obtain⟨i1,i2,i3,i4⟩:=hI.out;rcases turn hg.out.1 i1 i2 i3 i4 with ⟨n',z',v',j1,j2,j3,j4,⟨j5,j6⟩|⟨j5,j6⟩⟩|⟨j1,j6⟩
        case inl.inl=>
          have hx:Hid (g'=(V*4294967296+d0)/Y):=j6;clear hI i1 i2 i3 i4 j6;obtain⟨C1,C2,C3,R,s1,s2,s3,s4,s5⟩:=rest hg.out.1 hg.out.2.1 hx.out;have s6:(R:Int)/2^s=((R/2^s:Nat):Int):=by simp
          have s7:R/2^s=res:=by rw [s5,hg.out.2.2,Dv.two _ _ _ _ hg.out.1.ypos];exact hres.out
          rw [s7] at s6;clear s5 hx s7;go_wp2;go_ret2;exact⟨⟨_,ret_two rfl rfl⟩,.inl rfl⟩
        case inl.inr=>
          obtain⟨p',t',j7,j8,j9,⟨j10,j11⟩|⟨j10,j11⟩⟩:=turned hg.out.1 i1 i3 i4 j6
          · have hx:Hid (p'=(V*4294967296+d0)/Y):=j11;clear hI i1 i2 i3 i4 j11 j9 j6;obtain⟨C1,C2,C3,R,s1,s2,s3,s4,s5⟩:=rest hg.out.1 hg.out.2.1 hx.out;have s6:(R:Int)/2^s=((R/2^s:Nat):Int):=by simp
            have s7:R/2^s=res:=by rw [s5,hg.out.2.2,Dv.two _ _ _ _ hg.out.1.ypos];exact hres.out
            rw [s7] at s6;clear s5 hx s7;go_wp2;go_ret2;exact⟨⟨_,ret_two rfl rfl⟩,.inl rfl⟩
          · have hx:Hid (p'*a+t'=V∧(V*4294967296+d0)/Y≤p'∧p'≤4294967297∧t'<4294967296):=j11;clear hI i1 i2 i3 i4 j11 j6;go_wp2;go_round
            case rel=>exact ⟨p',t',rfl,rfl,hx⟩
            case measure=>simp [intOf];omega
        case inr=>
          obtain⟨p',t',j7,j8,j9,⟨j10,j11⟩|⟨j10,j11⟩⟩:=turned hg.out.1 i1 i3 i4 j6
          · have hx:Hid (p'=(V*4294967296+d0)/Y):=j11;clear hI i1 i2 i3 i4 j11 j9 j6;obtain⟨C1,C2,C3,R,s1,s2,s3,s4,s5⟩:=rest hg.out.1 hg.out.2.1 hx.out;have s6:(R:Int)/2^s=((R/2^s:Nat):Int):=by simp
            have s7:R/2^s=res:=by rw [s5,hg.out.2.2,Dv.two _ _ _ _ hg.out.1.ypos];exact hres.out
            rw [s7] at s6;clear s5 hx s7;go_wp2;go_ret2;exact⟨⟨_,ret_two rfl rfl⟩,.inl rfl⟩
          · have hx:Hid (p'*a+t'=V∧(V*4294967296+d0)/Y≤p'∧p'≤4294967297∧t'<4294967296):=j11;clear hI i1 i2 i3 i4 j11 j6;go_wp2;go_round
            case rel=>exact ⟨p',t',rfl,rfl,hx⟩
            case measure=>simp [intOf];omega
    case inl.inr=>
      obtain⟨p,t,j7,j8,j9,⟨j10,j11⟩|⟨j10,j11⟩⟩:=turned hHf.out.1 i1 i3 i4 j6
      · have hx:Hid (p=(U*4294967296+d1)/Y):=j11;clear hI i1 i2 i3 i4 j11 j9 j6;obtain⟨A1,A2,A3,V,n1,n2,n3,n4,n5⟩:=rest hHf.out.1 hHf.out.2.1 hx.out;have hg:Hid (Dv.Half Y a b V d0∧Y<18446744073709551616∧V=(U*4294967296+d1)%Y):=⟨⟨hHf.out.1.y,hHf.out.1.b,hHf.out.1.a0,hHf.out.1.a1,by rw [n5];exact Nat.mod_lt _ hHf.out.1.ypos,hHf.out.2.2⟩,hHf.out.2.1,n5⟩;obtain⟨q2,r2,m2,g1,g2,g3,g4,g5⟩:=guess hg.out.1 hg.out.2.1;have hG:Hid (q2*a+r2=V∧(V*4294967296+d0)/Y≤q2∧q2≤4294967297∧r2<4294967296):=g5;clear hx n5 hHf g5;go_wp2
        go_loop [18,16] (fun qv rv=>∃q r:Nat,qv=int u64 (q:Int)∧rv=int u64 (r:Int)∧Hid (q*a+r=V∧(V*4294967296+d0)/Y≤q∧q≤4294967297∧r<4294967296)) (fun qv _=>(intOf qv).toNat)
        case atStart=>exact ⟨q2,r2,rfl,rfl,hG⟩
        case round=>
          clear g1 g2 g3 g4 hG n1 n2 n3 n4;obtain⟨g',x',rfl,rfl,hI⟩:=hrel;obtain⟨i1,i2,i3,i4⟩:=hI.out;rcases turn hg.out.1 i1 i2 i3 i4 with ⟨n',z',v',j1,j2,j3,j4,⟨j5,j6⟩|⟨j5,j6⟩⟩|⟨j1,j6⟩
          case inl.inl=>
            have hx:Hid (g'=(V*4294967296+d0)/Y):=j6;clear hI i1 i2 i3 i4 j6;obtain⟨C1,C2,C3,R,s1,s2,s3,s4,s5⟩:=rest hg.out.1 hg.out.2.1 hx.out;have s6:(R:Int)/2^s=((R/2^s:Nat):Int):=by simp
            have s7:R/2^s=res:=by rw [s5,hg.out.2.2,Dv.two _ _ _ _ hg.out.1.ypos];exact hres.out
            rw [s7] at s6;clear s5 hx s7;go_wp2;go_ret2;exact⟨⟨_,ret_two rfl rfl⟩,.inl rfl⟩
          case inl.inr=>
            obtain⟨p',t',j7,j8,j9,⟨j10,j11⟩|⟨j10,j11⟩⟩:=turned hg.out.1 i1 i3 i4 j6
            · have hx:Hid (p'=(V*4294967296+d0)/Y):=j11;clear hI i1 i2 i3 i4 j11 j9 j6;obtain⟨C1,C2,C3,R,s1,s2,s3,s4,s5⟩:=rest hg.out.1 hg.out.2.1 hx.out;have s6:(R:Int)/2^s=((R/2^s:Nat):Int):=by simp
              have s7:R/2^s=res:=by rw [s5,hg.out.2.2,Dv.two _ _ _ _ hg.out.1.ypos];exact hres.out
              rw [s7] at s6;clear s5 hx s7;go_wp2;go_ret2;exact⟨⟨_,ret_two rfl rfl⟩,.inl rfl⟩
            · have hx:Hid (p'*a+t'=V∧(V*4294967296+d0)/Y≤p'∧p'≤4294967297∧t'<4294967296):=j11;clear hI i1 i2 i3 i4 j11 j6;go_wp2;go_round
              case rel=>exact ⟨p',t',rfl,rfl,hx⟩
              case measure=>simp [intOf];omega
          case inr=>
            obtain⟨p',t',j7,j8,j9,⟨j10,j11⟩|⟨j10,j11⟩⟩:=turned hg.out.1 i1 i3 i4 j6
            · have hx:Hid (p'=(V*4294967296+d0)/Y):=j11;clear hI i1 i2 i3 i4 j11 j9 j6;obtain⟨C1,C2,C3,R,s1,s2,s3,s4,s5⟩:=rest hg.out.1 hg.out.2.1 hx.out;have s6:(R:Int)/2^s=((R/2^s:Nat):Int):=by simp
              have s7:R/2^s=res:=by rw [s5,hg.out.2.2,Dv.two _ _ _ _ hg.out.1.ypos];exact hres.out
              rw [s7] at s6;clear s5 hx s7;go_wp2;go_ret2;exact⟨⟨_,ret_two rfl rfl⟩,.inl rfl⟩
            · have hx:Hid (p'*a+t'=V∧(V*4294967296+d0)/Y≤p'∧p'≤4294967297∧t'<4294967296):=j11;clear hI i1 i2 i3 i4 j11 j6;go_wp2;go_round
              case rel=>exact ⟨p',t',rfl,rfl,hx⟩
              case measure=>simp [intOf];omega
      · have hx:Hid (p*a+t=U∧(U*4294967296+d1)/Y≤p∧p≤4294967297∧t<4294967296):=j11;clear hI i1 i2 i3 i4 j11 j6;go_wp2;go_round
        case rel=>exact ⟨p,t,rfl,rfl,hx⟩
        case measure=>simp [intOf];omega
    case inr=>
      obtain⟨p,t,j7,j8,j9,⟨j10,j11⟩|⟨j10,j11⟩⟩:=turned hHf.out.1 i1 i3 i4 j6
      · have hx:Hid (p=(U*4294967296+d1)/Y):=j11;clear hI i1 i2 i3 i4 j11 j9 j6;obtain⟨A1,A2,A3,V,n1,n2,n3,n4,n5⟩:=rest hHf.out.1 hHf.out.2.1 hx.out;have hg:Hid (Dv.Half Y a b V d0∧Y<18446744073709551616∧V=(U*4294967296+d1)%Y):=⟨⟨hHf.out.1.y,hHf.out.1.b,hHf.out.1.a0,hHf.out.1.a1,by rw [n5];exact Nat.mod_lt _ hHf.out.1.ypos,hHf.out.2.2⟩,hHf.out.2.1,n5⟩;obtain⟨q2,r2,m2,g1,g2,g3,g4,g5⟩:=guess hg.out.1 hg.out.2.1;have hG:Hid (q2*a+r2=V∧(V*4294967296+d0)/Y≤q2∧q2≤4294967297∧r2<4294967296):=g5;clear hx n5 hHf g5;go_wp2
        go_loop [18,16] (fun qv rv=>∃q r:Nat,qv=int u64 (q:Int)∧rv=int u64 (r:Int)∧Hid (q*a+r=V∧(V*4294967296+d0)/Y≤q∧q≤4294967297∧r<4294967296)) (fun qv _=>(intOf qv).toNat)
        case atStart=>exact ⟨q2,r2,rfl,rfl,hG⟩
        case round=>
          clear g1 g2 g3 g4 hG n1 n2 n3 n4;obtain⟨g',x',rfl,rfl,hI⟩:=hrel;obtain⟨i1,i2,i3,i4⟩:=hI.out;rcases turn hg.out.1 i1 i2 i3 i4 with ⟨n',z',v',j1,j2,j3,j4,⟨j5,j6⟩|⟨j5,j6⟩⟩|⟨j1,j6⟩
          case inl.inl=>
            have hx:Hid (g'=(V*4294967296+d0)/Y):=j6;clear hI i1 i2 i3 i4 j6;obtain⟨C1,C2,C3,R,s1,s2,s3,s4,s5⟩:=rest hg.out.1 hg.out.2.1 hx.out;have s6:(R:Int)/2^s=((R/2^s:Nat):Int):=by simp
            have s7:R/2^s=res:=by rw [s5,hg.out.2.2,Dv.two _ _ _ _ hg.out.1.ypos];exact hres.out
            rw [s7] at s6;clear s5 hx s7;go_wp2;go_ret2;exact⟨⟨_,ret_two rfl rfl⟩,.inl rfl⟩
          case inl.inr=>
            obtain⟨p',t',j7,j8,j9,⟨j10,j11⟩|⟨j10,j11⟩⟩:=turned hg.out.1 i1 i3 i4 j6
            · have hx:Hid (p'=(V*4294967296+d0)/Y):=j11;clear hI i1 i2 i3 i4 j11 j9 j6;obtain⟨C1,C2,C3,R,s1,s2,s3,s4,s5⟩:=rest hg.out.1 hg.out.2.1 hx.out;have s6:(R:Int)/2^s=((R/2^s:Nat):Int):=by simp
              have s7:R/2^s=res:=by rw [s5,hg.out.2.2,Dv.two _ _ _ _ hg.out.1.ypos];exact hres.out
              rw [s7] at s6;clear s5 hx s7;go_wp2;go_ret2;exact⟨⟨_,ret_two rfl rfl⟩,.inl rfl⟩
            · have hx:Hid (p'*a+t'=V∧(V*4294967296+d0)/Y≤p'∧p'≤4294967297∧t'<4294967296):=j11;clear hI i1 i2 i3 i4 j11 j6;go_wp2;go_round
              case rel=>exact ⟨p',t',rfl,rfl,hx⟩
              case measure=>simp [intOf];omega
          case inr=>
            obtain⟨p',t',j7,j8,j9,⟨j10,j11⟩|⟨j10,j11⟩⟩:=turned hg.out.1 i1 i3 i4 j6
            · have hx:Hid (p'=(V*4294967296+d0)/Y):=j11;clear hI i1 i2 i3 i4 j11 j9 j6;obtain⟨C1,C2,C3,R,s1,s2,s3,s4,s5⟩:=rest hg.out.1 hg.out.2.1 hx.out;have s6:(R:Int)/2^s=((R/2^s:Nat):Int):=by simp
              have s7:R/2^s=res:=by rw [s5,hg.out.2.2,Dv.two _ _ _ _ hg.out.1.ypos];exact hres.out
              rw [s7] at s6;clear s5 hx s7;go_wp2;go_ret2;exact⟨⟨_,ret_two rfl rfl⟩,.inl rfl⟩
            · have hx:Hid (p'*a+t'=V∧(V*4294967296+d0)/Y≤p'∧p'≤4294967297∧t'<4294967296):=j11;clear hI i1 i2 i3 i4 j11 j6;go_wp2;go_round
              case rel=>exact ⟨p',t',rfl,rfl,hx⟩
              case measure=>simp [intOf];omega
      · have hx:Hid (p*a+t=U∧(U*4294967296+d1)/Y≤p∧p≤4294967297∧t<4294967296):=j11;clear hI i1 i2 i3 i4 j11 j6;go_wp2;go_round
        case rel=>exact ⟨p,t,rfl,rfl,hx⟩
        case measure=>simp [intOf];omega
theorem div_any (hi lo y:Nat)(w:World)(hh:hi<y)(hy:y<18446744073709551616)(hlo:lo<18446744073709551616):
    Calls prog 165 #[int u64 hi,int u64 lo,int u64 y] w fun e w'=>(∃z:Int,e= .returned (.tuple #[int u64 z,int u64 (((hi*18446744073709551616+lo)%y:Nat):Int)]))∧(w'=w∨w'=w.drew):=by
  by_cases h0:hi=0
  · subst h0;rw [Nat.zero_mul,Nat.zero_add];exact div_zero lo y w hh
  · exact div_more hi lo y w (by omega) hh hy hlo
end Go.Proofs.YtjhbckngdclleaaGreatDoor
