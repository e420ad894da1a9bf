import Derived.Test.YtjhbckngdclleaaGreatDoorMrg17
import Derived.Shelf.Strings.Repeat
import Derived.Laws.EntriesVeiled
set_option linter.unusedVariables false
set_option maxRecDepth 100000
set_option maxHeartbeats 16000000
namespace Go.Proofs.YtjhbckngdclleaaGreatDoor
open Go.Proofs.Tryz Go.RowKit
open Go.Value (int)
open Go.IntKind (u64)
section
open M
abbrev Tri:=Nat×Nat×Bool
noncomputable def asT (t:Tri):Pt:=asPt t.1 t.2.1 t.2.2
noncomputable def onT (t:Tri):Bool:=(toPt t.1 t.2.1 t.2.2).isSome
end
theorem lkb (a:ByteArray)(k:Nat)(h:k<a.size):lk (byt a) k=(a[k].toNat:Int):=by
  unfold lk byt;rw [List.getD_eq_getElem?_getD,List.getElem?_map,List.getElem?_eq_getElem (by simpa using h)];rfl
theorem xorB_set (a b:ByteArray)(k:Nat)(ha:k<a.size)(hb:k<b.size):
    ((xorB (byt a) (byt b)).take k++(byt a).drop k).set k ((a[k].toNat^^^b[k].toNat:Nat):Int)=(xorB (byt a) (byt b)).take (k+1)++(byt a).drop (k+1):=by
  have hl:((xorB (byt a) (byt b)).take k).length=k:=by rw [List.length_take,xorB_length,byt_length,byt_length];omega
  rw [List.drop_eq_getElem_cons (by rw [byt_length];exact ha),set_at _ _ _ _ _ hl,xorB_take a b k ha hb,←cons_snoc]
theorem xorT_any (a b:ByteArray)(w:World)(ha:a.size≤1000)(hab:a.size≤b.size):
    Cr 240 #[.string a,.string b] w (.string (strOfNums (xorB (byt a) (byt b)))):=by
  obtain⟨cap0,w1,hcv,hrow0,hbl0⟩:∃cap0 w1,(convert 9 35 (.string a)).run prog w= .ok (.slice (some ⟨w.heap.size,0,none⟩) a.size cap0) w1∧
      Row w1 w.heap.size w.heap.size a.size cap0 ((byt a).map (Value.int .u8))∧Bl w w1:=
    ⟨_,_,Lib.run_convert_string_bytes w 9 35 5 a underlying9 underlying35 underlying5,row_bytes w _ a w.heap.size (Nat.le_refl _) (by unfold maxLen;omega)⟩
  have hxl:(xorB (byt a) (byt b)).length=a.size:=by rw [xorB_length,byt_length,byt_length];omega
  have hset:=xorB_set a b;obtain⟨X,hX⟩:∃X,X=xorB (byt a) (byt b):=⟨_,rfl⟩;rw [←hX] at hxl hset⊢;go_enter func240,ntmps240;go_wp2
  go_loopw [6,11] (fun _ i wr=>∃k:Nat,k≤a.size∧i= .int .i64 (k:Int)∧Row wr w.heap.size w.heap.size a.size cap0 ((X.take k++(byt a).drop k).map (Value.int .u8))∧Bl w wr) (fun _ i _=>a.size-(intOf i).toNat)
  case atStart=>exact ⟨0,by omega,rfl,by simpa using hrow0,hbl0⟩
  case round=>
    clear hrow0 hbl0 hcv hX;obtain⟨k,hk,rfl,hrow,hbl⟩:=hrel;have hbk:=hrow.le;by_cases hlt:k<a.size
    · have hlt2:k<b.size:=by omega
      have hc:=hrow.cell k hlt
      have hlk:lk (X.take k++(byt a).drop k) k=(a[k].toNat:Int):=by
        rw [List.drop_eq_getElem_cons (by rw [byt_length];exact hlt),lk_mid _ _ _ _ (by rw [List.length_take];omega)];have:=lkb a k hlt;unfold lk at this;rw [List.getD_eq_getElem?_getD,List.getElem?_eq_getElem (by rw [byt_length];exact hlt)] at this;exact this
      rw [hlk] at hc;have hfz:=(hrow.room k (by omega)).2;have hst:=hset k hlt hlt2;have ex:=u8_xor_nat a[k].toNat b[k].toNat a[k].toNat_lt b[k].toNat_lt;have q0:(0:Int)≤(k:Int):=by omega
      have q1:(k:Int)<(a.size:Int):=by omega
      have q2:(k:Int)<(b.size:Int):=by omega
      generalize a[k].toNat=za at*;generalize hzz:za^^^b[k].toNat=z at*;clear hlk hset hzz;go_wp2
      go_region
      have R1:=(hrow.set k hlt (.int .u8 (z:Int))).drew;rw [←List.map_set,hst] at R1;have R2:=(hbl.setCell (p:=⟨w.heap.size,k,none⟩) (Nat.le_refl _) (.int .u8 (z:Int))).drew;clear hst ex hc hrow hbl;go_wp2;go_roundw
      case rel=>
        first
          |exact ⟨k+1,by omega,by go_num,R1,R2⟩
          |((repeat apply Exists.intro);exact⟨⟨k+1,by omega,by go_num,R1,R2⟩,rfl⟩)
      case measure=>simp [intOf];omega
    · obtain rfl:k=a.size:=by omega
      rw [List.take_of_length_le (by omega),List.drop_of_length_le (by rw [byt_length];omega),List.append_nil] at hrow;have hcv:=run_convert_bytes_arg (P:=prog) wr 35 5 underlying35 underlying5 w.heap.size 0 a.size cap0 X hxl (fun i h=>by rw [Nat.zero_add];exact hrow.cell i h) 9 underlying9;go_wp2;go_ret;exact⟨rfl,hbl⟩
section
open Go.Shelf
def renRepeat:Go.Shelf.Ren:=⟨fun|105=>238|212=>246|99=>247|165=>248|166=>155|170=>249|169=>156|263=>252|264=>164|206=>253|240=>187|241=>254|276=>225|277=>255|n=>n,fun|9=>9|3=>3|4=>4|20=>20|0=>0|46=>108|109=>326|5=>5|72=>239|76=>240|51=>177|146=>332|53=>22|148=>254|70=>237|37=>35|75=>76|127=>279|164=>299|80=>185|n=>n,fun|n=>n⟩
theorem laysRepeat:Go.Proofs.Lays.n105 prog renRepeat:={
  mixed:=by kernel_rfl
  f99:=func247.trans (congrArg some (by kernel_rfl))
  f105:=func238.trans (congrArg some (by kernel_rfl))
  f165:=func248.trans (congrArg some (by kernel_rfl))
  f166:=func155.trans (congrArg some (by kernel_rfl))
  f169:=func156.trans (congrArg some (by kernel_rfl))
  f170:=func249.trans (congrArg some (by kernel_rfl))
  f206:=func253.trans (congrArg some (by kernel_rfl))
  f212:=func246.trans (congrArg some (by kernel_rfl))
  f240:=func187.trans (congrArg some (by kernel_rfl))
  f241:=func254.trans (congrArg some (by kernel_rfl))
  f263:=func252.trans (congrArg some (by kernel_rfl))
  f264:=func164.trans (congrArg some (by kernel_rfl))
  f276:=func225.trans (congrArg some (by kernel_rfl))
  f277:=func255.trans (congrArg some (by kernel_rfl))
  t0:=underlying0
  a0:=Tryz.isAgg0
  z0:=Tryz.sizeOf0
  v0:=Tryz.zeroValue0
  t3:=underlying3
  a3:=Tryz.isAgg3
  z3:=Tryz.sizeOf3
  v3:=Tryz.zeroValue3
  t4:=underlying4
  a4:=Tryz.isAgg4
  z4:=Tryz.sizeOf4
  v4:=Tryz.zeroValue4
  t5:=underlying5
  a5:=Tryz.isAgg5
  z5:=Tryz.sizeOf5
  v5:=Tryz.zeroValue5
  t9:=underlying9
  a9:=Tryz.isAgg9
  z9:=Tryz.sizeOf9
  v9:=Tryz.zeroValue9
  t20:=underlying20
  a20:=Tryz.isAgg20
  z20:=Tryz.sizeOf20
  v20:=Tryz.zeroValue20
  t37:=underlying35
  a37:=Tryz.isAgg35
  z37:=Tryz.sizeOf35
  v37:=Tryz.zeroValue35
  t46:=underlying108
  a46:=Tryz.isAgg108
  z46:=Tryz.sizeOf108
  v46:=Tryz.zeroValue108
  t51:=underlying177
  a51:=Tryz.isAgg177
  z51:=Tryz.sizeOf177
  v51:=Tryz.zeroValue177
  t53:=underlying22
  a53:=Tryz.isAgg22
  z53:=Tryz.sizeOf22
  v53:=Tryz.zeroValue22
  t70:=underlying237
  a70:=Tryz.isAgg237
  z70:=Tryz.sizeOf237
  v70:=Tryz.zeroValue237
  t72:=underlying239
  a72:=Tryz.isAgg239
  z72:=Tryz.sizeOf239
  v72:=Tryz.zeroValue239
  t75:=underlying76
  a75:=Tryz.isAgg76
  z75:=Tryz.sizeOf76
  v75:=Tryz.zeroValue76
  t76:=underlying240
  a76:=Tryz.isAgg240
  z76:=Tryz.sizeOf240
  v76:=Tryz.zeroValue240
  t109:=underlying326
  a109:=Tryz.isAgg326
  z109:=Tryz.sizeOf326
  v109:=Tryz.zeroValue326
  t127:=underlying279
  a127:=Tryz.isAgg279
  z127:=Tryz.sizeOf279
  v127:=Tryz.zeroValue279
  t146:=underlying332
  a146:=Tryz.isAgg332
  z146:=Tryz.sizeOf332
  v146:=Tryz.zeroValue332
  t148:=underlying254
  a148:=Tryz.isAgg254
  z148:=Tryz.sizeOf254
  v148:=Tryz.zeroValue254
  t164:=underlying299
  a164:=Tryz.isAgg299
  z164:=Tryz.sizeOf299
  v164:=Tryz.zeroValue299}
theorem extraRepeat:Builder.Extra prog renRepeat:={
  sizeBuilder:=by kernel_rfl
  liesBuilder:=by kernel_rfl
  t5:=laysRepeat.t5
  a5:=laysRepeat.a5
  z5:=laysRepeat.z5
  v5:=laysRepeat.v5
  infoByte:=by kernel_rfl
  cellsByte:=by kernel_rfl
  sizeByte:=by kernel_rfl
  neB5:=by decide}
theorem eq64:(⟨(Lib.repeatL (⟨#[0]⟩:ByteArray).data.toList 64).toArray⟩:ByteArray)=strOfNums (List.replicate 64 0):=by kernel_rfl
theorem rep64 (w:World):Cr 238 #[.string ⟨#[0]⟩,.int .i64 64] w (.string (strOfNums (List.replicate 64 0))):=
  (Any.strings_Repeat laysRepeat extraRepeat ⟨#[0]⟩ 64 w (by decide) (by decide)).mono fun e w' ⟨h,h'⟩=>⟨h.trans (by rw [eq64]),h'⟩
theorem eq32:(⟨(Lib.repeatL (⟨#[0]⟩:ByteArray).data.toList 32).toArray⟩:ByteArray)=strOfNums (List.replicate 32 0):=by kernel_rfl
theorem rep32 (w:World):Cr 238 #[.string ⟨#[0]⟩,.int .i64 32] w (.string (strOfNums (List.replicate 32 0))):=
  (Any.strings_Repeat laysRepeat extraRepeat ⟨#[0]⟩ 32 w (by decide) (by decide)).mono fun e w' ⟨h,h'⟩=>⟨h.trans (by rw [eq32]),h'⟩
end
theorem cf_xor (args:Array Value)(w:World):(callFunc 240 args).run prog w= .ok (.enter 240 args) w:=by kernel_rfl
theorem cf_be (args:Array Value)(w:World):(callFunc 111 args).run prog w= .ok (.enter 111 args) w:=by kernel_rfl
theorem cf_hash (args:Array Value)(w:World):(callFunc 65 args).run prog w= .ok (.enter 65 args) w:=by kernel_rfl
theorem cf_rep (args:Array Value)(w:World):(callFunc 238 args).run prog w= .ok (.enter 238 args) w:=by kernel_rfl
theorem keepA {w1 w2:World}{p:Addr}{v:Value}(h:w1.cell? p=some v)(b:Bl w1 w2):w2.cell? p=some v:=
  (b.cell (p:=p) (World.block_lt_of_cell? w1 _ h)).trans h
theorem keepT {w1 w2:World}(h:TabK w1)(hg:6<w1.heap.size)(b:Bl w1 w2):TabK w2:=fun i hi=>(b.cell (p:=⟨6,i,none⟩) hg).trans (h i hi)
theorem str3 {w:World}{b:Nat}{t:TypeId}{x y z:ByteArray}(h:w.heap[b]? =some (.cells #[.string x,.string y,.string z] t))(i:Nat)(hi:i<3):w.cell? ⟨b,i,none⟩=some (.string ([x,y,z].getD i ByteArray.empty)):=by
  match i,hi with
  |0,_=>exact block_cell h rfl
  |1,_=>exact block_cell h rfl
  |2,_=>exact block_cell h rfl
theorem str5 {w:World}{b:Nat}{t:TypeId}{x y z u v:ByteArray}(h:w.heap[b]? =some (.cells #[.string x,.string y,.string z,.string u,.string v] t))(i:Nat)(hi:i<5):w.cell? ⟨b,i,none⟩=some (.string ([x,y,z,u,v].getD i ByteArray.empty)):=by
  match i,hi with
  |0,_=>exact block_cell h rfl
  |1,_=>exact block_cell h rfl
  |2,_=>exact block_cell h rfl
  |3,_=>exact block_cell h rfl
  |4,_=>exact block_cell h rfl
def R1c (W:World)(t:TypeId)(b:Nat)(v:Value):Prop:=W.heap[b]? =some (.cells #[v] t)
section
variable {W W':World}{t:TypeId}{b:Nat}{v:Value}
theorem R1c.cell (h:R1c W t b v):W.cell? ⟨b,0,none⟩=some v:=block_cell h rfl
theorem R1c.frz (h:R1c W t b v):W.frozen? ⟨b,0,none⟩=false:=by unfold R1c at h;simp [World.frozen?,h]
theorem R1c.lt (h:R1c W t b v):b<W.heap.size:=(Array.getElem?_eq_some_iff.1 h).1
theorem R1c.keep (h:R1c W t b v)(hb:Bl W W'):R1c W' t b v:=(hb.block b h.lt).trans h
theorem R1c.new (w:World)(t:TypeId)(v:Value):R1c (w.alloc (.cells #[v] t)) t w.heap.size v:=heap_alloc_new w _
theorem R1c.alloc (h:R1c W t b v)(o:Obj):R1c (W.alloc o) t b v:=(Below.heap_alloc W o b h.lt).trans h
theorem R1c.drew (h:R1c W t b v):R1c W.drew t b v:=h
theorem R1c.at {b':Nat}(h:R1c W t b v)(e:b=b'):R1c W t b' v:=e▸h
theorem R1c.set (h:R1c W t b v)(u:Value):R1c (W.setCell ⟨b,0,none⟩ u) t b u:=by
  unfold R1c at*;simp [World.setCell,Array.getElem?_modify,h]
theorem R1c.other {b':Nat}(h:R1c W t b v)(hne:b≠b')(i:Nat)(u:Value):R1c (W.setCell ⟨b',i,none⟩ u) t b v:=by
  unfold R1c at*;rw [←h];simp [World.setCell,Array.getElem?_modify,Ne.symm hne]
theorem R1c.ne {b':Nat}{t':TypeId}{v':Value}(h:R1c W t b v)(h':R1c W t' b' v')(hne:t≠t'):b≠b':=by
  rintro rfl;unfold R1c at h h';rw [h] at h';simp at h';exact hne h'.2
end
structure Cls (W:World)(bc bs bl be:Nat)(F Tl:List Int)(T:ByteArray)(k:Nat):Prop where
  c:R1c W 22 bc (int u64 (k:Int))
  s:R1c W 9 bs (.string (strOfNums F))
  l:R1c W 9 bl (.string (strOfNums (mBlk F Tl k)))
  e:R1c W 9 be (.string T)
theorem nextI (B bc bs bl be:Nat)(F Tl:List Int)(T:ByteArray)(k:Nat)(w:World)(hC:Cls w bc bs bl be F Tl T k)(hT0:TabK w)(hls:bl≠bs)(hle:bl≠be)(hgb:6<B)(hB1:B≤bc)(hB2:B≤bl)
    (hk:k<255)(hF:F.length=32)(hFb:∀x∈F,0≤x∧x<256)(hTb:byt T=Tl)(hTs:T.size≤256):
    Calls prog 239 #[.pointer (some ⟨bc,0,none⟩),.pointer (some ⟨bs,0,none⟩),.pointer (some ⟨bl,0,none⟩),.pointer (some ⟨be,0,none⟩)] w fun e w'=>
      e= .returned (.string (strOfNums (mBlk F Tl (k+1))))∧Cls w' bc bs bl be F Tl T (k+1)∧Below B w w'∧(∀b,b<w.heap.size→b≠bc→b≠bl→w'.heap[b]? =w.heap[b]?):=by
  have hbl:=mBlk_length F Tl k;have hxl:(xorB F (mBlk F Tl k)).length=32:=by rw [xorB_length];omega
  obtain⟨X,hX⟩:∃X,X=strOfNums (xorB F (mBlk F Tl k)):=⟨_,rfl⟩
  have XT:∀w,Cr 240 #[.string (strOfNums F),.string (strOfNums (mBlk F Tl k))] w (.string X):=fun w=>by
    have:=xorT_any (strOfNums F) (strOfNums (mBlk F Tl k)) w (by rw [strOfNums_size];omega) (by rw [strOfNums_size,strOfNums_size];omega);rwa [byt_str _ hFb,byt_str _ (mBlk_lt F Tl k),←hX] at this
  have BE:∀w,Cr 111 #[int u64 ((k:Int)+1),.int .i64 1] w (.string (strOfNums (beTo ((k:Int)+1) 1))):=fun w=>beI_any ((k:Int)+1) 1 w (by omega) (by omega) (by omega) (by omega)
  have hcat:shaF (catB [X,strOfNums (beTo ((k:Int)+1) 1),T])=mBlk F Tl (k+1):=by
    have hb:beTo ((k:Int)+1) 1= [(k:Int)+1]:=by
      simp only [beTo,Int.pow_zero,Int.ediv_one];rw [show ((k:Int)+1)%256=(k:Int)+1 by omega]
    simp only [catB,List.append_nil];rw [hX,hb,byt_str _ (xorB_lt _ _ hFb (mBlk_lt F Tl k)),byt_one k hk,hTb,mBlk,List.append_assoc]
  have HO:∀(g:Nat) (w:World),TabK w→(∀i,i<3→w.cell? ⟨g,i,none⟩=some (.string ([X,strOfNums (beTo ((k:Int)+1) 1),T].getD i ByteArray.empty)))→Cr 65 #[.slice (some ⟨g,0,none⟩) 3 3] w (.string (strOfNums (mBlk F Tl (k+1)))):=fun g w hTw hc=>by
    have:=hashOfI_any g 3 3 [X,strOfNums (beTo ((k:Int)+1) 1),T] w hTw (by rw [hX];simp only [sizeB,strOfNums_size,beTo_length];omega) rfl (by omega) (by omega) hc;rwa [hcat] at this
  have hgw:6<w.heap.size:=World.block_lt_of_cell? w _ (hT0 0 (by omega));have ew:IntKind.u64.wrap ((k:Int)+1)=(k:Int)+1:=by rw [IntKind.wrap_u64];omega
  obtain⟨hc,hs,hl,he⟩:=hC;have n1:bl≠bc:=hl.ne hc (by decide);have n2:bs≠bc:=hs.ne hc (by decide);have n3:be≠bc:=he.ne hc (by decide);have c0:=hc.cell;have f0:=hc.frz;have hc1:=hc.set (int u64 ((k:Int)+1));have hs1:=hs.other n2 0 (int u64 ((k:Int)+1));have hl1:=hl.other n1 0 (int u64 ((k:Int)+1));have he1:=he.other n3 0 (int u64 ((k:Int)+1));have hb1:Below B w (w.setCell ⟨bc,0,none⟩ (int u64 ((k:Int)+1))):=(Below.refl _ w).setCell (p:=⟨bc,0,none⟩) hB1 _;have ho1:∀b,b≠bc→(w.setCell ⟨bc,0,none⟩ (int u64 ((k:Int)+1))).heap[b]? =w.heap[b]? :=fun b hb=>by simp [World.setCell,Array.getElem?_modify,Ne.symm hb]
  have hz1:(w.setCell ⟨bc,0,none⟩ (int u64 ((k:Int)+1))).drew.heap.size=w.heap.size:=by simp [World.setCell]
  have hT:TabK (w.setCell ⟨bc,0,none⟩ (int u64 ((k:Int)+1))).drew:=fun i hi=>(hb1.cell (p:=⟨6,i,none⟩) hgb).trans (hT0 i hi)
  have hg:6<(w.setCell ⟨bc,0,none⟩ (int u64 ((k:Int)+1))).drew.heap.size:=Nat.lt_of_lt_of_le hgw hb1.size;have cs:=hs1.drew.cell;have cl:=hl1.drew.cell;have ce:=he1.drew.cell;have cc:=hc1.drew.cell;clear hc hs hl he hT0 hX hcat;go_enter func239,ntmps239;go_wp2
  refine pool_tail [.val (.string (strOfNums F)),
      .val (.string (strOfNums (mBlk F Tl k))),
      .val (.string X),
      .val (int u64 ((k:Int)+1)),
      .val (.string (strOfNums (beTo ((k:Int)+1) 1))),
      .val (.string T),
      .new (.cells #[.string X,.string (strOfNums (beTo ((k:Int)+1) 1)),.string T] 9) (.cells #[.string X,.string (strOfNums (beTo ((k:Int)+1) 1)),.string T] 9) 1003,
      .val (.string (strOfNums (mBlk F Tl (k+1)))),
      .val undef] [[1],[2],[7,8],[0],[10],[3],[9,11,12],[13],[2,14]] (fun f=> [(some 7,.string (strOfNums F)),(some 8,.string (strOfNums (mBlk F Tl k))),(some 9,.string X),(some 10,int u64 ((k:Int)+1)),(some 11,.string (strOfNums (beTo ((k:Int)+1) 1))),(some 12,.string T),(some 13,.slice (some ⟨f 6,0,none⟩) 3 3),(some 14,.string (strOfNums (mBlk F Tl (k+1))))]) (fun f=> [(2,.pointer (some ⟨bl,0,none⟩)),(14,.string (strOfNums (mBlk F Tl (k+1))))]) (by kernel_rfl) (by kernel_rfl) (by kernel_rfl) (by kernel_rfl) (by kernel_rfl) (fun _=>by kernel_rfl) ?_ rfl (fun _=>by kernel_rfl) ?_
  · intro ix hix
    match ix,hix with
    |0,_=>exact obv [(1,.pointer (some ⟨bs,0,none⟩))] rfl rfl (fun A w ⟨e0,_⟩ hB=>doS_loadS e0 (keepA cs hB))
    |1,_=>exact obv [(2,.pointer (some ⟨bl,0,none⟩))] rfl rfl (fun A w ⟨e0,_⟩ hB=>doS_loadS e0 (keepA cl hB))
    |2,_=>exact obv [(7,.string (strOfNums F)),(8,.string (strOfNums (mBlk F Tl k)))] rfl rfl (fun A w ⟨e0,e1,_⟩ hB=>doS_call2 cf_xor e0 e1 (XT w))
    |3,_=>exact obv [(0,.pointer (some ⟨bc,0,none⟩))] rfl rfl (fun A w ⟨e0,_⟩ hB=>doS_loadW e0 (keepA cc hB))
    |4,_=>exact obv [(10,int u64 ((k:Int)+1))] rfl rfl (fun A w ⟨e0,_⟩ hB=>doS_call2 cf_be e0 rfl (BE w))
    |5,_=>exact obv [(3,.pointer (some ⟨be,0,none⟩))] rfl rfl (fun A w ⟨e0,_⟩ hB=>doS_loadS e0 (keepA ce hB))
    |6,_=>exact ob_slc 3 [(9,.string X),(11,.string (strOfNums (beTo ((k:Int)+1) 1))),(12,.string T)] rfl rfl (fun _=>by kernel_rfl) (fun A w ⟨e0,e1,e2,_⟩=>doS_str3 e0 e1 e2)
    |7,_=>exact ob_use 13 6 1003 (.cells #[.string X,.string (strOfNums (beTo ((k:Int)+1) 1)),.string T] 9) (fun f=> [(13,.slice (some ⟨f 6,0,none⟩) 3 3)]) rfl rfl (by decide) (by kernel_rfl) rfl (fun _=>by kernel_rfl) (fun f A w ⟨e0,_⟩ hB hr=>doS_call1 cf_hash e0 (HO (f 6) w (keepT hT hg hB) (fun i h=>str3 hr i h)))
    |ix+8,h=>exact absurd h (by simp)
  rintro f A w3 ⟨e0,e1,_⟩ hB _;have hc3:=hc1.drew.keep hB;have hs3:=hs1.drew.keep hB;have hl3:=hl1.drew.keep hB;have he3:=he1.drew.keep hB;have hb3:Below B w w3:=(hb1.drew).trans (hB.mono (Nat.le_of_lt (Nat.lt_of_le_of_lt hB2 hl1.lt)));refine does_skip (execS_storeS e0 e1 hl3.cell hl3.frz) ?_;simp only [puts,List.foldl,Act.put,List.setIfInBounds_toArray,List.set_cons_zero,List.set_cons_succ];have hl4:=hl3.set (.string (strOfNums (mBlk F Tl (k+1))));have R:Cls (w3.setCell ⟨bl,0,none⟩ (.string (strOfNums (mBlk F Tl (k+1))))) bc bs bl be F Tl T (k+1):=⟨hc3.other (Ne.symm n1) 0 _,hs3.other (Ne.symm hls) 0 _,hl4,he3.other (Ne.symm hle) 0 _⟩;have hb4:=hb3.setCell (p:=⟨bl,0,none⟩) hB2 (.string (strOfNums (mBlk F Tl (k+1))))
  have ho4:∀b,b<w.heap.size→b≠bc→b≠bl→(w3.setCell ⟨bl,0,none⟩ (.string (strOfNums (mBlk F Tl (k+1))))).heap[b]? =w.heap[b]? :=fun b h1 h2 h3=>by
    have e1:(w3.setCell ⟨bl,0,none⟩ (.string (strOfNums (mBlk F Tl (k+1))))).heap[b]? =w3.heap[b]? :=by simp [World.setCell,Array.getElem?_modify,Ne.symm h3]
    rw [e1,hB.block b (by rw [hz1];exact h1)];exact ho1 b h2
  have c4:=hl4.cell;clear hc3 hs3 hl3 he3 hb3 cs cl ce cc c0 f0;go_wp2;go_ret;exact⟨rfl,R,hb4,ho4⟩
theorem blocksI (msg tag:ByteArray)(n:Nat)(w:World)(hT0:TabK w)(h1:1≤tag.size)(h2:tag.size≤255)(h3:n≤8160)(h4:msg.size≤65535):
    Calls prog 227 #[.string msg,.string tag,.int .i64 n] w fun e w'=>∃(bc bs bl be:Nat) (T:ByteArray),e= .returned (.func (.func 239) #[] #[.pointer (some ⟨bc,0,none⟩),.pointer (some ⟨bs,0,none⟩),.pointer (some ⟨bl,0,none⟩),.pointer (some ⟨be,0,none⟩)])∧
      Cls w' bc bs bl be (mFirst (byt msg) (byt tag) n) (mTag (byt tag)) T 0∧byt T=mTag (byt tag)∧T.size≤256∧bl≠bs∧bl≠be∧w.heap.size≤bc∧w.heap.size≤bl∧Bl w w':=by
  have hgw:6<w.heap.size:=World.block_lt_of_cell? w _ (hT0 0 (by omega))
  have hbe1:beTo (tag.size:Int) 1= [(tag.size:Int)]:=by
    simp only [beTo,Int.pow_zero,Int.ediv_one];rw [show (tag.size:Int)%256=(tag.size:Int) by omega]
  have hbe2:beTo (n:Int) 2= [((n/256:Nat):Int),((n%256:Nat):Int)]:=by
    simp only [beTo,Int.pow_zero,Int.ediv_one,Int.pow_one];rw [show (n:Int)/256%256=((n/256:Nat):Int) by omega,show (n:Int)%256=((n%256:Nat):Int) by omega]
  obtain⟨T1,hT1⟩:∃T1,T1=strOfNums (beTo (tag.size:Int) 1):=⟨_,rfl⟩;have hT1s:T1.size=1:=by rw [hT1,strOfNums_size,beTo_length]
  have hTb:byt (tag++T1)=mTag (byt tag):=by
    rw [hT1,byt_append,hbe1,mTag,byt_length,byt_str _ (fun x hx=>by simp at hx;omega)]
  have hTs:(tag++T1).size≤256:=by rw [ByteArray.size_append];omega
  have B1:∀w,Cr 111 #[int u64 (tag.size:Int),.int .i64 1] w (.string T1):=fun w=>hT1▸beI_any (tag.size:Int) 1 w (by omega) (by omega) (by omega) (by omega)
  obtain⟨N2,hN2⟩:∃N2,N2=strOfNums (beTo (n:Int) 2):=⟨_,rfl⟩;have B2:∀w,Cr 111 #[int u64 (n:Int),.int .i64 2] w (.string N2):=fun w=>hN2▸beI_any (n:Int) 2 w (by omega) (by omega) (by omega) (by omega)
  obtain⟨Z,hZ⟩:∃Z,Z=strOfNums (List.replicate 64 0):=⟨_,rfl⟩;have Z64:∀w,Cr 238 #[.string ⟨#[0]⟩,.int .i64 64] w (.string Z):=fun w=>hZ▸rep64 w
  obtain⟨F,hF⟩:∃F,F=mFirst (byt msg) (byt tag) n:=⟨_,rfl⟩;rw [←hF]
  have hcat:shaF (catB [Z,msg,N2,⟨#[0]⟩,tag++T1])=F:=by
    simp only [catB,List.append_nil];rw [hF,mFirst,hZ,hN2,hTb,hbe2,byt_str _ (rep_lt 64),byt_str _ (fun x hx=>by simp at hx;omega),show byt ⟨#[0]⟩= [0] from rfl];simp only [List.append_assoc,List.cons_append,List.nil_append]
  have HO:∀(g:Nat) (w:World),TabK w→(∀i,i<5→w.cell? ⟨g,i,none⟩=some (.string ([Z,msg,N2,⟨#[0]⟩,tag++T1].getD i ByteArray.empty)))→Cr 65 #[.slice (some ⟨g,0,none⟩) 5 5] w (.string (strOfNums F)):=fun g w hTw hc=>by
    have:=hashOfI_any g 5 5 [Z,msg,N2,⟨#[0]⟩,tag++T1] w hTw (by rw [hZ,hN2];simp only [sizeB,strOfNums_size,beTo_length,List.length_replicate,show (⟨#[0]⟩:ByteArray).size=1 from rfl];omega) rfl (by omega) (by omega) hc;rwa [hcat] at this
  have e64:IntKind.u64.wrap (n:Int)=(n:Int):=by rw [IntKind.wrap_u64];omega
  have e64t:IntKind.u64.wrap (tag.size:Int)=(tag.size:Int):=by rw [IntKind.wrap_u64];omega
  clear hcat hbe1 hbe2 hZ hN2 hF hT1;go_enter func227,ntmps227;go_wp2_with fail;refine(B1 _).mono ?_;rintro e w1 ⟨rfl,b1⟩;go_wp2;generalize hTT:tag++T1=T at*;have hTr:R1c (w1.alloc (.cells #[.string T] 9)) 9 w1.heap.size (.string T):=R1c.new w1 _ _;have hb1:Bl w (w1.alloc (.cells #[.string T] 9)):=b1.alloc b1.size _;have hl1:(w1.alloc (.cells #[.string T] 9)).heap.size=w1.heap.size+1:=by simp
  have hw1:=b1.size;generalize w1.alloc (.cells #[.string T] 9)=W1 at*;generalize w1.heap.size=q7 at*;have hT:TabK W1.drew:=fun i hi=>(hb1.cell (p:=⟨6,i,none⟩) hgw).trans (hT0 i hi)
  have hg:6<W1.drew.heap.size:=Nat.lt_of_lt_of_le hgw hb1.size;have c7:=hTr.drew.cell;clear B1 hTT b1 hT0 e64t
  refine pool_list [.val (.string Z),
      .val (.string msg),
      .val (.int .i64 n),
      .val (int u64 n),
      .val (.string N2),
      .val (.string T),
      .new (.cells #[.string Z,.string msg,.string N2,.string ⟨#[0]⟩,.string T] 9) (.cells #[.string Z,.string msg,.string N2,.string ⟨#[0]⟩,.string T] 9) 1005,
      .val (.string (strOfNums F)),
      .new (.cells #[.string ⟨#[]⟩] 9) (.cells #[.string (strOfNums F)] 9) 9,
      .put 8] [[],[0],[2],[19],[20],[7],[17,18,21,22],[23],[],[8,24]] (fun f=> [(some 17,.string Z),(some 18,.string msg),(some 19,.int .i64 n),(some 20,int u64 n),(some 21,.string N2),(some 22,.string T),(some 23,.slice (some ⟨f 6,0,none⟩) 5 5),(some 24,.string (strOfNums F)),(some 8,.pointer (some ⟨f 8,0,none⟩)),(none,undef)]) (by kernel_rfl) (by kernel_rfl) (by kernel_rfl) (by kernel_rfl) (fun _=>by kernel_rfl) ?_ ?_
  · intro ix hix
    match ix,hix with
    |0,_=>exact obv [] rfl rfl (fun A w _ hB=>doS_call2 cf_rep rfl rfl (Z64 w))
    |1,_=>exact obv [(0,.string msg)] rfl rfl (fun A w ⟨e0,_⟩ hB=>doS_move e0)
    |2,_=>exact obv [(2,.int .i64 n)] rfl rfl (fun A w ⟨e0,_⟩ hB=>doS_move e0)
    |3,_=>exact obv [(19,.int .i64 n)] rfl rfl (fun A w ⟨e0,_⟩ hB=>doS_c64 e0 e64)
    |4,_=>exact obv [(20,int u64 n)] rfl rfl (fun A w ⟨e0,_⟩ hB=>doS_call2 cf_be e0 rfl (B2 w))
    |5,_=>exact obv [(7,.pointer (some ⟨q7,0,none⟩))] rfl rfl (fun A w ⟨e0,_⟩ hB=>doS_loadS e0 (keepA c7 hB))
    |6,_=>exact ob_slc 5 [(17,.string Z),(18,.string msg),(21,.string N2),(22,.string T)] rfl rfl (fun _=>by kernel_rfl) (fun A w ⟨e0,e1,e2,e3,_⟩=>doS_str5 e0 e1 e2 rfl e3)
    |7,_=>exact ob_use 23 6 1005 (.cells #[.string Z,.string msg,.string N2,.string ⟨#[0]⟩,.string T] 9) (fun f=> [(23,.slice (some ⟨f 6,0,none⟩) 5 5)]) rfl rfl (by decide) (by kernel_rfl) rfl (fun _=>by kernel_rfl) (fun f A w ⟨e0,_⟩ hB hr=>doS_call1 cf_hash e0 (HO (f 6) w (keepT hT hg hB) (fun i h=>str5 hr i h)))
    |8,_=>exact ob_new rfl rfl (fun A w=>doS_new)
    |9,_=>exact ob_put 8 (fun f=> [(8,.pointer (some ⟨f 8,0,none⟩)),(24,.string (strOfNums F))]) rfl rfl rfl (by decide) (by kernel_rfl) rfl (fun _=>by kernel_rfl) (fun f A w ⟨e0,e1,_⟩ hr=>doS_put e0 e1 hr)
    |ix+10,h=>exact absurd h (by simp)
  intro f w2 hB hN _;have n8:=hN 8 _ _ _ rfl (by simp);rw [if_pos (by simp)] at n8;replace hTr:=hTr.drew.keep hB;replace hb1:=hb1.drew.trans (hB.mono hb1.size);have l2:=hB.size;simp only [puts,List.foldl,Act.put,List.setIfInBounds_toArray,List.set_cons_zero,List.set_cons_succ];obtain⟨l8,n8⟩:=n8;replace n8:R1c w2 9 (f 8) (.string (strOfNums F)):=n8;have l8':=n8.lt;generalize f 8=q8 at*;clear hN hB hT hg c7 HO B2 Z64;go_wp2_with fail;refine(rep32 _).mono ?_;rintro e w3 ⟨rfl,b3⟩;replace hTr:=hTr.keep b3;replace n8:=n8.keep b3;replace hb1:=hb1.tr b3;have l3:=b3.size;clear b3;go_wp2;go_ret;refine⟨w3.heap.size+1,q8,w3.heap.size,q7,T,rfl,⟨(R1c.new _ _ _).at (by simp),(n8.alloc _).alloc _,(R1c.new w3 _ _).alloc _,(hTr.alloc _).alloc _⟩,hTb,hTs,by omega,?_,by have:=hb1.size;omega,hb1.size,(hb1.alloc hb1.size _).alloc (by have:=hb1.size;simp;omega) _⟩
  · have:=hTr.lt;omega
end Go.Proofs.YtjhbckngdclleaaGreatDoor
