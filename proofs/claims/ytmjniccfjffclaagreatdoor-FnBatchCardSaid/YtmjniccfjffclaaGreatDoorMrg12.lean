import Derived.Test.YtmjniccfjffclaaGreatDoorMrg11
import Derived.Test.YtmjniccfjffclaaGreatDoorMrg6
import Derived.Laws.EntriesVeiled
set_option linter.unusedVariables false
set_option maxRecDepth 100000
set_option maxHeartbeats 16000000
namespace Go.Proofs.YtmjniccfjffclaaGreatDoor
open Go.Proofs.Tryz Go.RowKit
open Go.Value (int)
open Go.IntKind (u64)
theorem h2sS_yes (msg tag:ByteArray)(w:World)(h:okT msg tag):
    Cr 105 #[.string msg,.string tag] w (.tuple #[int u64 (hNum msg tag 2305843010818082053 1 0:Nat),.bool true]):=by
  have X:∀w,Calls prog 124 #[.string msg,.string tag,int u64 2305843010818082053,.int .i64 1] w fun e w'=>∃g cap,e= .returned (.tuple #[.slice (some ⟨g,0,none⟩) 1 cap,.bool true])∧Row w' w.heap.size g 1 cap ((h2f (byt msg) (byt tag) 2305843010818082053 1).map (Value.int .u64))∧Bl w w':=
    fun w=>h2fS_yes msg tag 2305843010818082053 1 w (by decide) ((okT_H (by decide) (by decide) (by decide)).1 h)
  have hz:=h2f_at msg tag 2305843010818082053 1 0 (by omega);generalize ((hNum msg tag 2305843010818082053 1 0:Nat):Int)=z at*;go_enter func105,ntmps105;go_wp2_with fail;refine(X _).mono ?_;rintro e W1 ⟨g,cap,rfl,hr,hb⟩;have hc:=hr.cell 0 (by omega);rw [hz] at hc;clear X hz;go_wp2;go_ret2;exact⟨rfl,hb⟩
theorem h2sS_no (msg tag:ByteArray)(w:World)(h: ¬ okT msg tag):
    Cr 105 #[.string msg,.string tag] w (.tuple #[int u64 0,.bool false]):=by
  have X:∀w,Calls prog 124 #[.string msg,.string tag,int u64 2305843010818082053,.int .i64 1] w fun e w'=>∃g cap,e= .returned (.tuple #[.slice (some ⟨g,0,none⟩) 0 cap,.bool false])∧Row w' w.heap.size g 0 cap []∧Bl w w':=
    fun w=>h2fS_no msg tag 2305843010818082053 1 w (fun hh=>h ((okT_H (by decide) (by decide) (by decide)).2 hh))
  go_enter func105,ntmps105;go_wp2_with fail;refine(X _).mono ?_;rintro e W1 ⟨g,cap,rfl,hr,hb⟩;clear X;go_wp2;go_ret2;exact⟨rfl,hb⟩
theorem lkb (a:ByteArray)(k:Nat)(h:k<a.size):lk (byt a) k=(a[k].toNat:Int):=by
  unfold lk byt;rw [List.getD_eq_getElem?_getD,List.getElem?_map,List.getElem?_eq_getElem (by simpa using h)];rfl
theorem xorB_set (a b:ByteArray)(k:Nat)(ha:k<a.size)(hb:k<b.size):
    ((xorB (byt a) (byt b)).take k++(byt a).drop k).set k ((a[k].toNat^^^b[k].toNat:Nat):Int)=(xorB (byt a) (byt b)).take (k+1)++(byt a).drop (k+1):=by
  have hl:((xorB (byt a) (byt b)).take k).length=k:=by rw [List.length_take,xorB_length,byt_length,byt_length];omega
  rw [List.drop_eq_getElem_cons (by rw [byt_length];exact ha),set_at _ _ _ _ _ hl,xorB_take a b k ha hb,←cons_snoc]
theorem xorT_any (a b:ByteArray)(w:World)(ha:a.size≤1000)(hab:a.size≤b.size):
    Cr 198 #[.string a,.string b] w (.string (strOfNums (xorB (byt a) (byt b)))):=by
  obtain⟨cap0,w1,hcv,hrow0,hbl0⟩:∃cap0 w1,(convert 9 22 (.string a)).run prog w= .ok (.slice (some ⟨w.heap.size,0,none⟩) a.size cap0) w1∧
      Row w1 w.heap.size w.heap.size a.size cap0 ((byt a).map (Value.int .u8))∧Bl w w1:=
    ⟨_,_,Lib.run_convert_string_bytes w 9 22 5 a underlying9 underlying22 underlying5,row_bytes w _ a w.heap.size (Nat.le_refl _) (by unfold maxLen;omega)⟩
  have hxl:(xorB (byt a) (byt b)).length=a.size:=by rw [xorB_length,byt_length,byt_length];omega
  have hset:=xorB_set a b;obtain⟨X,hX⟩:∃X,X=xorB (byt a) (byt b):=⟨_,rfl⟩;rw [←hX] at hxl hset⊢;go_enter func198,ntmps198;go_wp2
  go_loopw [6,11] (fun _ i wr=>∃k:Nat,k≤a.size∧i= .int .i64 (k:Int)∧Row wr w.heap.size w.heap.size a.size cap0 ((X.take k++(byt a).drop k).map (Value.int .u8))∧Bl w wr) (fun _ i _=>a.size-(intOf i).toNat)
  case atStart=>exact ⟨0,by omega,rfl,by simpa using hrow0,hbl0⟩
  case round=>
    clear hrow0 hbl0 hcv hX;obtain⟨k,hk,rfl,hrow,hbl⟩:=hrel;have hbk:=hrow.le;by_cases hlt:k<a.size
    · have hlt2:k<b.size:=by omega
      have hc:=hrow.cell k hlt
      have hlk:lk (X.take k++(byt a).drop k) k=(a[k].toNat:Int):=by
        rw [List.drop_eq_getElem_cons (by rw [byt_length];exact hlt),lk_mid _ _ _ _ (by rw [List.length_take];omega)];have:=lkb a k hlt;unfold lk at this;rw [List.getD_eq_getElem?_getD,List.getElem?_eq_getElem (by rw [byt_length];exact hlt)] at this;exact this
      rw [hlk] at hc;have hfz:=(hrow.room k (by omega)).2;have hst:=hset k hlt hlt2;have ex:=u8_xor_nat a[k].toNat b[k].toNat a[k].toNat_lt b[k].toNat_lt;have q0:(0:Int)≤(k:Int):=by omega
      have q1:(k:Int)<(a.size:Int):=by omega
      have q2:(k:Int)<(b.size:Int):=by omega
      generalize a[k].toNat=za at*;generalize hzz:za^^^b[k].toNat=z at*;clear hlk hset hzz;go_wp2
      go_region
      have R1:=(hrow.set k hlt (.int .u8 (z:Int))).drew;rw [←List.map_set,hst] at R1;have R2:=(hbl.setCell (p:=⟨w.heap.size,k,none⟩) (Nat.le_refl _) (.int .u8 (z:Int))).drew;clear hst ex hc hrow hbl;go_wp2;go_roundw
      case rel=>
        first
          |exact ⟨k+1,by omega,by go_num,R1,R2⟩
          |((repeat apply Exists.intro);exact⟨⟨k+1,by omega,by go_num,R1,R2⟩,rfl⟩)
      case measure=>simp [intOf];omega
    · obtain rfl:k=a.size:=by omega
      rw [List.take_of_length_le (by omega),List.drop_of_length_le (by rw [byt_length];omega),List.append_nil] at hrow;have hcv:=run_convert_bytes_arg (P:=prog) wr 22 5 underlying22 underlying5 w.heap.size 0 a.size cap0 X hxl (fun i h=>by rw [Nat.zero_add];exact hrow.cell i h) 9 underlying9;go_wp2;go_ret;exact⟨rfl,hbl⟩
theorem cf_xor (args:Array Value)(w:World):(callFunc 198 args).run prog w= .ok (.enter 198 args) w:=by kernel_rfl
theorem cf_be (args:Array Value)(w:World):(callFunc 183 args).run prog w= .ok (.enter 183 args) w:=by kernel_rfl
theorem cf_hash (args:Array Value)(w:World):(callFunc 130 args).run prog w= .ok (.enter 130 args) w:=by kernel_rfl
theorem cf_rep (args:Array Value)(w:World):(callFunc 196 args).run prog w= .ok (.enter 196 args) w:=by kernel_rfl
theorem keepA {w1 w2:World}{p:Addr}{v:Value}(h:w1.cell? p=some v)(b:Bl w1 w2):w2.cell? p=some v:=
  (b.cell (p:=p) (World.block_lt_of_cell? w1 _ h)).trans h
theorem keepT {w1 w2:World}(h:TabK w1)(hg:7<w1.heap.size)(b:Bl w1 w2):TabK w2:=fun i hi=>(b.cell (p:=⟨7,i,none⟩) hg).trans (h i hi)
theorem str3 {w:World}{b:Nat}{t:TypeId}{x y z:ByteArray}(h:w.heap[b]? =some (.cells #[.string x,.string y,.string z] t))(i:Nat)(hi:i<3):w.cell? ⟨b,i,none⟩=some (.string ([x,y,z].getD i ByteArray.empty)):=by
  match i,hi with
  |0,_=>exact block_cell h rfl
  |1,_=>exact block_cell h rfl
  |2,_=>exact block_cell h rfl
theorem str5 {w:World}{b:Nat}{t:TypeId}{x y z u v:ByteArray}(h:w.heap[b]? =some (.cells #[.string x,.string y,.string z,.string u,.string v] t))(i:Nat)(hi:i<5):w.cell? ⟨b,i,none⟩=some (.string ([x,y,z,u,v].getD i ByteArray.empty)):=by
  match i,hi with
  |0,_=>exact block_cell h rfl
  |1,_=>exact block_cell h rfl
  |2,_=>exact block_cell h rfl
  |3,_=>exact block_cell h rfl
  |4,_=>exact block_cell h rfl
def R1c (W:World)(t:TypeId)(b:Nat)(v:Value):Prop:=W.heap[b]? =some (.cells #[v] t)
section
variable {W W':World}{t:TypeId}{b:Nat}{v:Value}
theorem R1c.cell (h:R1c W t b v):W.cell? ⟨b,0,none⟩=some v:=block_cell h rfl
theorem R1c.frz (h:R1c W t b v):W.frozen? ⟨b,0,none⟩=false:=by unfold R1c at h;simp [World.frozen?,h]
theorem R1c.lt (h:R1c W t b v):b<W.heap.size:=(Array.getElem?_eq_some_iff.1 h).1
theorem R1c.keep (h:R1c W t b v)(hb:Bl W W'):R1c W' t b v:=(hb.block b h.lt).trans h
theorem R1c.new (w:World)(t:TypeId)(v:Value):R1c (w.alloc (.cells #[v] t)) t w.heap.size v:=heap_alloc_new w _
theorem R1c.alloc (h:R1c W t b v)(o:Obj):R1c (W.alloc o) t b v:=(Below.heap_alloc W o b h.lt).trans h
theorem R1c.drew (h:R1c W t b v):R1c W.drew t b v:=h
theorem R1c.at {b':Nat}(h:R1c W t b v)(e:b=b'):R1c W t b' v:=e▸h
theorem R1c.set (h:R1c W t b v)(u:Value):R1c (W.setCell ⟨b,0,none⟩ u) t b u:=by
  unfold R1c at*;simp [World.setCell,Array.getElem?_modify,h]
theorem R1c.other {b':Nat}(h:R1c W t b v)(hne:b≠b')(i:Nat)(u:Value):R1c (W.setCell ⟨b',i,none⟩ u) t b v:=by
  unfold R1c at*;rw [←h];simp [World.setCell,Array.getElem?_modify,Ne.symm hne]
theorem R1c.ne {b':Nat}{t':TypeId}{v':Value}(h:R1c W t b v)(h':R1c W t' b' v')(hne:t≠t'):b≠b':=by
  rintro rfl;unfold R1c at h h';rw [h] at h';simp at h';exact hne h'.2
end
structure Cls (W:World)(bc bs bl be:Nat)(F Tl:List Int)(T:ByteArray)(k:Nat):Prop where
  c:R1c W 23 bc (int u64 (k:Int))
  s:R1c W 9 bs (.string (strOfNums F))
  l:R1c W 9 bl (.string (strOfNums (mBlk F Tl k)))
  e:R1c W 9 be (.string T)
theorem nextI (B bc bs bl be:Nat)(F Tl:List Int)(T:ByteArray)(k:Nat)(w:World)(hC:Cls w bc bs bl be F Tl T k)(hT0:TabK w)(hls:bl≠bs)(hle:bl≠be)(hgb:7<B)(hB1:B≤bc)(hB2:B≤bl)
    (hk:k<255)(hF:F.length=32)(hFb:∀x∈F,0≤x∧x<256)(hTb:byt T=Tl)(hTs:T.size≤256):
    Calls prog 197 #[.pointer (some ⟨bc,0,none⟩),.pointer (some ⟨bs,0,none⟩),.pointer (some ⟨bl,0,none⟩),.pointer (some ⟨be,0,none⟩)] w fun e w'=>
      e= .returned (.string (strOfNums (mBlk F Tl (k+1))))∧Cls w' bc bs bl be F Tl T (k+1)∧Below B w w'∧(∀b,b<w.heap.size→b≠bc→b≠bl→w'.heap[b]? =w.heap[b]?):=by
  have hbl:=mBlk_length F Tl k;have hxl:(xorB F (mBlk F Tl k)).length=32:=by rw [xorB_length];omega
  obtain⟨X,hX⟩:∃X,X=strOfNums (xorB F (mBlk F Tl k)):=⟨_,rfl⟩
  have XT:∀w,Cr 198 #[.string (strOfNums F),.string (strOfNums (mBlk F Tl k))] w (.string X):=fun w=>by
    have:=xorT_any (strOfNums F) (strOfNums (mBlk F Tl k)) w (by rw [strOfNums_size];omega) (by rw [strOfNums_size,strOfNums_size];omega);rwa [byt_str _ hFb,byt_str _ (mBlk_lt F Tl k),←hX] at this
  have BE:∀w,Cr 183 #[int u64 ((k:Int)+1),.int .i64 1] w (.string (strOfNums (beTo ((k:Int)+1) 1))):=fun w=>beI_any ((k:Int)+1) 1 w (by omega) (by omega) (by omega) (by omega)
  have hcat:shaF (catB [X,strOfNums (beTo ((k:Int)+1) 1),T])=mBlk F Tl (k+1):=by
    have hb:beTo ((k:Int)+1) 1= [(k:Int)+1]:=by
      simp only [beTo,Int.pow_zero,Int.ediv_one];rw [show ((k:Int)+1)%256=(k:Int)+1 by omega]
    simp only [catB,List.append_nil];rw [hX,hb,byt_str _ (xorB_lt _ _ hFb (mBlk_lt F Tl k)),byt_one k hk,hTb,mBlk,List.append_assoc]
  have HO:∀(g:Nat) (w:World),TabK w→(∀i,i<3→w.cell? ⟨g,i,none⟩=some (.string ([X,strOfNums (beTo ((k:Int)+1) 1),T].getD i ByteArray.empty)))→Cr 130 #[.slice (some ⟨g,0,none⟩) 3 3] w (.string (strOfNums (mBlk F Tl (k+1)))):=fun g w hTw hc=>by
    have:=hashOfI_any g 3 3 [X,strOfNums (beTo ((k:Int)+1) 1),T] w hTw (by rw [hX];simp only [sizeB,strOfNums_size,beTo_length];omega) rfl (by omega) (by omega) hc;rwa [hcat] at this
  have hgw:7<w.heap.size:=World.block_lt_of_cell? w _ (hT0 0 (by omega));have ew:IntKind.u64.wrap ((k:Int)+1)=(k:Int)+1:=by rw [IntKind.wrap_u64];omega
  obtain⟨hc,hs,hl,he⟩:=hC;have n1:bl≠bc:=hl.ne hc (by decide);have n2:bs≠bc:=hs.ne hc (by decide);have n3:be≠bc:=he.ne hc (by decide);have c0:=hc.cell;have f0:=hc.frz;have hc1:=hc.set (int u64 ((k:Int)+1));have hs1:=hs.other n2 0 (int u64 ((k:Int)+1));have hl1:=hl.other n1 0 (int u64 ((k:Int)+1));have he1:=he.other n3 0 (int u64 ((k:Int)+1));have hb1:Below B w (w.setCell ⟨bc,0,none⟩ (int u64 ((k:Int)+1))):=(Below.refl _ w).setCell (p:=⟨bc,0,none⟩) hB1 _;have ho1:∀b,b≠bc→(w.setCell ⟨bc,0,none⟩ (int u64 ((k:Int)+1))).heap[b]? =w.heap[b]? :=fun b hb=>by simp [World.setCell,Array.getElem?_modify,Ne.symm hb]
  have hz1:(w.setCell ⟨bc,0,none⟩ (int u64 ((k:Int)+1))).drew.heap.size=w.heap.size:=by simp [World.setCell]
  have hT:TabK (w.setCell ⟨bc,0,none⟩ (int u64 ((k:Int)+1))).drew:=fun i hi=>(hb1.cell (p:=⟨7,i,none⟩) hgb).trans (hT0 i hi)
  have hg:7<(w.setCell ⟨bc,0,none⟩ (int u64 ((k:Int)+1))).drew.heap.size:=Nat.lt_of_lt_of_le hgw hb1.size;have cs:=hs1.drew.cell;have cl:=hl1.drew.cell;have ce:=he1.drew.cell;have cc:=hc1.drew.cell;clear hc hs hl he hT0 hX hcat;go_enter func197,ntmps197;go_wp2
  refine pool_tail [.val (.string (strOfNums F)),
      .val (.string (strOfNums (mBlk F Tl k))),
      .val (.string X),
      .val (int u64 ((k:Int)+1)),
      .val (.string (strOfNums (beTo ((k:Int)+1) 1))),
      .val (.string T),
      .new (.cells #[.string X,.string (strOfNums (beTo ((k:Int)+1) 1)),.string T] 9) (.cells #[.string X,.string (strOfNums (beTo ((k:Int)+1) 1)),.string T] 9) 1003,
      .val (.string (strOfNums (mBlk F Tl (k+1)))),
      .val undef] [[1],[2],[7,8],[0],[10],[3],[9,11,12],[13],[2,14]] (fun f=> [(some 7,.string (strOfNums F)),(some 8,.string (strOfNums (mBlk F Tl k))),(some 9,.string X),(some 10,int u64 ((k:Int)+1)),(some 11,.string (strOfNums (beTo ((k:Int)+1) 1))),(some 12,.string T),(some 13,.slice (some ⟨f 6,0,none⟩) 3 3),(some 14,.string (strOfNums (mBlk F Tl (k+1))))]) (fun f=> [(2,.pointer (some ⟨bl,0,none⟩)),(14,.string (strOfNums (mBlk F Tl (k+1))))]) (by kernel_rfl) (by kernel_rfl) (by kernel_rfl) (by kernel_rfl) (by kernel_rfl) (fun _=>by kernel_rfl) ?_ rfl (fun _=>by kernel_rfl) ?_
  · intro ix hix
    match ix,hix with
    |0,_=>exact obv [(1,.pointer (some ⟨bs,0,none⟩))] rfl rfl (fun A w ⟨e0,_⟩ hB=>doS_loadS e0 (keepA cs hB))
    |1,_=>exact obv [(2,.pointer (some ⟨bl,0,none⟩))] rfl rfl (fun A w ⟨e0,_⟩ hB=>doS_loadS e0 (keepA cl hB))
    |2,_=>exact obv [(7,.string (strOfNums F)),(8,.string (strOfNums (mBlk F Tl k)))] rfl rfl (fun A w ⟨e0,e1,_⟩ hB=>doS_call2 cf_xor e0 e1 (XT w))
    |3,_=>exact obv [(0,.pointer (some ⟨bc,0,none⟩))] rfl rfl (fun A w ⟨e0,_⟩ hB=>doS_loadW e0 (keepA cc hB))
    |4,_=>exact obv [(10,int u64 ((k:Int)+1))] rfl rfl (fun A w ⟨e0,_⟩ hB=>doS_call2 cf_be e0 rfl (BE w))
    |5,_=>exact obv [(3,.pointer (some ⟨be,0,none⟩))] rfl rfl (fun A w ⟨e0,_⟩ hB=>doS_loadS e0 (keepA ce hB))
    |6,_=>exact ob_slc 3 [(9,.string X),(11,.string (strOfNums (beTo ((k:Int)+1) 1))),(12,.string T)] rfl rfl (fun _=>by kernel_rfl) (fun A w ⟨e0,e1,e2,_⟩=>doS_str3 e0 e1 e2)
    |7,_=>exact ob_use 13 6 1003 (.cells #[.string X,.string (strOfNums (beTo ((k:Int)+1) 1)),.string T] 9) (fun f=> [(13,.slice (some ⟨f 6,0,none⟩) 3 3)]) rfl rfl (by decide) (by kernel_rfl) rfl (fun _=>by kernel_rfl) (fun f A w ⟨e0,_⟩ hB hr=>doS_call1 cf_hash e0 (HO (f 6) w (keepT hT hg hB) (fun i h=>str3 hr i h)))
    |ix+8,h=>exact absurd h (by simp)
  rintro f A w3 ⟨e0,e1,_⟩ hB _;have hc3:=hc1.drew.keep hB;have hs3:=hs1.drew.keep hB;have hl3:=hl1.drew.keep hB;have he3:=he1.drew.keep hB;have hb3:Below B w w3:=(hb1.drew).trans (hB.mono (Nat.le_of_lt (Nat.lt_of_le_of_lt hB2 hl1.lt)));refine does_skip (execS_storeS e0 e1 hl3.cell hl3.frz) ?_;simp only [puts,List.foldl,Act.put,List.setIfInBounds_toArray,List.set_cons_zero,List.set_cons_succ];have hl4:=hl3.set (.string (strOfNums (mBlk F Tl (k+1))));have R:Cls (w3.setCell ⟨bl,0,none⟩ (.string (strOfNums (mBlk F Tl (k+1))))) bc bs bl be F Tl T (k+1):=⟨hc3.other (Ne.symm n1) 0 _,hs3.other (Ne.symm hls) 0 _,hl4,he3.other (Ne.symm hle) 0 _⟩;have hb4:=hb3.setCell (p:=⟨bl,0,none⟩) hB2 (.string (strOfNums (mBlk F Tl (k+1))))
  have ho4:∀b,b<w.heap.size→b≠bc→b≠bl→(w3.setCell ⟨bl,0,none⟩ (.string (strOfNums (mBlk F Tl (k+1))))).heap[b]? =w.heap[b]? :=fun b h1 h2 h3=>by
    have e1:(w3.setCell ⟨bl,0,none⟩ (.string (strOfNums (mBlk F Tl (k+1))))).heap[b]? =w3.heap[b]? :=by simp [World.setCell,Array.getElem?_modify,Ne.symm h3]
    rw [e1,hB.block b (by rw [hz1];exact h1)];exact ho1 b h2
  have c4:=hl4.cell;clear hc3 hs3 hl3 he3 hb3 cs cl ce cc c0 f0;go_wp2;go_ret;exact⟨rfl,R,hb4,ho4⟩
theorem blocksI (msg tag:ByteArray)(n:Nat)(w:World)(hT0:TabK w)(h1:1≤tag.size)(h2:tag.size≤255)(h3:n≤8160)(h4:msg.size≤65535):
    Calls prog 190 #[.string msg,.string tag,.int .i64 n] w fun e w'=>∃(bc bs bl be:Nat) (T:ByteArray),e= .returned (.func (.func 197) #[] #[.pointer (some ⟨bc,0,none⟩),.pointer (some ⟨bs,0,none⟩),.pointer (some ⟨bl,0,none⟩),.pointer (some ⟨be,0,none⟩)])∧
      Cls w' bc bs bl be (mFirst (byt msg) (byt tag) n) (mTag (byt tag)) T 0∧byt T=mTag (byt tag)∧T.size≤256∧bl≠bs∧bl≠be∧w.heap.size≤bc∧w.heap.size≤bl∧Bl w w':=by
  have hgw:7<w.heap.size:=World.block_lt_of_cell? w _ (hT0 0 (by omega))
  have hbe1:beTo (tag.size:Int) 1= [(tag.size:Int)]:=by
    simp only [beTo,Int.pow_zero,Int.ediv_one];rw [show (tag.size:Int)%256=(tag.size:Int) by omega]
  have hbe2:beTo (n:Int) 2= [((n/256:Nat):Int),((n%256:Nat):Int)]:=by
    simp only [beTo,Int.pow_zero,Int.ediv_one,Int.pow_one];rw [show (n:Int)/256%256=((n/256:Nat):Int) by omega,show (n:Int)%256=((n%256:Nat):Int) by omega]
  obtain⟨T1,hT1⟩:∃T1,T1=strOfNums (beTo (tag.size:Int) 1):=⟨_,rfl⟩;have hT1s:T1.size=1:=by rw [hT1,strOfNums_size,beTo_length]
  have hTb:byt (tag++T1)=mTag (byt tag):=by
    rw [hT1,byt_append,hbe1,mTag,byt_length,byt_str _ (fun x hx=>by simp at hx;omega)]
  have hTs:(tag++T1).size≤256:=by rw [ByteArray.size_append];omega
  have B1:∀w,Cr 183 #[int u64 (tag.size:Int),.int .i64 1] w (.string T1):=fun w=>hT1▸beI_any (tag.size:Int) 1 w (by omega) (by omega) (by omega) (by omega)
  obtain⟨N2,hN2⟩:∃N2,N2=strOfNums (beTo (n:Int) 2):=⟨_,rfl⟩;have B2:∀w,Cr 183 #[int u64 (n:Int),.int .i64 2] w (.string N2):=fun w=>hN2▸beI_any (n:Int) 2 w (by omega) (by omega) (by omega) (by omega)
  obtain⟨Z,hZ⟩:∃Z,Z=strOfNums (List.replicate 64 0):=⟨_,rfl⟩;have Z64:∀w,Cr 196 #[.string ⟨#[0]⟩,.int .i64 64] w (.string Z):=fun w=>hZ▸rep64 w
  obtain⟨F,hF⟩:∃F,F=mFirst (byt msg) (byt tag) n:=⟨_,rfl⟩;rw [←hF]
  have hcat:shaF (catB [Z,msg,N2,⟨#[0]⟩,tag++T1])=F:=by
    simp only [catB,List.append_nil];rw [hF,mFirst,hZ,hN2,hTb,hbe2,byt_str _ (rep_lt 64),byt_str _ (fun x hx=>by simp at hx;omega),show byt ⟨#[0]⟩= [0] from rfl];simp only [List.append_assoc,List.cons_append,List.nil_append]
  have HO:∀(g:Nat) (w:World),TabK w→(∀i,i<5→w.cell? ⟨g,i,none⟩=some (.string ([Z,msg,N2,⟨#[0]⟩,tag++T1].getD i ByteArray.empty)))→Cr 130 #[.slice (some ⟨g,0,none⟩) 5 5] w (.string (strOfNums F)):=fun g w hTw hc=>by
    have:=hashOfI_any g 5 5 [Z,msg,N2,⟨#[0]⟩,tag++T1] w hTw (by rw [hZ,hN2];simp only [sizeB,strOfNums_size,beTo_length,List.length_replicate,show (⟨#[0]⟩:ByteArray).size=1 from rfl];omega) rfl (by omega) (by omega) hc;rwa [hcat] at this
  have e64:IntKind.u64.wrap (n:Int)=(n:Int):=by rw [IntKind.wrap_u64];omega
  have e64t:IntKind.u64.wrap (tag.size:Int)=(tag.size:Int):=by rw [IntKind.wrap_u64];omega
  clear hcat hbe1 hbe2 hZ hN2 hF hT1;go_enter func190,ntmps190;go_wp2_with fail;refine(B1 _).mono ?_;rintro e w1 ⟨rfl,b1⟩;go_wp2;generalize hTT:tag++T1=T at*;have hTr:R1c (w1.alloc (.cells #[.string T] 9)) 9 w1.heap.size (.string T):=R1c.new w1 _ _;have hb1:Bl w (w1.alloc (.cells #[.string T] 9)):=b1.alloc b1.size _;have hl1:(w1.alloc (.cells #[.string T] 9)).heap.size=w1.heap.size+1:=by simp
  have hw1:=b1.size;generalize w1.alloc (.cells #[.string T] 9)=W1 at*;generalize w1.heap.size=q7 at*;have hT:TabK W1.drew:=fun i hi=>(hb1.cell (p:=⟨7,i,none⟩) hgw).trans (hT0 i hi)
  have hg:7<W1.drew.heap.size:=Nat.lt_of_lt_of_le hgw hb1.size;have c7:=hTr.drew.cell;clear B1 hTT b1 hT0 e64t
  refine pool_list [.val (.string Z),
      .val (.string msg),
      .val (.int .i64 n),
      .val (int u64 n),
      .val (.string N2),
      .val (.string T),
      .new (.cells #[.string Z,.string msg,.string N2,.string ⟨#[0]⟩,.string T] 9) (.cells #[.string Z,.string msg,.string N2,.string ⟨#[0]⟩,.string T] 9) 1005,
      .val (.string (strOfNums F)),
      .new (.cells #[.string ⟨#[]⟩] 9) (.cells #[.string (strOfNums F)] 9) 9,
      .put 8] [[],[0],[2],[19],[20],[7],[17,18,21,22],[23],[],[8,24]] (fun f=> [(some 17,.string Z),(some 18,.string msg),(some 19,.int .i64 n),(some 20,int u64 n),(some 21,.string N2),(some 22,.string T),(some 23,.slice (some ⟨f 6,0,none⟩) 5 5),(some 24,.string (strOfNums F)),(some 8,.pointer (some ⟨f 8,0,none⟩)),(none,undef)]) (by kernel_rfl) (by kernel_rfl) (by kernel_rfl) (by kernel_rfl) (fun _=>by kernel_rfl) ?_ ?_
  · intro ix hix
    match ix,hix with
    |0,_=>exact obv [] rfl rfl (fun A w _ hB=>doS_call2 cf_rep rfl rfl (Z64 w))
    |1,_=>exact obv [(0,.string msg)] rfl rfl (fun A w ⟨e0,_⟩ hB=>doS_move e0)
    |2,_=>exact obv [(2,.int .i64 n)] rfl rfl (fun A w ⟨e0,_⟩ hB=>doS_move e0)
    |3,_=>exact obv [(19,.int .i64 n)] rfl rfl (fun A w ⟨e0,_⟩ hB=>doS_c64 e0 e64)
    |4,_=>exact obv [(20,int u64 n)] rfl rfl (fun A w ⟨e0,_⟩ hB=>doS_call2 cf_be e0 rfl (B2 w))
    |5,_=>exact obv [(7,.pointer (some ⟨q7,0,none⟩))] rfl rfl (fun A w ⟨e0,_⟩ hB=>doS_loadS e0 (keepA c7 hB))
    |6,_=>exact ob_slc 5 [(17,.string Z),(18,.string msg),(21,.string N2),(22,.string T)] rfl rfl (fun _=>by kernel_rfl) (fun A w ⟨e0,e1,e2,e3,_⟩=>doS_str5 e0 e1 e2 rfl e3)
    |7,_=>exact ob_use 23 6 1005 (.cells #[.string Z,.string msg,.string N2,.string ⟨#[0]⟩,.string T] 9) (fun f=> [(23,.slice (some ⟨f 6,0,none⟩) 5 5)]) rfl rfl (by decide) (by kernel_rfl) rfl (fun _=>by kernel_rfl) (fun f A w ⟨e0,_⟩ hB hr=>doS_call1 cf_hash e0 (HO (f 6) w (keepT hT hg hB) (fun i h=>str5 hr i h)))
    |8,_=>exact ob_new rfl rfl (fun A w=>doS_new)
    |9,_=>exact ob_put 8 (fun f=> [(8,.pointer (some ⟨f 8,0,none⟩)),(24,.string (strOfNums F))]) rfl rfl rfl (by decide) (by kernel_rfl) rfl (fun _=>by kernel_rfl) (fun f A w ⟨e0,e1,_⟩ hr=>doS_put e0 e1 hr)
    |ix+10,h=>exact absurd h (by simp)
  intro f w2 hB hN _;have n8:=hN 8 _ _ _ rfl (by simp);rw [if_pos (by simp)] at n8;replace hTr:=hTr.drew.keep hB;replace hb1:=hb1.drew.trans (hB.mono hb1.size);have l2:=hB.size;simp only [puts,List.foldl,Act.put,List.setIfInBounds_toArray,List.set_cons_zero,List.set_cons_succ];obtain⟨l8,n8⟩:=n8;replace n8:R1c w2 9 (f 8) (.string (strOfNums F)):=n8;have l8':=n8.lt;generalize f 8=q8 at*;clear hN hB hT hg c7 HO B2 Z64;go_wp2_with fail;refine(rep32 _).mono ?_;rintro e w3 ⟨rfl,b3⟩;replace hTr:=hTr.keep b3;replace n8:=n8.keep b3;replace hb1:=hb1.tr b3;have l3:=b3.size;clear b3;go_wp2;go_ret;refine⟨w3.heap.size+1,q8,w3.heap.size,q7,T,rfl,⟨(R1c.new _ _ _).at (by simp),(n8.alloc _).alloc _,(R1c.new w3 _ _).alloc _,(hTr.alloc _).alloc _⟩,hTb,hTs,by omega,?_,by have:=hb1.size;omega,hb1.size,(hb1.alloc hb1.size _).alloc (by have:=hb1.size;simp;omega) _⟩
  · have:=hTr.lt;omega
section
open Go
def Row0 (w:World)(base:Nat)(v:Value)(n:Nat)(xs:List Value):Prop:=
  (v= .slice none 0 0∧n=0∧xs= [])∨∃g cap,v= .slice (some ⟨g,0,none⟩) n cap∧Row w base g n cap xs
theorem byteCells_byt (s:ByteArray):byteCells s=(byt s).map (Value.int .u8):=by
  rw [byteCells,byt,List.map_map];rfl
theorem row_grown {w:World}{e:TypeId}{z:Value}{base n m old:Nat}{xs news:List Value}(hzs:z.cells.size=1)(hx:xs.length=n)(hl:news.length=m)(h63:n+m≤maxLen)(hbase:base≤w.heap.size):
    Row (w.drew.alloc (.cells ((xs++news).toArray++Builtin.zeroCells z.cells (grownCap w (n+m) old e-(n+m))) e)) base w.heap.size (n+m) (grownCap w (n+m) old e) (xs++news):=by
  have hge:=grownCap_ge w (n+m) old e;have hcm:grownCap w (n+m) old e≤maxLen:=grownCap_le_maxLen w (n+m) old e h63
  have hsz:((xs++news).toArray++Builtin.zeroCells z.cells (grownCap w (n+m) old e-(n+m))).size=grownCap w (n+m) old e:=by
    simp only [Array.size_append,List.size_toArray,List.length_append,size_zeroCells,hzs];omega
  have hblk:=Row.of_block (w:=w.drew.alloc (.cells ((xs++news).toArray++Builtin.zeroCells z.cells (grownCap w (n+m) old e-(n+m))) e)) (base:=base) (g:=w.heap.size) (n:=n+m) (heap_alloc_new w.drew _) hbase (by rw [hsz];exact hge) (by rw [hsz];exact hcm);rw [hsz] at hblk
  have htk:((xs++news).toArray++Builtin.zeroCells z.cells (grownCap w (n+m) old e-(n+m))).toList.take (n+m)=xs++news:=by
    simp only [Array.toList_append];rw [List.take_append_of_le_length (by simp;omega),List.take_of_length_le (by simp;omega)]
  rwa [htk] at hblk
theorem run_append_str {P:Program}(w:World)(t tx ty:TypeId)(base:Nat)(e:TypeId)(i:TypeInfo)(z:Value)(ht:P.underlying t=some (.slice e))(htx:P.underlying tx=some .string)(hi:P.info? e=some i)(hz:i.zero=some z)
    (hsize:i.size=1)(hby:i.bytes=1)(hzs:z.cells.size=1)(v:Value)(n:Nat)(xs:List Value)(hown:Row0 w base v n xs)(s:ByteArray)(hs0:0<s.size)
    (h63:n+s.size≤140737488355328)(hbase:base≤w.heap.size):
    ∃ g cap w',(Builtin.append_ #[t,tx] ty #[v,.string s]).run P w= .ok (.slice (some ⟨g,0,none⟩) (n+s.size) cap) w'∧
      Row w' base g (n+s.size) cap (xs++(byt s).map (Value.int .u8))∧Below base w w':=by
  have hsrc:Src P i.size tx (.string s) s.size ((byt s).map (Value.int .u8)) w:=by rw [hsize,←byteCells_byt];exact Src.ofString w htx s
  have hl:((byt s).map (Value.int .u8)).length=s.size:=by rw [List.length_map,byt_length]
  have hm:n+s.size≤maxLen:=by unfold maxLen;omega
  rcases hown with ⟨rfl,rfl,rfl⟩|⟨g,cap,rfl,hrow⟩
  · have hr:=run_append_grow_src (P:=P) w t tx ty e i z ht hi hz none 0 0 [] (by rw [hsize];exact run_firstCells_none w.drew 1 0 0 0) (.string s) s.size _ hsrc (by omega) (by omega) (growslice_fits (by omega) (by rw [hby];omega));exact⟨w.heap.size,_,_,hr,row_grown hzs rfl hl hm hbase,(Below.refl _ _).drew.alloc hbase _⟩
  · have hlx:=hrow.len;by_cases hroom:n+s.size≤cap
    · have hr:=run_append_room_src (P:=P) w t tx ty e i ht hi g 0 n cap (.string s) s.size _ hsrc hroom
        (fun j hj=>by rw [hsize];exact(hrow.room _ (by omega)).1) (fun j hj=>by rw [hsize];exact(hrow.room _ (by omega)).2)
      rw [hsize,Nat.zero_add,Nat.mul_one] at hr;refine⟨g,cap,_,hr,⟨hrow.lo,by rw [setCells_size];exact hrow.hi,by rw [List.length_append];omega,hroom,hrow.max,fun j u hu=> ?_,fun j hj=> ?_⟩,below_setCells (Below.refl _ _) hrow.lo _ _⟩
      · by_cases hj:j<xs.length
        · rw [List.getElem?_append_left hj] at hu;rw [World.cell?_setCells_out g _ n w ⟨g,j,none⟩ (fun _ _=> .inl (by show j<n;omega))];exact hrow.cells j u hu
        · rw [List.getElem?_append_right (by omega)] at hu;have hj2:=(List.getElem?_eq_some_iff.1 hu).1;have:=World.cell?_setCells_in g ((byt s).map (Value.int .u8)) n w (fun q hq=>(hrow.room _ (by omega)).1) (j-xs.length) hj2;rw [show n+(j-xs.length)=j by omega] at this;rw [this,←hu,List.getElem?_eq_getElem hj2]
      · exact⟨World.isSome_setCells g _ n w _ (hrow.room j hj).1,by rw [World.frozen?_setCells];exact(hrow.room j hj).2⟩
    · have hr:=run_append_grow_src (P:=P) w t tx ty e i z ht hi hz (some ⟨g,0,none⟩) n cap xs (by
          rw [hsize]
          exact run_firstCells_some w.drew 1 n ⟨g,0,none⟩ n cap xs (by omega) (fun j u hu=>by rw [Addr.add_mid,Nat.zero_add];exact hrow.cells j u hu)) (.string s) s.size _ hsrc (by omega) (by omega) (growslice_fits (by omega) (by rw [hby];omega))
      exact⟨w.heap.size,_,_,hr,row_grown hzs hlx hl hm hbase,(Below.refl _ _).drew.alloc hbase _⟩
theorem wpList_append_str {P:Program}{w:World}{ops:Array Oper}{rest:List Oper}{o:Oper}{a:Act}{Q:Exit→Act→World→Prop}(hgd:o.guard=none)(sl x:Operand)(t tx:TypeId)
    (ho:o.op= .call {callee:= .builtin .append,args:=#[sl,x],argTypes:=#[t,tx]})
    (base:Nat)(e:TypeId)(i:TypeInfo)(z:Value)(ht:P.underlying t=some (.slice e))(htx:P.underlying tx=some .string)(hi:P.info? e=some i)(hz:i.zero=some z)
    (hsize:i.size=1)(hby:i.bytes=1)(hzs:z.cells.size=1)(v:Value)(n:Nat)(xs:List Value)(hs:a.eval sl=v)(hown:Row0 w base v n xs)(s:ByteArray)(hx:a.eval x= .string s)(hs0:0<s.size)
    (h63:n+s.size≤140737488355328)(hbase:base≤w.heap.size)
    (h:∀g cap w',Row w' base g (n+s.size) cap (xs++(byt s).map (Value.int .u8))→Below base w w'→wpList P ops Q rest (a.put o.dst (.slice (some ⟨g,0,none⟩) (n+s.size) cap)) w'):wpList P ops Q (o::rest) a w:=by
  refine wpList_plain hgd fun K hK=> ?_
  obtain⟨g,cap,w',hr,h2,h3⟩:=run_append_str (P:=P) w t tx o.type base e i z ht htx hi hz hsize hby hzs v n xs hown s hs0 h63 hbase;unfold Oper.wp execOp;simp only [ho,resolve,invoke,builtin,Sem.run_bind,Sem.run_pure,Result.andThen_ok,List.map_toArray,List.map_cons,List.map_nil,hs,hx,hr];exact hK _ _ (h g cap w' h2 h3)
end
end Go.Proofs.YtmjniccfjffclaaGreatDoor
