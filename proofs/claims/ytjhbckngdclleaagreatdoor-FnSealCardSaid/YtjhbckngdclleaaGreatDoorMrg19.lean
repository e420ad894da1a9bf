import Derived.Test.YtjhbckngdclleaaGreatDoorMrg18
import Derived.Laws.EntriesVeiled
import Derived.RangeFuncNested
import Derived.RangeFuncBound
import Derived.Shelf.RegionOpen
import Derived.OwnWalkIn
import Derived.LoopNIn
import Derived.LoopIn
set_option linter.unusedVariables false
set_option maxRecDepth 100000
set_option maxHeartbeats 16000000
namespace Go.Proofs.YtjhbckngdclleaaGreatDoor
open Go.Proofs.Tryz Go.RowKit
open Go.Value (int)
open Go.IntKind (u64)
theorem cf_xor (args:Array Value)(w:World):(callFunc 240 args).run prog w= .ok (.enter 240 args) w:=by kernel_rfl
theorem cf_be (args:Array Value)(w:World):(callFunc 111 args).run prog w= .ok (.enter 111 args) w:=by kernel_rfl
theorem cf_hash (args:Array Value)(w:World):(callFunc 65 args).run prog w= .ok (.enter 65 args) w:=by kernel_rfl
theorem cf_rep (args:Array Value)(w:World):(callFunc 238 args).run prog w= .ok (.enter 238 args) w:=by kernel_rfl
theorem keepA {w1 w2:World}{p:Addr}{v:Value}(h:w1.cell? p=some v)(b:Bl w1 w2):w2.cell? p=some v:=
  (b.cell (p:=p) (World.block_lt_of_cell? w1 _ h)).trans h
theorem keepT {w1 w2:World}(h:TabK w1)(hg:6<w1.heap.size)(b:Bl w1 w2):TabK w2:=fun i hi=>(b.cell (p:=⟨6,i,none⟩) hg).trans (h i hi)
theorem str3 {w:World}{b:Nat}{t:TypeId}{x y z:ByteArray}(h:w.heap[b]? =some (.cells #[.string x,.string y,.string z] t))(i:Nat)(hi:i<3):w.cell? ⟨b,i,none⟩=some (.string ([x,y,z].getD i ByteArray.empty)):=by
  match i,hi with
  |0,_=>exact block_cell h rfl
  |1,_=>exact block_cell h rfl
  |2,_=>exact block_cell h rfl
theorem str5 {w:World}{b:Nat}{t:TypeId}{x y z u v:ByteArray}(h:w.heap[b]? =some (.cells #[.string x,.string y,.string z,.string u,.string v] t))(i:Nat)(hi:i<5):w.cell? ⟨b,i,none⟩=some (.string ([x,y,z,u,v].getD i ByteArray.empty)):=by
  match i,hi with
  |0,_=>exact block_cell h rfl
  |1,_=>exact block_cell h rfl
  |2,_=>exact block_cell h rfl
  |3,_=>exact block_cell h rfl
  |4,_=>exact block_cell h rfl
def R1c (W:World)(t:TypeId)(b:Nat)(v:Value):Prop:=W.heap[b]? =some (.cells #[v] t)
section
variable {W W':World}{t:TypeId}{b:Nat}{v:Value}
theorem R1c.cell (h:R1c W t b v):W.cell? ⟨b,0,none⟩=some v:=block_cell h rfl
theorem R1c.frz (h:R1c W t b v):W.frozen? ⟨b,0,none⟩=false:=by unfold R1c at h;simp [World.frozen?,h]
theorem R1c.lt (h:R1c W t b v):b<W.heap.size:=(Array.getElem?_eq_some_iff.1 h).1
theorem R1c.keep (h:R1c W t b v)(hb:Bl W W'):R1c W' t b v:=(hb.block b h.lt).trans h
theorem R1c.new (w:World)(t:TypeId)(v:Value):R1c (w.alloc (.cells #[v] t)) t w.heap.size v:=heap_alloc_new w _
theorem R1c.alloc (h:R1c W t b v)(o:Obj):R1c (W.alloc o) t b v:=(Below.heap_alloc W o b h.lt).trans h
theorem R1c.drew (h:R1c W t b v):R1c W.drew t b v:=h
theorem R1c.at {b':Nat}(h:R1c W t b v)(e:b=b'):R1c W t b' v:=e▸h
theorem R1c.set (h:R1c W t b v)(u:Value):R1c (W.setCell ⟨b,0,none⟩ u) t b u:=by
  unfold R1c at*;simp [World.setCell,Array.getElem?_modify,h]
theorem R1c.other {b':Nat}(h:R1c W t b v)(hne:b≠b')(i:Nat)(u:Value):R1c (W.setCell ⟨b',i,none⟩ u) t b v:=by
  unfold R1c at*;rw [←h];simp [World.setCell,Array.getElem?_modify,Ne.symm hne]
theorem R1c.ne {b':Nat}{t':TypeId}{v':Value}(h:R1c W t b v)(h':R1c W t' b' v')(hne:t≠t'):b≠b':=by
  rintro rfl;unfold R1c at h h';rw [h] at h';simp at h';exact hne h'.2
end
structure Cls (W:World)(bc bs bl be:Nat)(F Tl:List Int)(T:ByteArray)(k:Nat):Prop where
  c:R1c W 22 bc (int u64 (k:Int))
  s:R1c W 9 bs (.string (strOfNums F))
  l:R1c W 9 bl (.string (strOfNums (mBlk F Tl k)))
  e:R1c W 9 be (.string T)
theorem nextI (B bc bs bl be:Nat)(F Tl:List Int)(T:ByteArray)(k:Nat)(w:World)(hC:Cls w bc bs bl be F Tl T k)(hT0:TabK w)(hls:bl≠bs)(hle:bl≠be)(hgb:6<B)(hB1:B≤bc)(hB2:B≤bl)
    (hk:k<255)(hF:F.length=32)(hFb:∀x∈F,0≤x∧x<256)(hTb:byt T=Tl)(hTs:T.size≤256):
    Calls prog 239 #[.pointer (some ⟨bc,0,none⟩),.pointer (some ⟨bs,0,none⟩),.pointer (some ⟨bl,0,none⟩),.pointer (some ⟨be,0,none⟩)] w fun e w'=>
      e= .returned (.string (strOfNums (mBlk F Tl (k+1))))∧Cls w' bc bs bl be F Tl T (k+1)∧Below B w w'∧(∀b,b<w.heap.size→b≠bc→b≠bl→w'.heap[b]? =w.heap[b]?):=by
  have hbl:=mBlk_length F Tl k;have hxl:(xorB F (mBlk F Tl k)).length=32:=by rw [xorB_length];omega
  obtain⟨X,hX⟩:∃X,X=strOfNums (xorB F (mBlk F Tl k)):=⟨_,rfl⟩
  have XT:∀w,Cr 240 #[.string (strOfNums F),.string (strOfNums (mBlk F Tl k))] w (.string X):=fun w=>by
    have:=xorT_any (strOfNums F) (strOfNums (mBlk F Tl k)) w (by rw [strOfNums_size];omega) (by rw [strOfNums_size,strOfNums_size];omega);rwa [byt_str _ hFb,byt_str _ (mBlk_lt F Tl k),←hX] at this
  have BE:∀w,Cr 111 #[int u64 ((k:Int)+1),.int .i64 1] w (.string (strOfNums (beTo ((k:Int)+1) 1))):=fun w=>beI_any ((k:Int)+1) 1 w (by omega) (by omega) (by omega) (by omega)
  have hcat:shaF (catB [X,strOfNums (beTo ((k:Int)+1) 1),T])=mBlk F Tl (k+1):=by
    have hb:beTo ((k:Int)+1) 1= [(k:Int)+1]:=by
      simp only [beTo,Int.pow_zero,Int.ediv_one];rw [show ((k:Int)+1)%256=(k:Int)+1 by omega]
    simp only [catB,List.append_nil];rw [hX,hb,byt_str _ (xorB_lt _ _ hFb (mBlk_lt F Tl k)),byt_one k hk,hTb,mBlk,List.append_assoc]
  have HO:∀(g:Nat) (w:World),TabK w→(∀i,i<3→w.cell? ⟨g,i,none⟩=some (.string ([X,strOfNums (beTo ((k:Int)+1) 1),T].getD i ByteArray.empty)))→Cr 65 #[.slice (some ⟨g,0,none⟩) 3 3] w (.string (strOfNums (mBlk F Tl (k+1)))):=fun g w hTw hc=>by
    have:=hashOfI_any g 3 3 [X,strOfNums (beTo ((k:Int)+1) 1),T] w hTw (by rw [hX];simp only [sizeB,strOfNums_size,beTo_length];omega) rfl (by omega) (by omega) hc;rwa [hcat] at this
  have hgw:6<w.heap.size:=World.block_lt_of_cell? w _ (hT0 0 (by omega));have ew:IntKind.u64.wrap ((k:Int)+1)=(k:Int)+1:=by rw [IntKind.wrap_u64];omega
  obtain⟨hc,hs,hl,he⟩:=hC;have n1:bl≠bc:=hl.ne hc (by decide);have n2:bs≠bc:=hs.ne hc (by decide);have n3:be≠bc:=he.ne hc (by decide);have c0:=hc.cell;have f0:=hc.frz;have hc1:=hc.set (int u64 ((k:Int)+1));have hs1:=hs.other n2 0 (int u64 ((k:Int)+1));have hl1:=hl.other n1 0 (int u64 ((k:Int)+1));have he1:=he.other n3 0 (int u64 ((k:Int)+1));have hb1:Below B w (w.setCell ⟨bc,0,none⟩ (int u64 ((k:Int)+1))):=(Below.refl _ w).setCell (p:=⟨bc,0,none⟩) hB1 _;have ho1:∀b,b≠bc→(w.setCell ⟨bc,0,none⟩ (int u64 ((k:Int)+1))).heap[b]? =w.heap[b]? :=fun b hb=>by simp [World.setCell,Array.getElem?_modify,Ne.symm hb]
  have hz1:(w.setCell ⟨bc,0,none⟩ (int u64 ((k:Int)+1))).drew.heap.size=w.heap.size:=by simp [World.setCell]
  have hT:TabK (w.setCell ⟨bc,0,none⟩ (int u64 ((k:Int)+1))).drew:=fun i hi=>(hb1.cell (p:=⟨6,i,none⟩) hgb).trans (hT0 i hi)
  have hg:6<(w.setCell ⟨bc,0,none⟩ (int u64 ((k:Int)+1))).drew.heap.size:=Nat.lt_of_lt_of_le hgw hb1.size;have cs:=hs1.drew.cell;have cl:=hl1.drew.cell;have ce:=he1.drew.cell;have cc:=hc1.drew.cell;clear hc hs hl he hT0 hX hcat;go_enter func239,ntmps239;go_wp2
  refine pool_tail [.val (.string (strOfNums F)),
      .val (.string (strOfNums (mBlk F Tl k))),
      .val (.string X),
      .val (int u64 ((k:Int)+1)),
      .val (.string (strOfNums (beTo ((k:Int)+1) 1))),
      .val (.string T),
      .new (.cells #[.string X,.string (strOfNums (beTo ((k:Int)+1) 1)),.string T] 9) (.cells #[.string X,.string (strOfNums (beTo ((k:Int)+1) 1)),.string T] 9) 1003,
      .val (.string (strOfNums (mBlk F Tl (k+1)))),
      .val undef] [[1],[2],[7,8],[0],[10],[3],[9,11,12],[13],[2,14]] (fun f=> [(some 7,.string (strOfNums F)),(some 8,.string (strOfNums (mBlk F Tl k))),(some 9,.string X),(some 10,int u64 ((k:Int)+1)),(some 11,.string (strOfNums (beTo ((k:Int)+1) 1))),(some 12,.string T),(some 13,.slice (some ⟨f 6,0,none⟩) 3 3),(some 14,.string (strOfNums (mBlk F Tl (k+1))))]) (fun f=> [(2,.pointer (some ⟨bl,0,none⟩)),(14,.string (strOfNums (mBlk F Tl (k+1))))]) (by kernel_rfl) (by kernel_rfl) (by kernel_rfl) (by kernel_rfl) (by kernel_rfl) (fun _=>by kernel_rfl) ?_ rfl (fun _=>by kernel_rfl) ?_
  · intro ix hix
    match ix,hix with
    |0,_=>exact obv [(1,.pointer (some ⟨bs,0,none⟩))] rfl rfl (fun A w ⟨e0,_⟩ hB=>doS_loadS e0 (keepA cs hB))
    |1,_=>exact obv [(2,.pointer (some ⟨bl,0,none⟩))] rfl rfl (fun A w ⟨e0,_⟩ hB=>doS_loadS e0 (keepA cl hB))
    |2,_=>exact obv [(7,.string (strOfNums F)),(8,.string (strOfNums (mBlk F Tl k)))] rfl rfl (fun A w ⟨e0,e1,_⟩ hB=>doS_call2 cf_xor e0 e1 (XT w))
    |3,_=>exact obv [(0,.pointer (some ⟨bc,0,none⟩))] rfl rfl (fun A w ⟨e0,_⟩ hB=>doS_loadW e0 (keepA cc hB))
    |4,_=>exact obv [(10,int u64 ((k:Int)+1))] rfl rfl (fun A w ⟨e0,_⟩ hB=>doS_call2 cf_be e0 rfl (BE w))
    |5,_=>exact obv [(3,.pointer (some ⟨be,0,none⟩))] rfl rfl (fun A w ⟨e0,_⟩ hB=>doS_loadS e0 (keepA ce hB))
    |6,_=>exact ob_slc 3 [(9,.string X),(11,.string (strOfNums (beTo ((k:Int)+1) 1))),(12,.string T)] rfl rfl (fun _=>by kernel_rfl) (fun A w ⟨e0,e1,e2,_⟩=>doS_str3 e0 e1 e2)
    |7,_=>exact ob_use 13 6 1003 (.cells #[.string X,.string (strOfNums (beTo ((k:Int)+1) 1)),.string T] 9) (fun f=> [(13,.slice (some ⟨f 6,0,none⟩) 3 3)]) rfl rfl (by decide) (by kernel_rfl) rfl (fun _=>by kernel_rfl) (fun f A w ⟨e0,_⟩ hB hr=>doS_call1 cf_hash e0 (HO (f 6) w (keepT hT hg hB) (fun i h=>str3 hr i h)))
    |ix+8,h=>exact absurd h (by simp)
  rintro f A w3 ⟨e0,e1,_⟩ hB _;have hc3:=hc1.drew.keep hB;have hs3:=hs1.drew.keep hB;have hl3:=hl1.drew.keep hB;have he3:=he1.drew.keep hB;have hb3:Below B w w3:=(hb1.drew).trans (hB.mono (Nat.le_of_lt (Nat.lt_of_le_of_lt hB2 hl1.lt)));refine does_skip (execS_storeS e0 e1 hl3.cell hl3.frz) ?_;simp only [puts,List.foldl,Act.put,List.setIfInBounds_toArray,List.set_cons_zero,List.set_cons_succ];have hl4:=hl3.set (.string (strOfNums (mBlk F Tl (k+1))));have R:Cls (w3.setCell ⟨bl,0,none⟩ (.string (strOfNums (mBlk F Tl (k+1))))) bc bs bl be F Tl T (k+1):=⟨hc3.other (Ne.symm n1) 0 _,hs3.other (Ne.symm hls) 0 _,hl4,he3.other (Ne.symm hle) 0 _⟩;have hb4:=hb3.setCell (p:=⟨bl,0,none⟩) hB2 (.string (strOfNums (mBlk F Tl (k+1))))
  have ho4:∀b,b<w.heap.size→b≠bc→b≠bl→(w3.setCell ⟨bl,0,none⟩ (.string (strOfNums (mBlk F Tl (k+1))))).heap[b]? =w.heap[b]? :=fun b h1 h2 h3=>by
    have e1:(w3.setCell ⟨bl,0,none⟩ (.string (strOfNums (mBlk F Tl (k+1))))).heap[b]? =w3.heap[b]? :=by simp [World.setCell,Array.getElem?_modify,Ne.symm h3]
    rw [e1,hB.block b (by rw [hz1];exact h1)];exact ho1 b h2
  have c4:=hl4.cell;clear hc3 hs3 hl3 he3 hb3 cs cl ce cc c0 f0;go_wp2;go_ret;exact⟨rfl,R,hb4,ho4⟩
theorem blocksI (msg tag:ByteArray)(n:Nat)(w:World)(hT0:TabK w)(h1:1≤tag.size)(h2:tag.size≤255)(h3:n≤8160)(h4:msg.size≤65535):
    Calls prog 227 #[.string msg,.string tag,.int .i64 n] w fun e w'=>∃(bc bs bl be:Nat) (T:ByteArray),e= .returned (.func (.func 239) #[] #[.pointer (some ⟨bc,0,none⟩),.pointer (some ⟨bs,0,none⟩),.pointer (some ⟨bl,0,none⟩),.pointer (some ⟨be,0,none⟩)])∧
      Cls w' bc bs bl be (mFirst (byt msg) (byt tag) n) (mTag (byt tag)) T 0∧byt T=mTag (byt tag)∧T.size≤256∧bl≠bs∧bl≠be∧w.heap.size≤bc∧w.heap.size≤bl∧Bl w w':=by
  have hgw:6<w.heap.size:=World.block_lt_of_cell? w _ (hT0 0 (by omega))
  have hbe1:beTo (tag.size:Int) 1= [(tag.size:Int)]:=by
    simp only [beTo,Int.pow_zero,Int.ediv_one];rw [show (tag.size:Int)%256=(tag.size:Int) by omega]
  have hbe2:beTo (n:Int) 2= [((n/256:Nat):Int),((n%256:Nat):Int)]:=by
    simp only [beTo,Int.pow_zero,Int.ediv_one,Int.pow_one];rw [show (n:Int)/256%256=((n/256:Nat):Int) by omega,show (n:Int)%256=((n%256:Nat):Int) by omega]
  obtain⟨T1,hT1⟩:∃T1,T1=strOfNums (beTo (tag.size:Int) 1):=⟨_,rfl⟩;have hT1s:T1.size=1:=by rw [hT1,strOfNums_size,beTo_length]
  have hTb:byt (tag++T1)=mTag (byt tag):=by
    rw [hT1,byt_append,hbe1,mTag,byt_length,byt_str _ (fun x hx=>by simp at hx;omega)]
  have hTs:(tag++T1).size≤256:=by rw [ByteArray.size_append];omega
  have B1:∀w,Cr 111 #[int u64 (tag.size:Int),.int .i64 1] w (.string T1):=fun w=>hT1▸beI_any (tag.size:Int) 1 w (by omega) (by omega) (by omega) (by omega)
  obtain⟨N2,hN2⟩:∃N2,N2=strOfNums (beTo (n:Int) 2):=⟨_,rfl⟩;have B2:∀w,Cr 111 #[int u64 (n:Int),.int .i64 2] w (.string N2):=fun w=>hN2▸beI_any (n:Int) 2 w (by omega) (by omega) (by omega) (by omega)
  obtain⟨Z,hZ⟩:∃Z,Z=strOfNums (List.replicate 64 0):=⟨_,rfl⟩;have Z64:∀w,Cr 238 #[.string ⟨#[0]⟩,.int .i64 64] w (.string Z):=fun w=>hZ▸rep64 w
  obtain⟨F,hF⟩:∃F,F=mFirst (byt msg) (byt tag) n:=⟨_,rfl⟩;rw [←hF]
  have hcat:shaF (catB [Z,msg,N2,⟨#[0]⟩,tag++T1])=F:=by
    simp only [catB,List.append_nil];rw [hF,mFirst,hZ,hN2,hTb,hbe2,byt_str _ (rep_lt 64),byt_str _ (fun x hx=>by simp at hx;omega),show byt ⟨#[0]⟩= [0] from rfl];simp only [List.append_assoc,List.cons_append,List.nil_append]
  have HO:∀(g:Nat) (w:World),TabK w→(∀i,i<5→w.cell? ⟨g,i,none⟩=some (.string ([Z,msg,N2,⟨#[0]⟩,tag++T1].getD i ByteArray.empty)))→Cr 65 #[.slice (some ⟨g,0,none⟩) 5 5] w (.string (strOfNums F)):=fun g w hTw hc=>by
    have:=hashOfI_any g 5 5 [Z,msg,N2,⟨#[0]⟩,tag++T1] w hTw (by rw [hZ,hN2];simp only [sizeB,strOfNums_size,beTo_length,List.length_replicate,show (⟨#[0]⟩:ByteArray).size=1 from rfl];omega) rfl (by omega) (by omega) hc;rwa [hcat] at this
  have e64:IntKind.u64.wrap (n:Int)=(n:Int):=by rw [IntKind.wrap_u64];omega
  have e64t:IntKind.u64.wrap (tag.size:Int)=(tag.size:Int):=by rw [IntKind.wrap_u64];omega
  clear hcat hbe1 hbe2 hZ hN2 hF hT1;go_enter func227,ntmps227;go_wp2_with fail;refine(B1 _).mono ?_;rintro e w1 ⟨rfl,b1⟩;go_wp2;generalize hTT:tag++T1=T at*;have hTr:R1c (w1.alloc (.cells #[.string T] 9)) 9 w1.heap.size (.string T):=R1c.new w1 _ _;have hb1:Bl w (w1.alloc (.cells #[.string T] 9)):=b1.alloc b1.size _;have hl1:(w1.alloc (.cells #[.string T] 9)).heap.size=w1.heap.size+1:=by simp
  have hw1:=b1.size;generalize w1.alloc (.cells #[.string T] 9)=W1 at*;generalize w1.heap.size=q7 at*;have hT:TabK W1.drew:=fun i hi=>(hb1.cell (p:=⟨6,i,none⟩) hgw).trans (hT0 i hi)
  have hg:6<W1.drew.heap.size:=Nat.lt_of_lt_of_le hgw hb1.size;have c7:=hTr.drew.cell;clear B1 hTT b1 hT0 e64t
  refine pool_list [.val (.string Z),
      .val (.string msg),
      .val (.int .i64 n),
      .val (int u64 n),
      .val (.string N2),
      .val (.string T),
      .new (.cells #[.string Z,.string msg,.string N2,.string ⟨#[0]⟩,.string T] 9) (.cells #[.string Z,.string msg,.string N2,.string ⟨#[0]⟩,.string T] 9) 1005,
      .val (.string (strOfNums F)),
      .new (.cells #[.string ⟨#[]⟩] 9) (.cells #[.string (strOfNums F)] 9) 9,
      .put 8] [[],[0],[2],[19],[20],[7],[17,18,21,22],[23],[],[8,24]] (fun f=> [(some 17,.string Z),(some 18,.string msg),(some 19,.int .i64 n),(some 20,int u64 n),(some 21,.string N2),(some 22,.string T),(some 23,.slice (some ⟨f 6,0,none⟩) 5 5),(some 24,.string (strOfNums F)),(some 8,.pointer (some ⟨f 8,0,none⟩)),(none,undef)]) (by kernel_rfl) (by kernel_rfl) (by kernel_rfl) (by kernel_rfl) (fun _=>by kernel_rfl) ?_ ?_
  · intro ix hix
    match ix,hix with
    |0,_=>exact obv [] rfl rfl (fun A w _ hB=>doS_call2 cf_rep rfl rfl (Z64 w))
    |1,_=>exact obv [(0,.string msg)] rfl rfl (fun A w ⟨e0,_⟩ hB=>doS_move e0)
    |2,_=>exact obv [(2,.int .i64 n)] rfl rfl (fun A w ⟨e0,_⟩ hB=>doS_move e0)
    |3,_=>exact obv [(19,.int .i64 n)] rfl rfl (fun A w ⟨e0,_⟩ hB=>doS_c64 e0 e64)
    |4,_=>exact obv [(20,int u64 n)] rfl rfl (fun A w ⟨e0,_⟩ hB=>doS_call2 cf_be e0 rfl (B2 w))
    |5,_=>exact obv [(7,.pointer (some ⟨q7,0,none⟩))] rfl rfl (fun A w ⟨e0,_⟩ hB=>doS_loadS e0 (keepA c7 hB))
    |6,_=>exact ob_slc 5 [(17,.string Z),(18,.string msg),(21,.string N2),(22,.string T)] rfl rfl (fun _=>by kernel_rfl) (fun A w ⟨e0,e1,e2,e3,_⟩=>doS_str5 e0 e1 e2 rfl e3)
    |7,_=>exact ob_use 23 6 1005 (.cells #[.string Z,.string msg,.string N2,.string ⟨#[0]⟩,.string T] 9) (fun f=> [(23,.slice (some ⟨f 6,0,none⟩) 5 5)]) rfl rfl (by decide) (by kernel_rfl) rfl (fun _=>by kernel_rfl) (fun f A w ⟨e0,_⟩ hB hr=>doS_call1 cf_hash e0 (HO (f 6) w (keepT hT hg hB) (fun i h=>str5 hr i h)))
    |8,_=>exact ob_new rfl rfl (fun A w=>doS_new)
    |9,_=>exact ob_put 8 (fun f=> [(8,.pointer (some ⟨f 8,0,none⟩)),(24,.string (strOfNums F))]) rfl rfl rfl (by decide) (by kernel_rfl) rfl (fun _=>by kernel_rfl) (fun f A w ⟨e0,e1,_⟩ hr=>doS_put e0 e1 hr)
    |ix+10,h=>exact absurd h (by simp)
  intro f w2 hB hN _;have n8:=hN 8 _ _ _ rfl (by simp);rw [if_pos (by simp)] at n8;replace hTr:=hTr.drew.keep hB;replace hb1:=hb1.drew.trans (hB.mono hb1.size);have l2:=hB.size;simp only [puts,List.foldl,Act.put,List.setIfInBounds_toArray,List.set_cons_zero,List.set_cons_succ];obtain⟨l8,n8⟩:=n8;replace n8:R1c w2 9 (f 8) (.string (strOfNums F)):=n8;have l8':=n8.lt;generalize f 8=q8 at*;clear hN hB hT hg c7 HO B2 Z64;go_wp2_with fail;refine(rep32 _).mono ?_;rintro e w3 ⟨rfl,b3⟩;replace hTr:=hTr.keep b3;replace n8:=n8.keep b3;replace hb1:=hb1.tr b3;have l3:=b3.size;clear b3;go_wp2;go_ret;refine⟨w3.heap.size+1,q8,w3.heap.size,q7,T,rfl,⟨(R1c.new _ _ _).at (by simp),(n8.alloc _).alloc _,(R1c.new w3 _ _).alloc _,(hTr.alloc _).alloc _⟩,hTb,hTs,by omega,?_,by have:=hb1.size;omega,hb1.size,(hb1.alloc hb1.size _).alloc (by have:=hb1.size;simp;omega) _⟩
  · have:=hTr.lt;omega
theorem methP (w:World):(method 469 165 (.agg #[]) "loop.example/s02095/impl.value").run prog w= .ok (277,.agg #[]) w:=by kernel_rfl
theorem valP (w:World):
    Calls prog 277 #[.agg #[]] w fun e w'=>e= .returned (int u64 2305843009213693951)∧w'=w.alloc (.cells #[] 165):=by
  go_enter func277,ntmps277;go_wp2;go_ret;exact⟨rfl,rfl⟩
theorem foldP:Array.foldl (fun(cs:Array Value) (x:Value×Nat)=>cs.setIfInBounds x.snd x.fst) #[Value.int IntKind.u64 0] (#[]:Array Value).zipIdx 0 0=#[Value.int .u64 0]:=rfl
theorem redP_one (w:World):
    Calls prog 167 #[int u64 1,.agg #[]] w fun e w'=>e= .returned (.agg #[int u64 1])∧w'=(((w.alloc (.cells #[] 165)).alloc (.cells #[int u64 1] 167)).alloc (.cells #[] 165)).drew:=by
  have hm:=methP;have hf:=foldP;have V:=valP;go_enter func167,ntmps167;go_wp2
  go_region_held3 (fun _=>True) (trivial) ((go_simp;go_at_call 277;refine(V _).mono ?_;rintro e w' ⟨rfl,rfl⟩))
  go_wp2;refine bodyPost_ret (v:= .agg #[int u64 1]) (by simp [results,results167,go_sem]) rfl ⟨rfl,rfl⟩
theorem cellsP:prog.cellsOf 167=1:=by kernel_rfl
theorem byteP:byteOfCell prog prog.depth 167 0=some 0:=by kernel_rfl
theorem partP {W:World}{b:Nat}{cs:Array Value}(hW:W.heap[b]? =some (.cells cs 167)):(partAt ⟨b,0,none⟩ 0 0).run prog W= .ok ⟨b,0,none⟩ W:=by
  have h:(byteOf ⟨b,0,none⟩).run prog W= .ok 0 W:=by
    have hs:W.shape? b=some (167,cs.size):=by simp [World.shape?,hW]
    simp [byteOf,noView,viewAt,shape,program,Sem.run,hs,cellsP,byteP,go_sem]
  simp [partAt,h,go_sem]
theorem timP_any (a b:Nat)(w:World)(ha:a<2305843009213693951)(hb:b<2305843009213693951):
    Cr 116 #[.agg #[int u64 a],.agg #[int u64 b]] w (.agg #[int u64 (a*b%2305843009213693951:Nat)]):=by
  have hme:=methP;have hf:=foldP;have M:=mul64_any a b (by omega) (by omega)
  have D:=fun w=>div_any (a*b/18446744073709551616) (a*b%18446744073709551616) 2305843009213693951 w (by
    rw [Nat.div_lt_iff_lt_mul (by decide)];have:a*b≤2305843009213693950*2305843009213693950:=Nat.mul_le_mul (by omega) (by omega)
    omega) (by decide) (Nat.mod_lt _ (by decide))
  have e:a*b/18446744073709551616*18446744073709551616+a*b%18446744073709551616=a*b:=by omega
  rw [e] at D;clear e;generalize a*b/18446744073709551616=hi at*;generalize a*b%18446744073709551616=lo at*;obtain⟨c,hc⟩:∃c,c=a*b%2305843009213693951:=⟨_,rfl⟩;rw [←hc] at D⊢;clear hc ha hb;obtain⟨X,hX⟩:∃X,X=((w.alloc (Obj.cells #[int u64 (a:Int)] 167)).alloc (Obj.cells #[int u64 (b:Int)] 167)).alloc (Obj.cells #[int u64 0] 167):=⟨_,rfl⟩
  have hX0:X.heap[w.heap.size]? =some (.cells #[int u64 (a:Int)] 167):=by
    rw [hX];exact(Below.heap_alloc _ _ _ (by simp;omega)).trans ((Below.heap_alloc _ _ _ (by simp)).trans (heap_alloc_new w _))
  have hp1:=partP hX0;have hX1:(X.alloc (Obj.cells #[] 165)).heap[w.heap.size]? =some (.cells #[int u64 (a:Int)] 167):=(Below.heap_alloc _ _ _ (Array.getElem?_eq_some_iff.1 hX0).1).trans hX0;have hp2:=partP hX1;have hp3:=partP (W:=(X.alloc (Obj.cells #[] 165)).drew) hX1;rw [hX] at hp1 hp2 hp3;clear hX hX0 hX1;go_enter func116,ntmps116;go_wp2_with fail;refine(M _).mono ?_;rintro e w' ⟨rfl,rfl⟩;go_wp2_with fail;refine(valP _).mono ?_;rintro e w' ⟨rfl,rfl⟩;go_wp2_with fail;refine(D _).mono ?_;rintro e w' ⟨⟨z,rfl⟩,rfl|rfl⟩
  · go_wp2;refine bodyPost_ret (v:= .agg #[int u64 c]) (by simp [results,results116,go_sem]) rfl ⟨rfl,?_⟩;exact((((Below.refl _ _).alloc (Nat.le_refl _) _).alloc (by simp) _).alloc (by simp;omega) _).alloc (by simp;omega) _
  · go_wp2;refine bodyPost_ret (v:= .agg #[int u64 c]) (by simp [results,results116,go_sem]) rfl ⟨rfl,?_⟩;exact(((((Below.refl _ _).alloc (Nat.le_refl _) _).alloc (by simp) _).alloc (by simp;omega) _).alloc (by simp;omega) _).drew
theorem keepC {w1 w2:World}{p:Addr}{v:Value}(h:w1.cell? p=some v)(b:Bl w1 w2):w2.cell? p=some v:=by
  by_cases hl:p.block<w1.heap.size
  · rw [←h];unfold World.cell?;rw [b.block _ hl]
  · exfalso;have:w1.heap[p.block]? =none:=Array.getElem?_eq_none (by omega);simp [World.cell?,this] at h
theorem keepS {w1:World}{p:Addr}{v u:Value}{b i:Nat}(h:w1.cell? p=some v)(hne:p.block≠b):(w1.setCell ⟨b,i,none⟩ u).cell? p=some v:=by
  rw [←h];unfold World.cell?;simp [World.setCell,Array.getElem?_modify,Ne.symm hne]
theorem keepB {n:Nat}{w0 w1 w2:World}(h:Below n w0 w1)(hn:n≤w1.heap.size)(b:Bl w1 w2):Below n w0 w2:=h.trans (b.mono hn)
def R1 (W:World)(b:Nat)(y:Int):Prop:=W.heap[b]? =some (.cells #[int u64 y] 167)
section
variable {W W':World}{b:Nat}{y:Int}
theorem R1.cell (h:R1 W b y):W.cell? ⟨b,0,none⟩=some (int u64 y):=by unfold R1 at h;simp [World.cell?,h]
theorem R1.frz (h:R1 W b y):W.frozen? ⟨b,0,none⟩=false:=by unfold R1 at h;simp [World.frozen?,h]
theorem R1.lt (h:R1 W b y):b<W.heap.size:=(Array.getElem?_eq_some_iff.1 h).1
theorem R1.below {N:Nat}(h:R1 W b y)(hb:Below N W W')(hl:b<N):R1 W' b y:=(hb.block b hl).trans h
theorem R1.keep (h:R1 W b y)(hb:Bl W W'):R1 W' b y:=h.below hb h.lt
theorem R1.new (w:World)(y:Int):R1 (w.alloc (.cells #[int u64 y] 167)) w.heap.size y:=heap_alloc_new w _
theorem R1.alloc (h:R1 W b y)(o:Obj):R1 (W.alloc o) b y:=(Below.heap_alloc W o b h.lt).trans h
theorem R1.drew (h:R1 W b y):R1 W.drew b y:=h
theorem R1.range (h:R1 W b y):W.rangeAt b 0 [int u64 y]:=fun j v hj=>by
  match j,hj with
  |0,hj=>cases hj;exact h.cell
theorem R1.at {b':Nat}(h:R1 W b y)(e:b=b'):R1 W b' y:=e▸h
theorem R1.set (h:R1 W b y)(y':Int):R1 (W.setCell ⟨b,0,none⟩ (int u64 y')) b y':=by
  unfold R1 at*;simp [World.setCell,Array.getElem?_modify,h]
theorem R1.other (h:R1 W b y){b':Nat}(hne:b≠b')(i:Nat)(v:Value):R1 (W.setCell ⟨b',i,none⟩ v) b y:=by
  unfold R1 at*;rw [←h];simp [World.setCell,Array.getElem?_modify,Ne.symm hne]
theorem num_res {fn:Func}{p:Tmp}(h:fn.results=#[.cell p 167])(tmps:Array Value)(hp:tmps.getD p undef= .pointer (some ⟨b,0,none⟩))(hc:R1 W b y):
    (results fn tmps).run prog W= .ok (.agg #[int u64 y]) W:=
  results_mid h tmps W b 0 [int u64 y] _ hp hc.range underlying167 rfl (by kernel_rfl)
end
theorem mnP_lt (a b d c:Int)(w:World)(h:a<b)(hd:IntKind.u64.wrap (a-b)=d)(hc:IntKind.u64.wrap (d+2305843009213693951)=c):
    Cr 166 #[.agg #[int u64 a],.agg #[int u64 b]] w (.agg #[int u64 c]):=by
  have hme:=methP;have hf:=foldP;obtain⟨X,hX⟩:∃X,X=((w.alloc (Obj.cells #[int u64 a] 167)).alloc (Obj.cells #[int u64 b] 167)).alloc (Obj.cells #[int u64 0] 167):=⟨_,rfl⟩
  have hX0:X.heap[w.heap.size]? =some (.cells #[int u64 a] 167):=by
    rw [hX];exact(Below.heap_alloc _ _ _ (by simp;omega)).trans ((Below.heap_alloc _ _ _ (by simp)).trans (heap_alloc_new w _))
  have hp1:=partP hX0;have hX1:(X.alloc (Obj.cells #[] 165)).heap[w.heap.size]? =some (.cells #[int u64 a] 167):=(Below.heap_alloc _ _ _ (Array.getElem?_eq_some_iff.1 hX0).1).trans hX0;have hp2:=partP hX1;rw [hX] at hp1 hp2;clear hX hX0 hX1;go_enter func166,ntmps166;go_wp2_with fail;refine(valP _).mono ?_;rintro e w' ⟨rfl,rfl⟩;go_wp2;refine bodyPost_ret (v:= .agg #[int u64 c]) (by simp [results,results166,go_sem]) rfl ⟨rfl,?_⟩;exact((((Below.refl _ _).alloc (Nat.le_refl _) _).alloc (by simp) _).alloc (by simp;omega) _).alloc (by simp;omega) _
theorem mnP_ge (a b d:Int)(w:World)(h:b≤a)(hd:IntKind.u64.wrap (a-b)=d):
    Cr 166 #[.agg #[int u64 a],.agg #[int u64 b]] w (.agg #[int u64 d]):=by
  have hme:=methP;have hf:=foldP;have hlt: ¬ a<b:=by omega
  clear h;obtain⟨X,hX⟩:∃X,X=((w.alloc (Obj.cells #[int u64 a] 167)).alloc (Obj.cells #[int u64 b] 167)).alloc (Obj.cells #[int u64 0] 167):=⟨_,rfl⟩
  have hX0:X.heap[w.heap.size]? =some (.cells #[int u64 a] 167):=by
    rw [hX];exact(Below.heap_alloc _ _ _ (by simp;omega)).trans ((Below.heap_alloc _ _ _ (by simp)).trans (heap_alloc_new w _))
  have hp1:=partP hX0;rw [hX] at hp1;clear hX hX0;go_enter func166,ntmps166;go_wp2;refine bodyPost_ret (v:= .agg #[int u64 d]) (by simp [results,results166,go_sem]) rfl ⟨rfl,?_⟩;exact(((Below.refl _ _).alloc (Nat.le_refl _) _).alloc (by simp) _).alloc (by simp;omega) _
theorem mnP_any (a b c:Int)(w:World)(ha0:0≤a)(ha:a<2305843009213693951)(hb0:0≤b)(hb:b<2305843009213693951)(hc:c=if a<b then a-b+2305843009213693951 else a-b):
    Cr 166 #[.agg #[int u64 a],.agg #[int u64 b]] w (.agg #[int u64 c]):=by
  by_cases h:a<b
  · rw [if_pos h] at hc;exact mnP_lt a b (a-b+18446744073709551616) c w h (by rw [IntKind.wrap_u64];omega) (by rw [IntKind.wrap_u64];omega)
  · rw [if_neg h] at hc;exact mnP_ge a b c w (by omega) (by rw [IntKind.wrap_u64];omega)
theorem ngP_of (a c:Int)(w:World)
    (M:Cc 166 #[.agg #[int u64 0],.agg #[int u64 a]] (.agg #[int u64 c])):
    Cr 199 #[.agg #[int u64 a]] w (.agg #[int u64 c]):=by
  have hf:=foldP;obtain⟨X,hX⟩:∃X,X=(w.alloc (Obj.cells #[int u64 a] 167)).alloc (Obj.cells #[int u64 0] 167):=⟨_,rfl⟩
  have hX0:X.heap[w.heap.size]? =some (.cells #[int u64 a] 167):=by
    rw [hX];exact(Below.heap_alloc _ _ _ (by simp)).trans (heap_alloc_new w _)
  have hp1:=partP hX0;have hr:R1 X (w.heap.size+1) 0:=by rw [hX];exact(R1.new _ 0).at (by simp)
  have hbX:Bl w X:=by rw [hX];exact((Below.refl _ w).alloc (Nat.le_refl _) _).alloc (by simp) _
  rw [hX] at hp1 hr hbX;clear hX hX0;go_enter func199,ntmps199;go_wp2_with fail;refine(M _).mono ?_;rintro e w' ⟨rfl,hb⟩;have hr1:=hr.keep hb;have cc:=hr1.cell;have ff:=hr1.frz;have hb2:=keepB hbX (by simp;omega) hb;clear hb hbX hr hp1;go_wp2;exact bodyPost_ret (v:= .agg #[int u64 c]) (num_res (fn:=Tryz.f199) (p:=2) results199 _ rfl (hr1.set c)) rfl ⟨rfl,hb2.setCell (p:=⟨w.heap.size+1,0,none⟩) (by simp) _⟩
theorem plP_of (a b d c:Int)(w:World)
    (N:Cc 199 #[.agg #[int u64 b]] (.agg #[int u64 d]))
    (M:Cc 166 #[.agg #[int u64 a],.agg #[int u64 d]] (.agg #[int u64 c])):
    Cr 168 #[.agg #[int u64 a],.agg #[int u64 b]] w (.agg #[int u64 c]):=by
  obtain⟨X,hX⟩:∃X,X=(((w.alloc (Obj.cells #[int u64 a] 167)).alloc (Obj.cells #[int u64 b] 167)).alloc (Obj.cells #[int u64 0] 167)).drew:=⟨_,rfl⟩;have hr:R1 X (w.heap.size+1+1) 0:=by rw [hX];exact((R1.new _ 0).drew).at (by simp)
  have hbX:Bl w X:=by rw [hX];exact((((Below.refl _ w).alloc (Nat.le_refl _) _).alloc (by simp) _).alloc (by simp;omega) _).drew
  have hl:w.heap.size≤X.heap.size:=hbX.size;rw [hX] at hr hbX hl;clear hX;go_enter func168,ntmps168;go_wp2
  go_region_held3 (fun w'=>w'.cell? ⟨w.heap.size,0,none⟩=some (int u64 a)∧w'.cell? ⟨w.heap.size+1,0,none⟩=some (int u64 b)) (first|exact ⟨keepC (keepC (by simp [go_sem]) b1) b2,keepC (keepC (by simp [go_sem]) b1) b2⟩|exact ⟨keepC (by simp [go_sem]) b1,keepC (by simp [go_sem]) b1⟩|exact ⟨keepS (keepC (keepC (by simp [go_sem]) b1) b2) (by simp;omega),keepS (keepC (keepC (by simp [go_sem]) b1) b2) (by simp)⟩|go_keep) (first
    |(go_at_call 199;refine(N _).mono ?_;rintro e w1 ⟨rfl,b1⟩)
    |(go_at_call 166;refine(M _).mono ?_;rintro e w2 ⟨rfl,b2⟩;have hr2:=(hr.keep b1).keep b2;have cc:=hr2.cell;have ff:=hr2.frz))
  go_wp2;have hb2:=keepB (keepB hbX hl b1) (Nat.le_trans hl b1.size) b2;exact bodyPost_ret (v:= .agg #[int u64 c]) (num_res (fn:=Tryz.f168) (p:=4) results168 _ rfl (hr2.set c)) rfl ⟨rfl,hb2.setCell (p:=⟨w.heap.size+1+1,0,none⟩) (by simp;omega) _⟩
section
open Go.Shelf
attribute [local go_sem] Oper.semAt_some
def bitsF (e L:Nat):Nat→List Bool
  |0=> []
  |j+1=>bitsF e L j++ [decide (e/2^(L-(j+1))%2=1)]
theorem bitsF_length (e L:Nat):∀j,(bitsF e L j).length=j
  |0=>rfl
  |j+1=>by simp [bitsF,bitsF_length e L j]
theorem and1 (z:Nat)(h:z<18446744073709551616):bits .and .u64 (z:Int) 1=((z%2:Nat):Int):=by
  have:=bits_and_u64_nat z 1 h (by decide);rwa [show z&&&1=z%2 from Nat.and_two_pow_sub_one_eq_mod z 1] at this
theorem bit_eq (e i:Nat)(he:e<18446744073709551616):(bits .and .u64 ((e:Int)/2^i) 1==1)=decide (e/2^i%2=1):=by
  have e1:(e:Int)/2^i=((e/2^i:Nat):Int):=by simp
  rw [e1,and1 _ (Nat.lt_of_le_of_lt (Nat.div_le_self _ _) he)];generalize e/2^i%2=z;by_cases h:z=1
  · subst h;rfl
  · simp [h];omega
theorem bit_stops (n:Nat)(hn:1≤n)(e Be:Nat)(he:e<18446744073709551616)(w:World)(hc:w.cell? ⟨Be,0,none⟩=some (int u64 e))(hB:Be<w.heap.size):
    SeqStopsK Fence.wide n prog 200 #[.pointer (some ⟨Be,0,none⟩)] (fun b:Bool=>#[.bool b]) (fun W W'=>W.cell? ⟨Be,0,none⟩=some (int u64 e)→W'.cell? ⟨Be,0,none⟩=some (int u64 e))
      (fun xs=>xs=bitsF e (Lib.bitLen e) (Lib.bitLen e)) (fun _=>True) 64 w:=fun l J Jx W hW _ _ hY h0=>by
  have hcW:W.cell? ⟨Be,0,none⟩=some (int u64 e):=(hW.cell (p:=⟨Be,0,none⟩) hB).trans hc;have hL:=len_nat e he;have hl:=len_le e (by omega);have hbe:=bit_eq e;generalize Lib.bitLen e=L at*;refine callsIn_of_wp func200 rfl trivial ?_ rfl;simp only [ntmps200,List.size_toArray,List.length_cons,List.length_nil,Nat.reduceAdd,Nat.reduceSub,Array.replicate_succ,Array.replicate_zero,List.push_toArray,List.append_toArray,List.nil_append,List.cons_append]
  gi_wp2_with (refine⟨trivial,?_⟩;gi_at_call 201;refine(callsIn_wide.2 (hL _)).mono ?_;rintro e w' ⟨rfl,rfl⟩)
  clear hL
  gi_loopw [3] (fun i wr=>∃(k:Nat) (x:Int),x=(k:Int)-1∧k≤L∧i= .int .i64 x∧wr.cell? ⟨Be,0,none⟩=some (int u64 e)∧J (bitsF e L (L-k)) wr) (fun i _=>(intOf i+1).toNat)
  case atStart=>exact ⟨L,(L:Int)-1,rfl,Nat.le_refl _,rfl,hcW,by rw [Nat.sub_self];exact h0⟩
  case round=>
    obtain⟨k,x,hx,hk,rfl,hcr,hJ⟩:=hrel;rcases k with _|j
    · have hneg: ¬ ((0:Int)≤x):=by omega
      clear hx
      gi_wp2
      go_end0
      exact⟨⟨_,rfl⟩,.inl hJ⟩
    · obtain rfl:x=(j:Int):=by omega
      clear hx;have hbj:=hbe j he
      have hst:bitsF e L (L-j)=bitsF e L (L-(j+1))++ [decide (e/2^j%2=1)]:=by
        have e1:L-j=L-(j+1)+1:=by omega
        rw [e1,bitsF,show L-(L-(j+1)+1)=j by omega]
      generalize decide (e/2^j%2=1)=bb at*;obtain⟨fn,tmps,assign,body,hy,hR⟩:=hY _ bb wr hJ (by rw [bitsF_length];omega);rw [←hst] at hR;clear hY hbe hst
      gi_wp2
      refine hR.mono ?_;rintro e' W3 (⟨rfl,hJ3,hk3⟩|⟨rfl,hJx3⟩)
      · have hc3:=hk3 hcr
        gi_wp2
        go_roundw
        case rel=>exact ⟨j,(j:Int)-1,rfl,by omega,rfl,hc3,hJ3⟩
        case measure=>simp [intOf]
      · gi_wp2
        refine bodyPost_ret (results_none rfl _ _ _) rfl ?_;exact⟨⟨_,rfl⟩,.inr ⟨_,trivial,hJx3⟩⟩
theorem bits_of (e:Nat)(w:World):
    Calls prog 169 #[int u64 e] w fun r w'=>r= .returned (.func (.func 200) #[] #[.pointer (some ⟨w.heap.size,0,none⟩)])∧w'=w.alloc (.cells #[int u64 e] 22):=by
  go_enter func169,ntmps169;go_wp2;go_ret;exact⟨rfl,rfl⟩
end
end Go.Proofs.YtjhbckngdclleaaGreatDoor
