import Derived.Test.YtjhbckngdclleaaGreatDoorMrg31
set_option linter.unusedVariables false
set_option maxRecDepth 100000
set_option maxHeartbeats 16000000
namespace Go.Proofs.YtjhbckngdclleaaGreatDoor
open Go.Proofs.Tryz Go.RowKit
open Go.Value (int)
open Go.IntKind (u64)
theorem extractS_any (key s:ByteArray)(w:World)(hk:key.size≤33554432)(hs:s.size≤33554432):
    Cr 67 #[.string key,.string s] w (.string (strOfNums (hmacF (byt key) (byt s)))):=by
  go_enter func67,ntmps67;go_wp2_with fail;refine(hmacS_any key s w hk hs).mono ?_;rintro e W1 ⟨rfl,hb1⟩;go_wp2;go_ret;exact⟨rfl,hb1⟩
section
open M
theorem shB_size (s:ByteArray):(shB s).size=32:=by unfold shB;rw [strOfNums_size,shaF_length]
theorem agX_size (a b c:Pt):(agX a b c).size=32:=by unfold agX;rw [strOfNums_size,hmacF_length]
theorem cfpS (args:Array Value)(w:World):(callFunc 45 args).run prog w= .ok (.enter 45 args) w:=by kernel_rfl
theorem cfxS (args:Array Value)(w:World):(callFunc 67 args).run prog w= .ok (.enter 67 args) w:=by kernel_rfl
theorem l7x (x word seen:ByteArray)(w:World)(hx:x.size≤1048576)(hw:word.size≤1048000)(hs:seen.size≤1073741824):
    Cr 68 #[.string x,.string word,.string seen] w (.string (exB x (word++shB seen))):=by
  have hz:=shB_size seen;have SH:=fun w=>shaS_any seen w hs
  have EX:=fun w=>expS_yes x (word++shB seen) 32 w hx (by rw [ByteArray.size_append];omega) (by decide)
  have e1:strOfNums (shaF (byt seen))=shB seen:=rfl;have e2:strOfNums (expF (byt x) (byt (word++shB seen)) 32)=exB x (word++shB seen):=rfl;simp only [e1] at SH;simp only [e2] at EX;clear e1 e2;generalize shB seen=hsn at*;have hn: ¬ (9223372036854775807<word.size+hsn.size):=by omega
  generalize exB x (word++hsn)=r at*;go_enter func68,ntmps68;go_wp2_with fail;refine(SH _).mono ?_;rintro e w1 ⟨rfl,b1⟩;go_wp2_with fail;refine(EX _).mono ?_;rintro e w2 ⟨rfl,b2⟩;replace b1:=b1.tr b2;go_wp2;go_ret;exact⟨rfl,b1⟩
theorem agrS (x0 y0:Nat)(c0:Bool)(x1 y1:Nat)(c1:Bool)(x2 y2:Nat)(c2:Bool)(s:ByteArray)(w:World)(hs:s.size≤1048576):
    Cr 23 #[.agg #[int u64 (x0:Int),int u64 (y0:Int),.bool c0],.agg #[int u64 (x1:Int),int u64 (y1:Int),.bool c1],.agg #[int u64 (x2:Int),int u64 (y2:Int),.bool c2],.string s] w (.agg (agK (asPt x0 y0 c0) (asPt x1 y1 c1) (asPt x2 y2 c2) s).toArray):=by
  have h0:=Bk.new w 27 #[int u64 (x0:Int),int u64 (y0:Int),.bool c0];have hB:=balc w (Obj.cells #[int u64 (x0:Int),int u64 (y0:Int),.bool c0] 27);obtain⟨W1,hW1⟩:∃W,w.alloc (Obj.cells #[int u64 (x0:Int),int u64 (y0:Int),.bool c0] 27)=W:=⟨_,rfl⟩;rw [hW1] at h0 hB;have h1:=Bk.new W1 27 #[int u64 (x1:Int),int u64 (y1:Int),.bool c1];replace h0:=h0.alloc (Obj.cells #[int u64 (x1:Int),int u64 (y1:Int),.bool c1] 27);replace hB:=hB.alloc hB.size (Obj.cells #[int u64 (x1:Int),int u64 (y1:Int),.bool c1] 27);obtain⟨W2,hW2⟩:∃W,W1.alloc (Obj.cells #[int u64 (x1:Int),int u64 (y1:Int),.bool c1] 27)=W:=⟨_,rfl⟩;rw [hW2] at h0 h1 hB;have h2:=Bk.new W2 27 #[int u64 (x2:Int),int u64 (y2:Int),.bool c2];replace h0:=h0.alloc (Obj.cells #[int u64 (x2:Int),int u64 (y2:Int),.bool c2] 27);replace h1:=h1.alloc (Obj.cells #[int u64 (x2:Int),int u64 (y2:Int),.bool c2] 27);replace hB:=hB.alloc hB.size (Obj.cells #[int u64 (x2:Int),int u64 (y2:Int),.bool c2] 27);obtain⟨W3,hW3⟩:∃W,W2.alloc (Obj.cells #[int u64 (x2:Int),int u64 (y2:Int),.bool c2] 27)=W:=⟨_,rfl⟩;rw [hW3] at h0 h1 h2 hB;have h8:=Bk.new W3 46 #[.string ⟨#[]⟩,.string ⟨#[]⟩,.string ⟨#[]⟩];replace h0:=h0.alloc (Obj.cells #[.string ⟨#[]⟩,.string ⟨#[]⟩,.string ⟨#[]⟩] 46);replace h1:=h1.alloc (Obj.cells #[.string ⟨#[]⟩,.string ⟨#[]⟩,.string ⟨#[]⟩] 46);replace h2:=h2.alloc (Obj.cells #[.string ⟨#[]⟩,.string ⟨#[]⟩,.string ⟨#[]⟩] 46);replace hB:=hB.alloc hB.size (Obj.cells #[.string ⟨#[]⟩,.string ⟨#[]⟩,.string ⟨#[]⟩] 46);obtain⟨W4,hW4⟩:∃W,W3.alloc (Obj.cells #[.string ⟨#[]⟩,.string ⟨#[]⟩,.string ⟨#[]⟩] 46)=W:=⟨_,rfl⟩;rw [hW4] at h0 h1 h2 h8 hB;obtain⟨b8,hb8⟩:∃r,r=W3.heap.size:=⟨_,rfl⟩;obtain⟨b2,hb2⟩:∃r,r=W2.heap.size:=⟨_,rfl⟩;obtain⟨b1,hb1⟩:∃r,r=W1.heap.size:=⟨_,rfl⟩;obtain⟨b0,hb0⟩:∃r,r=w.heap.size:=⟨_,rfl⟩;have l1:w.heap.size<W1.heap.size:=by rw [←hW1];simp
  have l2:W1.heap.size<W2.heap.size:=by rw [←hW2];simp
  have l3:W2.heap.size<W3.heap.size:=by rw [←hW3];simp
  have hl8:w.heap.size≤b8:=by omega
  rw [←hb8] at h8;rw [←hb2] at h2;rw [←hb1] at h1;rw [←hb0] at h0;have XS:∀w,Cr 67 #[.string ⟨#[]⟩,.string (pB (asPt x0 y0 c0)++pB (asPt x1 y1 c1)++pB (asPt x2 y2 c2))] w (.string (agX (asPt x0 y0 c0) (asPt x1 y1 c1) (asPt x2 y2 c2))):=fun w=>extractS_any _ _ w (by decide) (by rw [ByteArray.size_append,ByteArray.size_append,pB_size,pB_size,pB_size];decide)
  have hxz:=agX_size (asPt x0 y0 c0) (asPt x1 y1 c1) (asPt x2 y2 c2);unfold agK;have E1:=fun w=>l7x (agX (asPt x0 y0 c0) (asPt x1 y1 c1) (asPt x2 y2 c2)) wSes s w (by omega) (by decide) (by omega)
  have E2:=fun w=>l7x (agX (asPt x0 y0 c0) (asPt x1 y1 c1) (asPt x2 y2 c2)) wSrv s w (by omega) (by decide) (by omega)
  have E3:=fun w=>l7x (agX (asPt x0 y0 c0) (asPt x1 y1 c1) (asPt x2 y2 c2)) wCli s w (by omega) (by decide) (by omega)
  generalize exB (agX (asPt x0 y0 c0) (asPt x1 y1 c1) (asPt x2 y2 c2)) (wSes++shB s)=k1 at*;generalize exB (agX (asPt x0 y0 c0) (asPt x1 y1 c1) (asPt x2 y2 c2)) (wSrv++shB s)=k2 at*;generalize exB (agX (asPt x0 y0 c0) (asPt x1 y1 c1) (asPt x2 y2 c2)) (wCli++shB s)=k3 at*;unfold wSes at E1;unfold wSrv at E2;unfold wCli at E3;go_enter func23,ntmps23;go_wp2;simp only [←hb8,←hb2,←hb1,←hb0];clear hb8 hb2 hb1 hb0 hW1 hW2 hW3 hW4 l1 l2 l3
  refine G.pool_list (W:=W4) [] [.val (.agg #[int u64 (x0:Int),int u64 (y0:Int),.bool c0]),
      .val (.string (pB (asPt x0 y0 c0))),
      .val (.agg #[int u64 (x1:Int),int u64 (y1:Int),.bool c1]),
      .val (.string (pB (asPt x1 y1 c1))),
      .val (.string (pB (asPt x0 y0 c0)++pB (asPt x1 y1 c1))),
      .val (.agg #[int u64 (x2:Int),int u64 (y2:Int),.bool c2]),
      .val (.string (pB (asPt x2 y2 c2))),
      .val (.string (pB (asPt x0 y0 c0)++pB (asPt x1 y1 c1)++pB (asPt x2 y2 c2))),
      .val (.string (agX (asPt x0 y0 c0) (asPt x1 y1 c1) (asPt x2 y2 c2))),
      .val (.string (agX (asPt x0 y0 c0) (asPt x1 y1 c1) (asPt x2 y2 c2)))] [[4],[10],[5],[12],[11,13],[6],[15],[14,16],[17],[18]] (fun f=> [(some 10,.agg #[int u64 (x0:Int),int u64 (y0:Int),.bool c0]),(some 11,.string (pB (asPt x0 y0 c0))),(some 12,.agg #[int u64 (x1:Int),int u64 (y1:Int),.bool c1]),(some 13,.string (pB (asPt x1 y1 c1))),(some 14,.string (pB (asPt x0 y0 c0)++pB (asPt x1 y1 c1))),(some 15,.agg #[int u64 (x2:Int),int u64 (y2:Int),.bool c2]),(some 16,.string (pB (asPt x2 y2 c2))),(some 17,.string (pB (asPt x0 y0 c0)++pB (asPt x1 y1 c1)++pB (asPt x2 y2 c2))),(some 18,.string (agX (asPt x0 y0 c0) (asPt x1 y1 c1) (asPt x2 y2 c2))),(some 9,.string (agX (asPt x0 y0 c0) (asPt x1 y1 c1) (asPt x2 y2 c2)))]) (by kernel_rfl) (by kernel_rfl) (by kernel_rfl) (by kernel_rfl) (fun _=>by kernel_rfl) (G.last_of [] (fun F R hm=>by simp at hm) (fun ob ob' k hm=>by simp at hm) (fun b ob ob' hm=>by simp at hm)) (fun b ob ob' hm=>by simp at hm) ?_ ?_
  · intro ix hix
    match ix,hix with
    |0,_=>exact G.obv [(4,.pointer (some ⟨b0,0,none⟩))] rfl rfl (fun A w ⟨e0,_⟩ hB=>Y.ldT underlying27 rfl (by kernel_rfl) e0 (Y.side hB h0))
    |1,_=>exact G.obv [(10,.agg #[int u64 (x0:Int),int u64 (y0:Int),.bool c0])] rfl rfl (fun A w ⟨e0,_⟩ hB=>Y.cl1 cfpS e0 (putS_any x0 y0 c0 w))
    |2,_=>exact G.obv [(5,.pointer (some ⟨b1,0,none⟩))] rfl rfl (fun A w ⟨e0,_⟩ hB=>Y.ldT underlying27 rfl (by kernel_rfl) e0 (Y.side hB h1))
    |3,_=>exact G.obv [(12,.agg #[int u64 (x1:Int),int u64 (y1:Int),.bool c1])] rfl rfl (fun A w ⟨e0,_⟩ hB=>Y.cl1 cfpS e0 (putS_any x1 y1 c1 w))
    |4,_=>exact G.obv [(11,.string (pB (asPt x0 y0 c0))),(13,.string (pB (asPt x1 y1 c1)))] rfl rfl (fun A w ⟨e0,e1,_⟩ hB=>Y.cat e0 e1 (by rw [pB_size,pB_size];decide))
    |5,_=>exact G.obv [(6,.pointer (some ⟨b2,0,none⟩))] rfl rfl (fun A w ⟨e0,_⟩ hB=>Y.ldT underlying27 rfl (by kernel_rfl) e0 (Y.side hB h2))
    |6,_=>exact G.obv [(15,.agg #[int u64 (x2:Int),int u64 (y2:Int),.bool c2])] rfl rfl (fun A w ⟨e0,_⟩ hB=>Y.cl1 cfpS e0 (putS_any x2 y2 c2 w))
    |7,_=>exact G.obv [(14,.string (pB (asPt x0 y0 c0)++pB (asPt x1 y1 c1))),(16,.string (pB (asPt x2 y2 c2)))] rfl rfl (fun A w ⟨e0,e1,_⟩ hB=>Y.cat e0 e1 (by rw [ByteArray.size_append,pB_size,pB_size,pB_size];decide))
    |8,_=>exact G.obv [(17,.string (pB (asPt x0 y0 c0)++pB (asPt x1 y1 c1)++pB (asPt x2 y2 c2)))] rfl rfl (fun A w ⟨e0,_⟩ hB=>Y.cl2 cfxS rfl e0 (XS w))
    |9,_=>exact G.obv [(18,.string (agX (asPt x0 y0 c0) (asPt x1 y1 c1) (asPt x2 y2 c2)))] rfl rfl (fun A w ⟨e0,_⟩ hB=>Y.assign e0)
    |ix+10,h=>exact absurd h (by simp)
  intro f W5 hS y1 y2 y3 y4;have b5:Bl W4 W5:=(Below.refl _ W4).drew.trans hS.below;replace h8:=h8.keep b5;replace hB:=hB.tr b5;clear hS y1 y2 y3 y4 h0 h1 h2;simp only [puts,List.foldl,Act.put,List.setIfInBounds_toArray,List.set_cons_zero,List.set_cons_succ];clear hxz XS;go_wp2_with fail;refine(E1 _).mono ?_;rintro e w1 ⟨rfl,d1⟩;replace h8:=h8.keep d1;replace hB:=hB.tr d1;clear d1;go_wp2_with fail;refine(E2 _).mono ?_;rintro e w2 ⟨rfl,d2⟩;replace h8:=h8.keep d2;replace hB:=hB.tr d2;clear d2;go_wp2_with fail;refine(E3 _).mono ?_;rintro e w3 ⟨rfl,d3⟩;replace h8:=h8.keep d3;replace hB:=hB.tr d3;clear d3;have z0:w3.cell? ⟨b8,0,none⟩=some (.string ⟨#[]⟩):=h8.cell (k:=0) rfl;have z1:w3.cell? ⟨b8,1,none⟩=some (.string ⟨#[]⟩):=h8.cell (k:=1) rfl;have z2:w3.cell? ⟨b8,2,none⟩=some (.string ⟨#[]⟩):=h8.cell (k:=2) rfl;have f0:=h8.frz 0;have f1:=h8.frz 1;have f2:=h8.frz 2;have hMn:=((h8.set 0 (.string k1)).set 1 (.string k2)).set 2 (.string k3);have hBn:=((hB.setCell (p:=⟨b8,0,none⟩) hl8 (.string k1)).setCell (p:=⟨b8,1,none⟩) hl8 (.string k2)).setCell (p:=⟨b8,2,none⟩) hl8 (.string k3);simp only [List.setIfInBounds_toArray,List.set_cons_zero,List.set_cons_succ] at hMn;go_wp2;exact bodyPost_ret (v:= .agg #[.string k1,.string k2,.string k3]) (bk_res1 (fn:=Tryz.f23) (p:=8) results23 _ rfl hMn underlying46 rfl (by kernel_rfl)) rfl ⟨rfl,hBn⟩
end
def dkW:ByteArray:=⟨#[68,101,114,105,118,101,75,101,121,80,97,105,114]⟩
def dkM (seed info:ByteArray)(i:Nat):ByteArray:=seed++sizB info++strOfNums [(i:Int)]
def dkN (k:Nat)(seed info:ByteArray)(i:Nat):Nat:=hNum (dkM seed info i) (tagB dkW k) 2305843010818082053 1 0
def dkR (f:Nat→Nat):Nat→Nat→Nat×Int
  |_,0=>(0,3)
  |i,n+1=>if f i=0 then dkR f (i+1) n else (f i,0)
def dkB (mode:Int)(seed info:ByteArray):Bool:=decide ((0≤mode∧mode≤2)∧seed.size=32∧info.size≤60000)
def dkV (mode:Int)(seed info:ByteArray):Nat×Int:=if dkB mode seed info=true then dkR (dkN mode.toNat seed info) 0 256 else (0,1)
theorem dkT_size (k:Nat)(h:k<3):(tagB dkW k).size=25:=tagB_size _ k h
theorem sizB_sz (s:ByteArray):(sizB s).size=s.size+2:=by
  unfold sizB;rw [ByteArray.size_append,strOfNums_size];simp only [List.length_cons,List.length_nil];omega
theorem dkM_size (seed info:ByteArray)(i:Nat):(dkM seed info i).size=seed.size+info.size+3:=by
  unfold dkM;rw [ByteArray.size_append,ByteArray.size_append,sizB_sz,strOfNums_size];simp only [List.length_cons,List.length_nil];omega
theorem dkR_step {f:Nat→Nat}{j:Nat}(hj:j<256)(h:f j=0):dkR f j (256-j)=dkR f (j+1) (256-(j+1)):=by
  rw [show 256-j=(256-(j+1))+1 by omega];show(if f j=0 then _ else _)=_;rw [if_pos h]
theorem dkR_hit {f:Nat→Nat}{j:Nat}(hj:j<256)(h: ¬ f j=0):dkR f j (256-j)=(f j,0):=by
  rw [show 256-j=(256-(j+1))+1 by omega];show(if f j=0 then _ else _)=_;rw [if_neg h]
theorem dk_mod {mode:Int}(h1:0≤mode)(h2:mode≤2):mode.toNat<3∧((mode.toNat:Nat):Int)=mode:=by omega
end Go.Proofs.YtjhbckngdclleaaGreatDoor
