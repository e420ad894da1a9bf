import Derived.Test.YtijmldjijnpnoaaDoorMrg12
set_option linter.unusedVariables false
set_option maxRecDepth 100000
set_option maxHeartbeats 16000000
namespace Go.Proofs.YtijmldjijnpnoaaDoor
open Go.Proofs.Tryd Go.RowKit
open Go.Value (int)
open Go.IntKind (u64)
theorem extractS_any (key s:ByteArray)(w:World)(hk:key.size≤33554432)(hs:s.size≤33554432):
    Cr 12 #[.string key,.string s] w (.string (strOfNums (hmacF (byt key) (byt s)))):=by
  go_enter func12,ntmps12;go_wp2_with fail;refine(hmacS_any key s w hk hs).mono ?_;rintro e W1 ⟨rfl,hb1⟩;go_wp2;go_ret;exact⟨rfl,hb1⟩
section
open M
theorem shB_size (s:ByteArray):(shB s).size=32:=by unfold shB;rw [strOfNums_size,shaF_length]
theorem agX_size (a b c:Pt):(agX a b c).size=32:=by unfold agX;rw [strOfNums_size,hmacF_length]
theorem cfpS (args:Array Value)(w:World):(callFunc 13 args).run prog w= .ok (.enter 13 args) w:=by kernel_rfl
theorem cfxS (args:Array Value)(w:World):(callFunc 12 args).run prog w= .ok (.enter 12 args) w:=by kernel_rfl
theorem l7x (x word seen:ByteArray)(w:World)(hx:x.size≤1048576)(hw:word.size≤1048000)(hs:seen.size≤1073741824):
    Cr 14 #[.string x,.string word,.string seen] w (.string (exB x (word++shB seen))):=by
  have hz:=shB_size seen;have SH:=fun w=>shaS_any seen w hs
  have EX:=fun w=>expS_yes x (word++shB seen) 32 w hx (by rw [ByteArray.size_append];omega) (by decide)
  have e1:strOfNums (shaF (byt seen))=shB seen:=rfl;have e2:strOfNums (expF (byt x) (byt (word++shB seen)) 32)=exB x (word++shB seen):=rfl;simp only [e1] at SH;simp only [e2] at EX;clear e1 e2;generalize shB seen=hsn at*;have hn: ¬ (9223372036854775807<word.size+hsn.size):=by omega
  generalize exB x (word++hsn)=r at*;go_enter func14,ntmps14;go_wp2_with fail;refine(SH _).mono ?_;rintro e w1 ⟨rfl,b1⟩;go_wp2_with fail;refine(EX _).mono ?_;rintro e w2 ⟨rfl,b2⟩;replace b1:=b1.tr b2;go_wp2;go_ret;exact⟨rfl,b1⟩
theorem agrS (x0 y0:Nat)(c0:Bool)(x1 y1:Nat)(c1:Bool)(x2 y2:Nat)(c2:Bool)(s:ByteArray)(w:World)(hs:s.size≤1048576):
    Cr 5 #[.agg #[int u64 (x0:Int),int u64 (y0:Int),.bool c0],.agg #[int u64 (x1:Int),int u64 (y1:Int),.bool c1],.agg #[int u64 (x2:Int),int u64 (y2:Int),.bool c2],.string s] w (.agg (agK (asPt x0 y0 c0) (asPt x1 y1 c1) (asPt x2 y2 c2) s).toArray):=by
  have h0:=Bk.new w 28 #[int u64 (x0:Int),int u64 (y0:Int),.bool c0];have hB:=balc w (Obj.cells #[int u64 (x0:Int),int u64 (y0:Int),.bool c0] 28);obtain⟨W1,hW1⟩:∃W,w.alloc (Obj.cells #[int u64 (x0:Int),int u64 (y0:Int),.bool c0] 28)=W:=⟨_,rfl⟩;rw [hW1] at h0 hB;have h1:=Bk.new W1 28 #[int u64 (x1:Int),int u64 (y1:Int),.bool c1];replace h0:=h0.alloc (Obj.cells #[int u64 (x1:Int),int u64 (y1:Int),.bool c1] 28);replace hB:=hB.alloc hB.size (Obj.cells #[int u64 (x1:Int),int u64 (y1:Int),.bool c1] 28);obtain⟨W2,hW2⟩:∃W,W1.alloc (Obj.cells #[int u64 (x1:Int),int u64 (y1:Int),.bool c1] 28)=W:=⟨_,rfl⟩;rw [hW2] at h0 h1 hB;have h2:=Bk.new W2 28 #[int u64 (x2:Int),int u64 (y2:Int),.bool c2];replace h0:=h0.alloc (Obj.cells #[int u64 (x2:Int),int u64 (y2:Int),.bool c2] 28);replace h1:=h1.alloc (Obj.cells #[int u64 (x2:Int),int u64 (y2:Int),.bool c2] 28);replace hB:=hB.alloc hB.size (Obj.cells #[int u64 (x2:Int),int u64 (y2:Int),.bool c2] 28);obtain⟨W3,hW3⟩:∃W,W2.alloc (Obj.cells #[int u64 (x2:Int),int u64 (y2:Int),.bool c2] 28)=W:=⟨_,rfl⟩;rw [hW3] at h0 h1 h2 hB;have h8:=Bk.new W3 26 #[.string ⟨#[]⟩,.string ⟨#[]⟩,.string ⟨#[]⟩];replace h0:=h0.alloc (Obj.cells #[.string ⟨#[]⟩,.string ⟨#[]⟩,.string ⟨#[]⟩] 26);replace h1:=h1.alloc (Obj.cells #[.string ⟨#[]⟩,.string ⟨#[]⟩,.string ⟨#[]⟩] 26);replace h2:=h2.alloc (Obj.cells #[.string ⟨#[]⟩,.string ⟨#[]⟩,.string ⟨#[]⟩] 26);replace hB:=hB.alloc hB.size (Obj.cells #[.string ⟨#[]⟩,.string ⟨#[]⟩,.string ⟨#[]⟩] 26);obtain⟨W4,hW4⟩:∃W,W3.alloc (Obj.cells #[.string ⟨#[]⟩,.string ⟨#[]⟩,.string ⟨#[]⟩] 26)=W:=⟨_,rfl⟩;rw [hW4] at h0 h1 h2 h8 hB;obtain⟨b8,hb8⟩:∃r,r=W3.heap.size:=⟨_,rfl⟩;obtain⟨b2,hb2⟩:∃r,r=W2.heap.size:=⟨_,rfl⟩;obtain⟨b1,hb1⟩:∃r,r=W1.heap.size:=⟨_,rfl⟩;obtain⟨b0,hb0⟩:∃r,r=w.heap.size:=⟨_,rfl⟩;have l1:w.heap.size<W1.heap.size:=by rw [←hW1];simp
  have l2:W1.heap.size<W2.heap.size:=by rw [←hW2];simp
  have l3:W2.heap.size<W3.heap.size:=by rw [←hW3];simp
  have hl8:w.heap.size≤b8:=by omega
  rw [←hb8] at h8;rw [←hb2] at h2;rw [←hb1] at h1;rw [←hb0] at h0;have XS:∀w,Cr 12 #[.string ⟨#[]⟩,.string (pB (asPt x0 y0 c0)++pB (asPt x1 y1 c1)++pB (asPt x2 y2 c2))] w (.string (agX (asPt x0 y0 c0) (asPt x1 y1 c1) (asPt x2 y2 c2))):=fun w=>extractS_any _ _ w (by decide) (by rw [ByteArray.size_append,ByteArray.size_append,pB_size,pB_size,pB_size];decide)
  have hxz:=agX_size (asPt x0 y0 c0) (asPt x1 y1 c1) (asPt x2 y2 c2);unfold agK;have E1:=fun w=>l7x (agX (asPt x0 y0 c0) (asPt x1 y1 c1) (asPt x2 y2 c2)) wSes s w (by omega) (by decide) (by omega)
  have E2:=fun w=>l7x (agX (asPt x0 y0 c0) (asPt x1 y1 c1) (asPt x2 y2 c2)) wSrv s w (by omega) (by decide) (by omega)
  have E3:=fun w=>l7x (agX (asPt x0 y0 c0) (asPt x1 y1 c1) (asPt x2 y2 c2)) wCli s w (by omega) (by decide) (by omega)
  generalize exB (agX (asPt x0 y0 c0) (asPt x1 y1 c1) (asPt x2 y2 c2)) (wSes++shB s)=k1 at*;generalize exB (agX (asPt x0 y0 c0) (asPt x1 y1 c1) (asPt x2 y2 c2)) (wSrv++shB s)=k2 at*;generalize exB (agX (asPt x0 y0 c0) (asPt x1 y1 c1) (asPt x2 y2 c2)) (wCli++shB s)=k3 at*;unfold wSes at E1;unfold wSrv at E2;unfold wCli at E3;go_enter func5,ntmps5;go_wp2;simp only [←hb8,←hb2,←hb1,←hb0];clear hb8 hb2 hb1 hb0 hW1 hW2 hW3 hW4 l1 l2 l3
  refine G.pool_list (W:=W4) [] [.val (.agg #[int u64 (x0:Int),int u64 (y0:Int),.bool c0]),
      .val (.string (pB (asPt x0 y0 c0))),
      .val (.agg #[int u64 (x1:Int),int u64 (y1:Int),.bool c1]),
      .val (.string (pB (asPt x1 y1 c1))),
      .val (.string (pB (asPt x0 y0 c0)++pB (asPt x1 y1 c1))),
      .val (.agg #[int u64 (x2:Int),int u64 (y2:Int),.bool c2]),
      .val (.string (pB (asPt x2 y2 c2))),
      .val (.string (pB (asPt x0 y0 c0)++pB (asPt x1 y1 c1)++pB (asPt x2 y2 c2))),
      .val (.string (agX (asPt x0 y0 c0) (asPt x1 y1 c1) (asPt x2 y2 c2))),
      .val (.string (agX (asPt x0 y0 c0) (asPt x1 y1 c1) (asPt x2 y2 c2)))] [[4],[10],[5],[12],[11,13],[6],[15],[14,16],[17],[18]] (fun f=> [(some 10,.agg #[int u64 (x0:Int),int u64 (y0:Int),.bool c0]),(some 11,.string (pB (asPt x0 y0 c0))),(some 12,.agg #[int u64 (x1:Int),int u64 (y1:Int),.bool c1]),(some 13,.string (pB (asPt x1 y1 c1))),(some 14,.string (pB (asPt x0 y0 c0)++pB (asPt x1 y1 c1))),(some 15,.agg #[int u64 (x2:Int),int u64 (y2:Int),.bool c2]),(some 16,.string (pB (asPt x2 y2 c2))),(some 17,.string (pB (asPt x0 y0 c0)++pB (asPt x1 y1 c1)++pB (asPt x2 y2 c2))),(some 18,.string (agX (asPt x0 y0 c0) (asPt x1 y1 c1) (asPt x2 y2 c2))),(some 9,.string (agX (asPt x0 y0 c0) (asPt x1 y1 c1) (asPt x2 y2 c2)))]) (by kernel_rfl) (by kernel_rfl) (by kernel_rfl) (by kernel_rfl) (fun _=>by kernel_rfl) (G.last_of [] (fun F R hm=>by simp at hm) (fun ob ob' k hm=>by simp at hm) (fun b ob ob' hm=>by simp at hm)) (fun b ob ob' hm=>by simp at hm) ?_ ?_
  · intro ix hix
    match ix,hix with
    |0,_=>exact G.obv [(4,.pointer (some ⟨b0,0,none⟩))] rfl rfl (fun A w ⟨e0,_⟩ hB=>Y.ldT underlying28 rfl (by kernel_rfl) e0 (Y.side hB h0))
    |1,_=>exact G.obv [(10,.agg #[int u64 (x0:Int),int u64 (y0:Int),.bool c0])] rfl rfl (fun A w ⟨e0,_⟩ hB=>Y.cl1 cfpS e0 (putS_any x0 y0 c0 w))
    |2,_=>exact G.obv [(5,.pointer (some ⟨b1,0,none⟩))] rfl rfl (fun A w ⟨e0,_⟩ hB=>Y.ldT underlying28 rfl (by kernel_rfl) e0 (Y.side hB h1))
    |3,_=>exact G.obv [(12,.agg #[int u64 (x1:Int),int u64 (y1:Int),.bool c1])] rfl rfl (fun A w ⟨e0,_⟩ hB=>Y.cl1 cfpS e0 (putS_any x1 y1 c1 w))
    |4,_=>exact G.obv [(11,.string (pB (asPt x0 y0 c0))),(13,.string (pB (asPt x1 y1 c1)))] rfl rfl (fun A w ⟨e0,e1,_⟩ hB=>Y.cat e0 e1 (by rw [pB_size,pB_size];decide))
    |5,_=>exact G.obv [(6,.pointer (some ⟨b2,0,none⟩))] rfl rfl (fun A w ⟨e0,_⟩ hB=>Y.ldT underlying28 rfl (by kernel_rfl) e0 (Y.side hB h2))
    |6,_=>exact G.obv [(15,.agg #[int u64 (x2:Int),int u64 (y2:Int),.bool c2])] rfl rfl (fun A w ⟨e0,_⟩ hB=>Y.cl1 cfpS e0 (putS_any x2 y2 c2 w))
    |7,_=>exact G.obv [(14,.string (pB (asPt x0 y0 c0)++pB (asPt x1 y1 c1))),(16,.string (pB (asPt x2 y2 c2)))] rfl rfl (fun A w ⟨e0,e1,_⟩ hB=>Y.cat e0 e1 (by rw [ByteArray.size_append,pB_size,pB_size,pB_size];decide))
    |8,_=>exact G.obv [(17,.string (pB (asPt x0 y0 c0)++pB (asPt x1 y1 c1)++pB (asPt x2 y2 c2)))] rfl rfl (fun A w ⟨e0,_⟩ hB=>Y.cl2 cfxS rfl e0 (XS w))
    |9,_=>exact G.obv [(18,.string (agX (asPt x0 y0 c0) (asPt x1 y1 c1) (asPt x2 y2 c2)))] rfl rfl (fun A w ⟨e0,_⟩ hB=>Y.assign e0)
    |ix+10,h=>exact absurd h (by simp)
  intro f W5 hS y1 y2 y3 y4;have b5:Bl W4 W5:=(Below.refl _ W4).drew.trans hS.below;replace h8:=h8.keep b5;replace hB:=hB.tr b5;clear hS y1 y2 y3 y4 h0 h1 h2;simp only [puts,List.foldl,Act.put,List.setIfInBounds_toArray,List.set_cons_zero,List.set_cons_succ];clear hxz XS;go_wp2_with fail;refine(E1 _).mono ?_;rintro e w1 ⟨rfl,d1⟩;replace h8:=h8.keep d1;replace hB:=hB.tr d1;clear d1;go_wp2_with fail;refine(E2 _).mono ?_;rintro e w2 ⟨rfl,d2⟩;replace h8:=h8.keep d2;replace hB:=hB.tr d2;clear d2;go_wp2_with fail;refine(E3 _).mono ?_;rintro e w3 ⟨rfl,d3⟩;replace h8:=h8.keep d3;replace hB:=hB.tr d3;clear d3;have z0:w3.cell? ⟨b8,0,none⟩=some (.string ⟨#[]⟩):=h8.cell (k:=0) rfl;have z1:w3.cell? ⟨b8,1,none⟩=some (.string ⟨#[]⟩):=h8.cell (k:=1) rfl;have z2:w3.cell? ⟨b8,2,none⟩=some (.string ⟨#[]⟩):=h8.cell (k:=2) rfl;have f0:=h8.frz 0;have f1:=h8.frz 1;have f2:=h8.frz 2;have hMn:=((h8.set 0 (.string k1)).set 1 (.string k2)).set 2 (.string k3);have hBn:=((hB.setCell (p:=⟨b8,0,none⟩) hl8 (.string k1)).setCell (p:=⟨b8,1,none⟩) hl8 (.string k2)).setCell (p:=⟨b8,2,none⟩) hl8 (.string k3);simp only [List.setIfInBounds_toArray,List.set_cons_zero,List.set_cons_succ] at hMn;go_wp2;exact bodyPost_ret (v:= .agg #[.string k1,.string k2,.string k3]) (bk_res1 (fn:=Tryd.f5) (p:=8) results5 _ rfl hMn underlying26 rfl (by kernel_rfl)) rfl ⟨rfl,hBn⟩
end
theorem len_le (x:Nat)(hx:x<2^64):Lib.bitLen x≤64:=Lib.bitLen_le x 64 (Nat.le_refl _) hx
theorem len_up:∀(f x:Nat),x<2^f→x<2^(Lib.bitLenAux f x)
  |0,x,h=>by simpa [Lib.bitLenAux] using h
  | f+1,x,h=>by
    unfold Lib.bitLenAux;split
    · subst_vars;simp
    · have:=len_up f (x/2) (by rw [Nat.pow_succ] at h;omega);rw [Nat.add_comm,Nat.pow_succ];omega
theorem len_lo:∀(f x:Nat),x≠0→x<2^f→1≤Lib.bitLenAux f x∧2^(Lib.bitLenAux f x-1)≤x
  |0,x,h0,h=>by simp at h;omega
  | f +1,x,h0,h=>by
    unfold Lib.bitLenAux;rw [if_neg h0];refine⟨by omega,?_⟩;rw [Nat.add_sub_cancel_left];by_cases h2:x/2=0
    · rw [h2];have:Lib.bitLenAux f 0=0:=by cases f<;>simp [Lib.bitLenAux]
      rw [this];omega
    · obtain⟨q1,q2⟩:=len_lo f (x/2) h2 (by rw [Nat.pow_succ] at h;omega);have:Lib.bitLenAux f (x/2)=(Lib.bitLenAux f (x/2)-1)+1:=by omega
      rw [this,Nat.pow_succ];omega
theorem ret_i64 {a b:Int}(h:a=b):Ending.returned (.int .i64 a)= .returned (.int .i64 b):=by rw [h]
theorem get8 (i:Nat)(h:i<Lib.len8tab.size):((Lib.len8tab[i]'h).toNat:Int)=Lib.bitLen i:=by
  have hs:=Lib.len8tab_size;have:=Lib.len8_of (i:Int) (by omega) (by omega);rw [Int.toNat_natCast] at this;rw [←this,Lib.len8,Int.toNat_natCast,getElem?_pos _ i h];rfl
theorem get8_sh (k x:Nat)(i:Nat)(h:i<Lib.len8tab.size)(hE:i=x/2^k)(hk:k=0∨2^k≤x)(hx:x<2^64):(k:Int)+((Lib.len8tab[i]'h).toNat:Int)=(Lib.bitLen x:Int):=by
  rw [get8,hE];rcases hk with rfl|hk
  · simp
  · rw [Lib.bitLen_shift k x hk hx];omega
theorem wrap64_small (z:Int)(h0:0≤z)(h1:z≤9223372036854775807):wrap64 z=z:=by unfold wrap64;omega
theorem sh_wrap (k x:Nat)(i:Nat)(h:i<Lib.len8tab.size)(hE:i=x/2^k)(hk:k=0∨2^k≤x)(hx:x<2^64)(hk64:k≤64):wrap64 ((k:Int)+wrap64 ((Lib.len8tab[i]'h).toNat:Int))=(Lib.bitLen x:Int):=by
  have e:=get8_sh k x i h hE hk hx;have l:=(Lib.len8tab[i]'h).toNat_lt;generalize (Lib.len8tab[i]'h).toNat=q at*;rw [wrap64_small q (by omega) (by omega),wrap64_small _ (by omega) (by omega)];exact e
theorem sh_wrap0 (x:Nat)(i:Nat)(h:i<Lib.len8tab.size)(hE:i=x)(hx:x<2^64):wrap64 (wrap64 ((Lib.len8tab[i]'h).toNat:Int))=(Lib.bitLen x:Int):=by
  have:=sh_wrap 0 x i h (by rw [hE,Nat.pow_zero,Nat.div_one]) (.inl rfl) hx (by omega);simpa using this
theorem len_int (x:Int)(w:World)(h0:0≤x)(h1:x≤18446744073709551615):
    Calls prog 93 #[int u64 x] w fun e w'=>e= .returned (.int .i64 (Lib.bitLen x.toNat))∧w=w':=by
  go_enter func93,ntmps93;go_wp2
  all_goals first
    |(go_ret;refine⟨ret_i64 ?_,rfl⟩)
    |(exfalso;have hs:=Lib.len8tab_size;omega)
  all_goals have hs:=Lib.len8tab_size
  · exact sh_wrap 56 x.toNat _ _ (by omega) (.inr (by omega)) (by omega) (by omega)
  · exact sh_wrap 48 x.toNat _ _ (by omega) (.inr (by omega)) (by omega) (by omega)
  · exact sh_wrap 40 x.toNat _ _ (by omega) (.inr (by omega)) (by omega) (by omega)
  · exact sh_wrap 32 x.toNat _ _ (by omega) (.inr (by omega)) (by omega) (by omega)
  · exact sh_wrap 24 x.toNat _ _ (by omega) (.inr (by omega)) (by omega) (by omega)
  · exact sh_wrap 16 x.toNat _ _ (by omega) (.inr (by omega)) (by omega) (by omega)
  · exact sh_wrap 8 x.toNat _ _ (by omega) (.inr (by omega)) (by omega) (by omega)
  · exact sh_wrap0 x.toNat _ _ rfl (by omega)
theorem len_nat (x:Nat)(hx:x<18446744073709551616)(w:World):
    Calls prog 93 #[int u64 x] w fun e w'=>e= .returned (.int .i64 (Lib.bitLen x))∧w=w':=by
  have:=len_int (x:Int) w (by omega) (by omega);rwa [Int.toNat_natCast] at this
theorem lead_any (x:Nat)(hx:x<18446744073709551616)(w:World):
    Calls prog 86 #[int u64 x] w fun e w'=>e= .returned (.int .i64 ((64-Lib.bitLen x:Nat):Int))∧w=w':=by
  have L:=len_nat x hx;have hl:=len_le x (by omega);generalize Lib.bitLen x=q at*;clear hx;go_enter func86,ntmps86;go_wp2_with fail;refine(L _).mono ?_;rintro e w' ⟨rfl,rfl⟩;go_wp2;go_ret;exact⟨ret_i64 (by omega),rfl⟩
theorem maskN (a:Nat)(ha:a<18446744073709551616):bits .and .u64 (a:Int) 4294967295=((a%4294967296:Nat):Int):=by
  have h:=bits_and_u64_nat a 4294967295 ha (by omega);rwa [show a&&&4294967295=a%4294967296 from Nat.and_two_pow_sub_one_eq_mod a 32] at h
theorem maskW (z:Int):bits .and .u64 (IntKind.u64.wrap z) 4294967295=IntKind.u64.wrap z%4294967296:=by
  obtain⟨n,hn⟩:∃n:Nat,IntKind.u64.wrap z=n:=⟨(IntKind.u64.wrap z).toNat,by rw [IntKind.wrap_u64];omega⟩;have hl:n<18446744073709551616:=by rw [IntKind.wrap_u64] at hn;omega
  rw [hn,maskN n hl];omega
theorem ret_two {k l:IntKind}{a b c d:Int}(h:a=c)(h2:b=d):Ending.returned (.tuple #[.int k a,.int l b])= .returned (.tuple #[.int k c,.int l d]):=by rw [h,h2]
theorem wrapM (a:Nat):IntKind.u64.wrap (a:Int)=((a%18446744073709551616:Nat):Int):=by rw [IntKind.wrap_u64];omega
theorem mul64_any (x y:Nat)(hx:x<18446744073709551616)(hy:y<18446744073709551616)(w:World):
    Calls prog 78 #[int u64 x,int u64 y] w fun e w'=>e= .returned (.tuple #[int u64 ((x*y/18446744073709551616:Nat):Int),int u64 ((x*y%18446744073709551616:Nat):Int)])∧w=w':=by
  go_enter func78,ntmps78;go_wp2;go_ret2;refine⟨ret_two ?_ ?_,rfl⟩
  · obtain⟨b1,b2,b3,hh⟩:=Lib.mul64_hi x y hx hy;have ba:=Lib.half_mul_le (a:=x/4294967296) (b:=y/4294967296) (by omega) (by omega);have bb:=Lib.half_mul_le (a:=x/4294967296) (b:=y%4294967296) (by omega) (by omega);have bc:=Lib.half_mul_le (a:=x%4294967296) (b:=y/4294967296) (by omega) (by omega);have d0:(x:Int)/4294967296=((x/4294967296:Nat):Int):=by omega
    have d1:(y:Int)/4294967296=((y/4294967296:Nat):Int):=by omega
    rw [maskN x hx,maskN y hy,d0,d1];simp only [maskW,←Int.natCast_mul];simp only [IntKind.wrap_u64];rw [←hh];generalize x/4294967296*(y/4294967296)=p3 at*;generalize x/4294967296*(y%4294967296)=p2 at*;generalize x%4294967296*(y/4294967296)=p1 at*;generalize x%4294967296*(y%4294967296)=p0 at*;clear d0 d1 hh hx hy;omega
  · rw [←Int.natCast_mul,wrapM]
namespace Dv
structure Half (Y a b U d:Nat):Prop where
  y:Y=a*4294967296+b
  b:b<4294967296
  a0:2147483648≤a
  a1:a<4294967296
  u:U<Y
  d:d<4294967296
variable {Y a b U d q r:Nat}
theorem Half.ypos (h:Half Y a b U d):0<Y:=by have:=h.u;omega
theorem Half.small (h:Half Y a b U d):(U*4294967296+d)/Y<4294967296:=by
  rw [Nat.div_lt_iff_lt_mul h.ypos];have:=h.u;have:=h.d;have:(U+1)*4294967296≤Y*4294967296:=Nat.mul_le_mul_right _ (by omega);omega
theorem Half.less (h:Half Y a b U d)(e:q*a+r=U):((U*4294967296+d)/Y<q↔4294967296*r+d<q*b):=by
  rw [Nat.div_lt_iff_lt_mul h.ypos,h.y,Nat.mul_add,←Nat.mul_assoc];generalize q*a=m at*;generalize q*b=n at*;omega
theorem Half.start (h:Half Y a b U d):(U*4294967296+d)/Y≤U/a∧U/a≤4294967297:=by
  have h0:=h.a0;have h1:=h.u;have h2:=h.d;have h3:=h.b;have hy:=h.y;constructor
  · apply Nat.le_of_lt_succ;rw [Nat.div_lt_iff_lt_mul h.ypos,hy];have e:=Nat.lt_mul_div_succ U (show 0<a by omega);have e2:U+1≤(U/a+1)*a:=by rw [Nat.mul_comm];exact e
    have e3:(U+1)*4294967296≤(U/a+1)*a*4294967296:=Nat.mul_le_mul_right _ e2;rw [Nat.mul_add,←Nat.mul_assoc];generalize (U/a).succ*b=z;generalize hz:(U/a+1)*a=t at*;omega
  · apply Nat.le_of_lt_succ;rw [Nat.div_lt_iff_lt_mul (by omega)];omega
theorem Half.over (h:Half Y a b U d)(e:q*a+r=U)(hq:q≤4294967296)(hr:4294967296≤r):q≤(U*4294967296+d)/Y:=by
  rw [Nat.le_div_iff_mul_le h.ypos,h.y,Nat.mul_add,←Nat.mul_assoc];have h1:q*b≤4294967296*r:=Nat.mul_le_mul hq (by have:=h.b;omega);generalize q*a=m at*;generalize q*b=n at*;omega
theorem two (Y U d0 d1:Nat)(hY:0<Y):((U*4294967296+d1)%Y*4294967296+d0)%Y=(U*18446744073709551616+d1*4294967296+d0)%Y:=by
  have e:U*18446744073709551616+d1*4294967296+d0=(U*4294967296+d1)*4294967296+d0:=by omega
  rw [e,Nat.add_mod,Nat.mod_mul_mod,←Nat.add_mod]
theorem left (z Y:Nat)(hY:Y<18446744073709551616)(h0:0<Y):(((z:Int)%18446744073709551616)-(((z/Y)*Y:Nat):Int)%18446744073709551616)%18446744073709551616=((z%Y:Nat):Int):=by
  have e:=Nat.div_add_mod z Y;rw [Nat.mul_comm] at e;have l:=Nat.mod_lt z h0;generalize z/Y*Y=t at*;generalize z%Y=u at*;omega
theorem shifted (x y s:Nat):(x*2^s)%(y*2^s)/2^s=x%y:=by
  rw [Nat.mul_mod_mul_right,Nat.mul_div_cancel _ (Nat.two_pow_pos s)]
theorem words (hi lo y s:Nat)(hs:s≤63)(hlo:lo<18446744073709551616)(hh:hi<y)(hy:y*2^s<18446744073709551616):
    hi*2^s<18446744073709551616∧lo/2^(64-s)<2^s∧hi*2^s+lo/2^(64-s)<y*2^s∧
    (hi*2^s+lo/2^(64-s))*18446744073709551616+lo*2^s%18446744073709551616=(hi*18446744073709551616+lo)*2^s:=by
  have hp:=Nat.two_pow_pos s;have e1:(hi+1)*2^s≤y*2^s:=Nat.mul_le_mul_right _ hh;rw [Nat.add_mul,Nat.one_mul] at e1;have e2:(2:Nat)^(64-s)*2^s=18446744073709551616:=by rw [←Nat.pow_add,show 64-s+s=64 by omega]
  have e3:lo/2^(64-s)<2^s:=by
    rw [Nat.div_lt_iff_lt_mul (Nat.two_pow_pos _),Nat.mul_comm,e2];exact hlo
  have e4:lo*2^s/18446744073709551616=lo/2^(64-s):=by
    rw [←e2,Nat.mul_div_mul_right _ _ hp]
  refine⟨by omega,e3,by omega,?_⟩;rw [←e4,Nat.add_mul,Nat.add_mul,Nat.mul_right_comm hi];have:=Nat.div_add_mod (lo*2^s) 18446744073709551616;generalize hi*2^s=t at*;generalize lo*2^s=u at*;omega
end Dv
theorem div_zero (lo y:Nat)(w:World)(hy:0<y):
    Calls prog 79 #[int u64 0,int u64 lo,int u64 y] w fun e w'=>(∃z:Int,e= .returned (.tuple #[int u64 z,int u64 ((lo%y:Nat):Int)]))∧(w'=w∨w'=w.drew):=by
  have z0:((y:Int)==0)=false:=by simp;omega
  have z1: ¬ ((y:Int)≤0):=by omega
  go_enter func79,ntmps79;go_wp2
  go_region
  go_wp2;go_ret2;exact⟨⟨IntKind.u64.wrap ((lo:Int)/(y:Int)),by simp⟩,.inr rfl⟩
theorem prep (hi lo y s:Nat)(h0:0<hi)(hh:hi<y)(hy:y<18446744073709551616)(hlo:lo<18446744073709551616)(hs:s=64-Lib.bitLen y):
    s ≤63∧∃Y a b H T U X d1 d0:Nat,IntKind.u64.wrap ((y:Int)*2^s)=Y∧(Y:Int)/4294967296=a∧bits .and .u64 (Y:Int) 4294967295=b∧
      IntKind.u64.wrap ((hi:Int)*2^s)=H∧(lo:Int)/2^(64-s)=T∧bits .or .u64 (H:Int) (T:Int)=U∧IntKind.u64.wrap ((lo:Int)*2^s)=X∧
      (X:Int)/4294967296=d1∧bits .and .u64 (X:Int) 4294967295=d0∧Dv.Half Y a b U d1∧Y<18446744073709551616∧d0<4294967296∧
      (U*18446744073709551616+d1*4294967296+d0)%Y/2^s=(hi*18446744073709551616+lo)%y:=by
  obtain⟨b1,b2⟩:=len_lo 64 y (by omega) (by omega);have b3:=len_up 64 y (by omega);have b4:=len_le y (by omega);change 1≤Lib.bitLen y at b1;change 2^(Lib.bitLen y-1)≤y at b2;change y<2^(Lib.bitLen y) at b3;generalize Lib.bitLen y=L at*;have hs63:s≤63:=by omega
  have p1:(2:Nat)^L*2^s=18446744073709551616:=by rw [←Nat.pow_add,show L+s=64 by omega]
  have p2:(2:Nat)^(L-1)*2^s=9223372036854775808:=by rw [←Nat.pow_add,show L-1+s=63 by omega]
  have q1:y*2^s<18446744073709551616:=by rw [←p1];exact Nat.mul_lt_mul_of_pos_right b3 (Nat.two_pow_pos s)
  have q2:9223372036854775808≤y*2^s:=by rw [←p2];exact Nat.mul_le_mul_right _ b2
  obtain⟨w1,w2,w3,w4⟩:=Dv.words hi lo y s hs63 hlo hh q1;have c:∀n:Nat,(n:Int)*2^s=((n*2^s:Nat):Int):=fun n=>by simp
  have c2:(lo:Int)/2^(64-s)=((lo/2^(64-s):Nat):Int):=by simp
  have e6:=orN (hi*2^s) (lo/2^(64-s)) w1 (by omega);rw [Dv.or_add _ _ _ w2] at e6;have e1:IntKind.u64.wrap ((y:Int)*2^s)=((y*2^s:Nat):Int):=by rw [c,wrapM,Nat.mod_eq_of_lt q1]
  have e4:IntKind.u64.wrap ((hi:Int)*2^s)=((hi*2^s:Nat):Int):=by rw [c,wrapM,Nat.mod_eq_of_lt w1]
  have e7:IntKind.u64.wrap ((lo:Int)*2^s)=((lo*2^s%18446744073709551616:Nat):Int):=by rw [c,wrapM]
  have e3:=maskN (y*2^s) q1;have e9:=maskN (lo*2^s%18446744073709551616) (Nat.mod_lt _ (by decide));have sh:=Dv.shifted (hi*18446744073709551616+lo) y s;rw [←w4] at sh;refine⟨hs63,y*2^s,y*2^s/4294967296,y*2^s%4294967296,hi*2^s,lo/2^(64-s),hi*2^s+lo/2^(64-s),lo*2^s%18446744073709551616,lo*2^s%18446744073709551616/4294967296,lo*2^s%18446744073709551616%4294967296,e1,?_,e3,e4,c2,e6,e7,?_,e9,⟨?_,?_,?_,?_,?_,?_⟩,q1,?_,?_⟩
  · generalize y*2^s=Y at*;omega
  · generalize lo*2^s%18446744073709551616=Y at*;omega
  · generalize y*2^s=Y at*;omega
  · generalize y*2^s=Y at*;omega
  · generalize y*2^s=Y at*;omega
  · generalize y*2^s=Y at*;omega
  · exact w3
  · have:=Nat.mod_lt (lo*2^s) (show 0<18446744073709551616 by decide);clear e1 e3 e4 e6 e7 e9 c c2 sh w4;generalize lo*2^s%18446744073709551616=Y at*;omega
  · generalize lo*2^s%18446744073709551616=Y at*;omega
  · rw [←sh];clear e1 e3 e4 e6 e7 e9 c c2 sh w4;generalize hi*2^s+lo/2^(64-s)=U;generalize lo*2^s%18446744073709551616=X;have:U*18446744073709551616+X/4294967296*4294967296+X%4294967296=U*18446744073709551616+X:=by omega
    rw [this]
theorem turn {Y a b U d q r:Nat}(h:Dv.Half Y a b U d)(i1:q*a+r=U)(i2:(U*4294967296+d)/Y≤q)(i3:q≤4294967297)(i4:r<4294967296):
    (∃n z v:Nat,¬ ((4294967296:Int)≤q)∧IntKind.u64.wrap ((q:Int)*(b:Int))=n∧IntKind.u64.wrap (4294967296*(r:Int))=z∧IntKind.u64.wrap ((z:Int)+(d:Int))=v∧
      (¬ ((v:Int)<(n:Int))∧q=(U*4294967296+d)/Y∨(v:Int)<(n:Int)∧(U*4294967296+d)/Y<q))∨((4294967296:Int)≤q∧(U*4294967296+d)/Y<q):=by
  have hb:=h.b;have hd:=h.d;by_cases k1:4294967296≤q
  · exact .inr ⟨by omega,by have:=h.small;omega⟩
  · refine .inl ⟨q*b,4294967296*r,4294967296*r+d,by omega,?_,?_,?_,?_⟩
    · rw [←Int.natCast_mul,wrapM,Nat.mod_eq_of_lt];have:q*b≤4294967295*4294967295:=Nat.mul_le_mul (by omega) (by omega);omega
    · rw [IntKind.wrap_u64];omega
    · rw [IntKind.wrap_u64];omega
    · have e:=h.less (q:=q) (r:=r) i1;by_cases k2:4294967296*r+d<q*b
      · exact .inr ⟨by omega,e.2 k2⟩
      · refine .inl ⟨by omega,?_⟩;have: ¬ (U*4294967296+d)/Y<q:=fun h=>k2 (e.1 h)
        omega
theorem turned {Y a b U d q r:Nat}(h:Dv.Half Y a b U d)(i1:q*a+r=U)(i3:q≤4294967297)(i4:r<4294967296)(k:(U*4294967296+d)/Y<q):
    ∃ p t:Nat,IntKind.u64.wrap ((q:Int)-1)=p∧IntKind.u64.wrap ((r:Int)+(a:Int))=t∧p<q∧
      ((4294967296:Int)≤t∧p=(U*4294967296+d)/Y∨ ¬ ((4294967296:Int)≤t)∧(p*a+t=U∧(U*4294967296+d)/Y≤p∧p≤4294967297∧t<4294967296)):=by
  have ha:=h.a1;have ho:∀p t,p*a+t=U→p≤4294967296→4294967296≤t→p≤(U*4294967296+d)/Y:=fun p t=>h.over
  generalize (U*4294967296+d)/Y=Q at*;obtain⟨p,rfl⟩:∃p,q=p+1:=⟨q-1,by omega⟩;have e:p*a+(r+a)=U:=by rw [←i1,Nat.add_mul,Nat.one_mul];omega
  refine⟨p,r+a,by rw [IntKind.wrap_u64];omega,by rw [IntKind.wrap_u64];omega,by omega,?_⟩;by_cases k3:4294967296≤r+a
  · refine .inl ⟨by omega,?_⟩;have:=ho _ _ e (by omega) k3;omega
  · exact .inr ⟨by omega,e,by omega,by omega,by omega⟩
theorem rest {Y a b U d k:Nat}(h:Dv.Half Y a b U d)(hY:Y<18446744073709551616)(hk:k=(U*4294967296+d)/Y):
    ∃A1 A2 A3 V:Nat,IntKind.u64.wrap ((U:Int)*4294967296)=A1∧IntKind.u64.wrap ((A1:Int)+(d:Int))=A2∧IntKind.u64.wrap ((k:Int)*(Y:Int))=A3∧IntKind.u64.wrap ((A2:Int)-(A3:Int))=V∧V=(U*4294967296+d)%Y:=by
  have e:=Dv.left (U*4294967296+d) Y hY h.ypos;rw [←hk] at e;refine⟨U*4294967296%18446744073709551616,(U*4294967296+d)%18446744073709551616,k*Y%18446744073709551616,(U*4294967296+d)%Y,?_,?_,?_,?_,rfl⟩
  · rw [IntKind.wrap_u64];omega
  · rw [IntKind.wrap_u64];omega
  · rw [←Int.natCast_mul,wrapM]
  · rw [IntKind.wrap_u64,←e];generalize k*Y=z;omega
theorem guess {Y a b U d:Nat}(hf:Dv.Half Y a b U d)(hY:Y<18446744073709551616):
    ∃ q r m:Nat,(U:Int)/(a:Int)=q∧IntKind.u64.wrap (q:Int)=q∧IntKind.u64.wrap ((q:Int)*(a:Int))=m∧IntKind.u64.wrap ((U:Int)-(m:Int))=r∧
      (q*a+r=U∧(U*4294967296+d)/Y≤q∧q≤4294967297∧r<4294967296):=by
  have ha0:=hf.a0;have ha1:=hf.a1;have hu:=hf.u;have hst:=hf.start;have hd:=Nat.div_add_mod U a;have hl:=Nat.mod_lt U (show 0<a by omega);have hql:U/a≤U:=Nat.div_le_self _ _;refine⟨U/a,U%a,U/a*a,by simp,?_,?_,?_,?_,hst.1,hst.2,by omega⟩
  · rw [wrapM,Nat.mod_eq_of_lt (by omega)]
  · rw [←Int.natCast_mul,wrapM,Nat.mod_eq_of_lt];rw [Nat.mul_comm];generalize a*(U/a)=z at*;omega
  · rw [Nat.mul_comm a] at hd;generalize U/a*a=z at*;rw [IntKind.wrap_u64];omega
  · rw [Nat.mul_comm a] at hd;exact hd
theorem div_more (hi lo y:Nat)(w:World)(h0:0<hi)(hh:hi<y)(hy:y<18446744073709551616)(hlo:lo<18446744073709551616):
    Calls prog 79 #[int u64 hi,int u64 lo,int u64 y] w fun e w'=>(∃z:Int,e= .returned (.tuple #[int u64 z,int u64 (((hi*18446744073709551616+lo)%y:Nat):Int)]))∧(w'=w∨w'=w.drew):=by
  have z0:((y:Int)==0)=false:=by simp;omega
  have z1: ¬ ((y:Int)≤(hi:Int)):=by omega
  have z2:((hi:Int)==0)=false:=by simp;omega
  have L:=lead_any y hy;obtain⟨s,hs⟩:∃s,s=64-Lib.bitLen y:=⟨_,rfl⟩;obtain⟨hs63,Y,a,b,H,T,U,X,d1,d0,e1,e2,e3,e4,e5,e6,e7,e8,e9,hf,hY,hd0,hres⟩:=prep hi lo y s h0 hh hy hlo hs;rw [←hs] at L;obtain⟨res,hr'⟩:∃res,res=(hi*18446744073709551616+lo)%y:=⟨_,rfl⟩;rw [←hr'] at hres⊢;clear hr';have hres:Hid ((U*18446744073709551616+d1*4294967296+d0)%Y/2^s=res):=hres;have z4: ¬ (a=0):=by have:=hf.a0;omega
  obtain⟨q,r,m,f1,f2,f3,f4,f5⟩:=guess hf hY;have hF:Hid (q*a+r=U∧(U*4294967296+d1)/Y≤q∧q≤4294967297∧r<4294967296):=f5;have hHf:Hid (Dv.Half Y a b U d1∧Y<18446744073709551616∧d0<4294967296):=⟨hf,hY,hd0⟩;clear hs hh h0 hlo hy hY hd0 hf f5;go_enter func79,ntmps79;go_wp2_with fail;refine(L _).mono ?_;rintro e w' ⟨rfl,rfl⟩;clear L;go_wp2
  go_loop [15,16] (fun qv rv=>∃q r:Nat,qv=int u64 (q:Int)∧rv=int u64 (r:Int)∧Hid (q*a+r=U∧(U*4294967296+d1)/Y≤q∧q≤4294967297∧r<4294967296)) (fun qv _=>(intOf qv).toNat)
  case atStart=>exact ⟨q,r,rfl,rfl,hF⟩
  case round=>
    clear f1 f2 f3 f4 hF;obtain⟨g,x,rfl,rfl,hI⟩:=hrel;obtain⟨i1,i2,i3,i4⟩:=hI.out;rcases turn hHf.out.1 i1 i2 i3 i4 with ⟨n,z,v,j1,j2,j3,j4,⟨j5,j6⟩|⟨j5,j6⟩⟩|⟨j1,j6⟩
    case inl.inl=>
      have hx:Hid (g=(U*4294967296+d1)/Y):=j6;clear hI i1 i2 i3 i4 j6;obtain⟨A1,A2,A3,V,n1,n2,n3,n4,n5⟩:=rest hHf.out.1 hHf.out.2.1 hx.out;have hg:Hid (Dv.Half Y a b V d0∧Y<18446744073709551616∧V=(U*4294967296+d1)%Y):=⟨⟨hHf.out.1.y,hHf.out.1.b,hHf.out.1.a0,hHf.out.1.a1,by rw [n5];exact Nat.mod_lt _ hHf.out.1.ypos,hHf.out.2.2⟩,hHf.out.2.1,n5⟩;obtain⟨q2,r2,m2,g1,g2,g3,g4,g5⟩:=guess hg.out.1 hg.out.2.1;have hG:Hid (q2*a+r2=V∧(V*4294967296+d0)/Y≤q2∧q2≤4294967297∧r2<4294967296):=g5;clear hx n5 hHf g5;go_wp2
      go_loop [18,16] (fun qv rv=>∃q r:Nat,qv=int u64 (q:Int)∧rv=int u64 (r:Int)∧Hid (q*a+r=V∧(V*4294967296+d0)/Y≤q∧q≤4294967297∧r<4294967296)) (fun qv _=>(intOf qv).toNat)
      case atStart=>exact ⟨q2,r2,rfl,rfl,hG⟩
      case round=>
        clear g1 g2 g3 g4 hG n1 n2 n3 n4;obtain⟨g',x',rfl,rfl,hI⟩:=hrel;obtain⟨i1,i2,i3,i4⟩:=hI.out;rcases turn hg.out.1 i1 i2 i3 i4 with ⟨n',z',v',j1,j2,j3,j4,⟨j5,j6⟩|⟨j5,j6⟩⟩|⟨j1,j6⟩
        case inl.inl=>
          have hx:Hid (g'=(V*4294967296+d0)/Y):=j6;clear hI i1 i2 i3 i4 j6;obtain⟨C1,C2,C3,R,s1,s2,s3,s4,s5⟩:=rest hg.out.1 hg.out.2.1 hx.out;have s6:(R:Int)/2^s=((R/2^s:Nat):Int):=by simp
          have s7:R/2^s=res:=by rw [s5,hg.out.2.2,Dv.two _ _ _ _ hg.out.1.ypos];exact hres.out
          rw [s7] at s6;clear s5 hx s7;go_wp2;go_ret2;exact⟨⟨_,ret_two rfl rfl⟩,.inl rfl⟩
        case inl.inr=>
          obtain⟨p',t',j7,j8,j9,⟨j10,j11⟩|⟨j10,j11⟩⟩:=turned hg.out.1 i1 i3 i4 j6
          · have hx:Hid (p'=(V*4294967296+d0)/Y):=j11;clear hI i1 i2 i3 i4 j11 j9 j6;obtain⟨C1,C2,C3,R,s1,s2,s3,s4,s5⟩:=rest hg.out.1 hg.out.2.1 hx.out;have s6:(R:Int)/2^s=((R/2^s:Nat):Int):=by simp
            have s7:R/2^s=res:=by rw [s5,hg.out.2.2,Dv.two _ _ _ _ hg.out.1.ypos];exact hres.out
            rw [s7] at s6;clear s5 hx s7;go_wp2;go_ret2;exact⟨⟨_,ret_two rfl rfl⟩,.inl rfl⟩
          · have hx:Hid (p'*a+t'=V∧(V*4294967296+d0)/Y≤p'∧p'≤4294967297∧t'<4294967296):=j11;clear hI i1 i2 i3 i4 j11 j6;go_wp2;go_round
            case rel=>exact ⟨p',t',rfl,rfl,hx⟩
            case measure=>simp [intOf];omega
        case inr=>
          obtain⟨p',t',j7,j8,j9,⟨j10,j11⟩|⟨j10,j11⟩⟩:=turned hg.out.1 i1 i3 i4 j6
          · have hx:Hid (p'=(V*4294967296+d0)/Y):=j11;clear hI i1 i2 i3 i4 j11 j9 j6;obtain⟨C1,C2,C3,R,s1,s2,s3,s4,s5⟩:=rest hg.out.1 hg.out.2.1 hx.out;have s6:(R:Int)/2^s=((R/2^s:Nat):Int):=by simp
            have s7:R/2^s=res:=by rw [s5,hg.out.2.2,Dv.two _ _ _ _ hg.out.1.ypos];exact hres.out
            rw [s7] at s6;clear s5 hx s7;go_wp2;go_ret2;exact⟨⟨_,ret_two rfl rfl⟩,.inl rfl⟩
          · have hx:Hid (p'*a+t'=V∧(V*4294967296+d0)/Y≤p'∧p'≤4294967297∧t'<4294967296):=j11;clear hI i1 i2 i3 i4 j11 j6;go_wp2;go_round
            case rel=>exact ⟨p',t',rfl,rfl,hx⟩
            case measure=>simp [intOf];omega
    case inl.inr=>
      obtain⟨p,t,j7,j8,j9,⟨j10,j11⟩|⟨j10,j11⟩⟩:=turned hHf.out.1 i1 i3 i4 j6
      · have hx:Hid (p=(U*4294967296+d1)/Y):=j11;clear hI i1 i2 i3 i4 j11 j9 j6;obtain⟨A1,A2,A3,V,n1,n2,n3,n4,n5⟩:=rest hHf.out.1 hHf.out.2.1 hx.out;have hg:Hid (Dv.Half Y a b V d0∧Y<18446744073709551616∧V=(U*4294967296+d1)%Y):=⟨⟨hHf.out.1.y,hHf.out.1.b,hHf.out.1.a0,hHf.out.1.a1,by rw [n5];exact Nat.mod_lt _ hHf.out.1.ypos,hHf.out.2.2⟩,hHf.out.2.1,n5⟩;obtain⟨q2,r2,m2,g1,g2,g3,g4,g5⟩:=guess hg.out.1 hg.out.2.1;have hG:Hid (q2*a+r2=V∧(V*4294967296+d0)/Y≤q2∧q2≤4294967297∧r2<4294967296):=g5;clear hx n5 hHf g5;go_wp2
        go_loop [18,16] (fun qv rv=>∃q r:Nat,qv=int u64 (q:Int)∧rv=int u64 (r:Int)∧Hid (q*a+r=V∧(V*4294967296+d0)/Y≤q∧q≤4294967297∧r<4294967296)) (fun qv _=>(intOf qv).toNat)
        case atStart=>exact ⟨q2,r2,rfl,rfl,hG⟩
        case round=>
          clear g1 g2 g3 g4 hG n1 n2 n3 n4;obtain⟨g',x',rfl,rfl,hI⟩:=hrel;obtain⟨i1,i2,i3,i4⟩:=hI.out;rcases turn hg.out.1 i1 i2 i3 i4 with ⟨n',z',v',j1,j2,j3,j4,⟨j5,j6⟩|⟨j5,j6⟩⟩|⟨j1,j6⟩
          case inl.inl=>
            have hx:Hid (g'=(V*4294967296+d0)/Y):=j6;clear hI i1 i2 i3 i4 j6;obtain⟨C1,C2,C3,R,s1,s2,s3,s4,s5⟩:=rest hg.out.1 hg.out.2.1 hx.out;have s6:(R:Int)/2^s=((R/2^s:Nat):Int):=by simp
            have s7:R/2^s=res:=by rw [s5,hg.out.2.2,Dv.two _ _ _ _ hg.out.1.ypos];exact hres.out
            rw [s7] at s6;clear s5 hx s7;go_wp2;go_ret2;exact⟨⟨_,ret_two rfl rfl⟩,.inl rfl⟩
          case inl.inr=>
            obtain⟨p',t',j7,j8,j9,⟨j10,j11⟩|⟨j10,j11⟩⟩:=turned hg.out.1 i1 i3 i4 j6
            · have hx:Hid (p'=(V*4294967296+d0)/Y):=j11;clear hI i1 i2 i3 i4 j11 j9 j6;obtain⟨C1,C2,C3,R,s1,s2,s3,s4,s5⟩:=rest hg.out.1 hg.out.2.1 hx.out;have s6:(R:Int)/2^s=((R/2^s:Nat):Int):=by simp
              have s7:R/2^s=res:=by rw [s5,hg.out.2.2,Dv.two _ _ _ _ hg.out.1.ypos];exact hres.out
              rw [s7] at s6;clear s5 hx s7;go_wp2;go_ret2;exact⟨⟨_,ret_two rfl rfl⟩,.inl rfl⟩
            · have hx:Hid (p'*a+t'=V∧(V*4294967296+d0)/Y≤p'∧p'≤4294967297∧t'<4294967296):=j11;clear hI i1 i2 i3 i4 j11 j6;go_wp2;go_round
              case rel=>exact ⟨p',t',rfl,rfl,hx⟩
              case measure=>simp [intOf];omega
          case inr=>
            obtain⟨p',t',j7,j8,j9,⟨j10,j11⟩|⟨j10,j11⟩⟩:=turned hg.out.1 i1 i3 i4 j6
            · have hx:Hid (p'=(V*4294967296+d0)/Y):=j11;clear hI i1 i2 i3 i4 j11 j9 j6;obtain⟨C1,C2,C3,R,s1,s2,s3,s4,s5⟩:=rest hg.out.1 hg.out.2.1 hx.out;have s6:(R:Int)/2^s=((R/2^s:Nat):Int):=by simp
              have s7:R/2^s=res:=by rw [s5,hg.out.2.2,Dv.two _ _ _ _ hg.out.1.ypos];exact hres.out
              rw [s7] at s6;clear s5 hx s7;go_wp2;go_ret2;exact⟨⟨_,ret_two rfl rfl⟩,.inl rfl⟩
            · have hx:Hid (p'*a+t'=V∧(V*4294967296+d0)/Y≤p'∧p'≤4294967297∧t'<4294967296):=j11;clear hI i1 i2 i3 i4 j11 j6;go_wp2;go_round
              case rel=>exact ⟨p',t',rfl,rfl,hx⟩
              case measure=>simp [intOf];omega
      · have hx:Hid (p*a+t=U∧(U*4294967296+d1)/Y≤p∧p≤4294967297∧t<4294967296):=j11;clear hI i1 i2 i3 i4 j11 j6;go_wp2;go_round
        case rel=>exact ⟨p,t,rfl,rfl,hx⟩
        case measure=>simp [intOf];omega
    case inr=>
      obtain⟨p,t,j7,j8,j9,⟨j10,j11⟩|⟨j10,j11⟩⟩:=turned hHf.out.1 i1 i3 i4 j6
      · have hx:Hid (p=(U*4294967296+d1)/Y):=j11;clear hI i1 i2 i3 i4 j11 j9 j6;obtain⟨A1,A2,A3,V,n1,n2,n3,n4,n5⟩:=rest hHf.out.1 hHf.out.2.1 hx.out;have hg:Hid (Dv.Half Y a b V d0∧Y<18446744073709551616∧V=(U*4294967296+d1)%Y):=⟨⟨hHf.out.1.y,hHf.out.1.b,hHf.out.1.a0,hHf.out.1.a1,by rw [n5];exact Nat.mod_lt _ hHf.out.1.ypos,hHf.out.2.2⟩,hHf.out.2.1,n5⟩;obtain⟨q2,r2,m2,g1,g2,g3,g4,g5⟩:=guess hg.out.1 hg.out.2.1;have hG:Hid (q2*a+r2=V∧(V*4294967296+d0)/Y≤q2∧q2≤4294967297∧r2<4294967296):=g5;clear hx n5 hHf g5;go_wp2
        go_loop [18,16] (fun qv rv=>∃q r:Nat,qv=int u64 (q:Int)∧rv=int u64 (r:Int)∧Hid (q*a+r=V∧(V*4294967296+d0)/Y≤q∧q≤4294967297∧r<4294967296)) (fun qv _=>(intOf qv).toNat)
        case atStart=>exact ⟨q2,r2,rfl,rfl,hG⟩
        case round=>
          clear g1 g2 g3 g4 hG n1 n2 n3 n4;obtain⟨g',x',rfl,rfl,hI⟩:=hrel;obtain⟨i1,i2,i3,i4⟩:=hI.out;rcases turn hg.out.1 i1 i2 i3 i4 with ⟨n',z',v',j1,j2,j3,j4,⟨j5,j6⟩|⟨j5,j6⟩⟩|⟨j1,j6⟩
          case inl.inl=>
            have hx:Hid (g'=(V*4294967296+d0)/Y):=j6;clear hI i1 i2 i3 i4 j6;obtain⟨C1,C2,C3,R,s1,s2,s3,s4,s5⟩:=rest hg.out.1 hg.out.2.1 hx.out;have s6:(R:Int)/2^s=((R/2^s:Nat):Int):=by simp
            have s7:R/2^s=res:=by rw [s5,hg.out.2.2,Dv.two _ _ _ _ hg.out.1.ypos];exact hres.out
            rw [s7] at s6;clear s5 hx s7;go_wp2;go_ret2;exact⟨⟨_,ret_two rfl rfl⟩,.inl rfl⟩
          case inl.inr=>
            obtain⟨p',t',j7,j8,j9,⟨j10,j11⟩|⟨j10,j11⟩⟩:=turned hg.out.1 i1 i3 i4 j6
            · have hx:Hid (p'=(V*4294967296+d0)/Y):=j11;clear hI i1 i2 i3 i4 j11 j9 j6;obtain⟨C1,C2,C3,R,s1,s2,s3,s4,s5⟩:=rest hg.out.1 hg.out.2.1 hx.out;have s6:(R:Int)/2^s=((R/2^s:Nat):Int):=by simp
              have s7:R/2^s=res:=by rw [s5,hg.out.2.2,Dv.two _ _ _ _ hg.out.1.ypos];exact hres.out
              rw [s7] at s6;clear s5 hx s7;go_wp2;go_ret2;exact⟨⟨_,ret_two rfl rfl⟩,.inl rfl⟩
            · have hx:Hid (p'*a+t'=V∧(V*4294967296+d0)/Y≤p'∧p'≤4294967297∧t'<4294967296):=j11;clear hI i1 i2 i3 i4 j11 j6;go_wp2;go_round
              case rel=>exact ⟨p',t',rfl,rfl,hx⟩
              case measure=>simp [intOf];omega
          case inr=>
            obtain⟨p',t',j7,j8,j9,⟨j10,j11⟩|⟨j10,j11⟩⟩:=turned hg.out.1 i1 i3 i4 j6
            · have hx:Hid (p'=(V*4294967296+d0)/Y):=j11;clear hI i1 i2 i3 i4 j11 j9 j6;obtain⟨C1,C2,C3,R,s1,s2,s3,s4,s5⟩:=rest hg.out.1 hg.out.2.1 hx.out;have s6:(R:Int)/2^s=((R/2^s:Nat):Int):=by simp
              have s7:R/2^s=res:=by rw [s5,hg.out.2.2,Dv.two _ _ _ _ hg.out.1.ypos];exact hres.out
              rw [s7] at s6;clear s5 hx s7;go_wp2;go_ret2;exact⟨⟨_,ret_two rfl rfl⟩,.inl rfl⟩
            · have hx:Hid (p'*a+t'=V∧(V*4294967296+d0)/Y≤p'∧p'≤4294967297∧t'<4294967296):=j11;clear hI i1 i2 i3 i4 j11 j6;go_wp2;go_round
              case rel=>exact ⟨p',t',rfl,rfl,hx⟩
              case measure=>simp [intOf];omega
      · have hx:Hid (p*a+t=U∧(U*4294967296+d1)/Y≤p∧p≤4294967297∧t<4294967296):=j11;clear hI i1 i2 i3 i4 j11 j6;go_wp2;go_round
        case rel=>exact ⟨p,t,rfl,rfl,hx⟩
        case measure=>simp [intOf];omega
theorem div_any (hi lo y:Nat)(w:World)(hh:hi<y)(hy:y<18446744073709551616)(hlo:lo<18446744073709551616):
    Calls prog 79 #[int u64 hi,int u64 lo,int u64 y] w fun e w'=>(∃z:Int,e= .returned (.tuple #[int u64 z,int u64 (((hi*18446744073709551616+lo)%y:Nat):Int)]))∧(w'=w∨w'=w.drew):=by
  by_cases h0:hi=0
  · subst h0;rw [Nat.zero_mul,Nat.zero_add];exact div_zero lo y w hh
  · exact div_more hi lo y w (by omega) hh hy hlo
theorem methP (w:World):(method 259 77 (.agg #[]) "loop.example/s02095/impl.value").run prog w= .ok (122,.agg #[]) w:=by kernel_rfl
theorem valP (w:World):
    Calls prog 122 #[.agg #[]] w fun e w'=>e= .returned (int u64 2305843009213693951)∧w'=w.alloc (.cells #[] 77):=by
  go_enter func122,ntmps122;go_wp2;go_ret;exact⟨rfl,rfl⟩
theorem foldP:Array.foldl (fun(cs:Array Value) (x:Value×Nat)=>cs.setIfInBounds x.snd x.fst) #[Value.int IntKind.u64 0] (#[]:Array Value).zipIdx 0 0=#[Value.int .u64 0]:=rfl
theorem cellsP:prog.cellsOf 81=1:=by kernel_rfl
theorem byteP:byteOfCell prog prog.depth 81 0=some 0:=by kernel_rfl
theorem partP {W:World}{b:Nat}{cs:Array Value}(hW:W.heap[b]? =some (.cells cs 81)):(partAt ⟨b,0,none⟩ 0 0).run prog W= .ok ⟨b,0,none⟩ W:=by
  have h:(byteOf ⟨b,0,none⟩).run prog W= .ok 0 W:=by
    have hs:W.shape? b=some (81,cs.size):=by simp [World.shape?,hW]
    simp [byteOf,noView,viewAt,shape,program,Sem.run,hs,cellsP,byteP,go_sem]
  simp [partAt,h,go_sem]
theorem timP_any (a b:Nat)(w:World)(ha:a<2305843009213693951)(hb:b<2305843009213693951):
    Cr 57 #[.agg #[int u64 a],.agg #[int u64 b]] w (.agg #[int u64 (a*b%2305843009213693951:Nat)]):=by
  have hme:=methP;have hf:=foldP;have M:=mul64_any a b (by omega) (by omega)
  have D:=fun w=>div_any (a*b/18446744073709551616) (a*b%18446744073709551616) 2305843009213693951 w (by
    rw [Nat.div_lt_iff_lt_mul (by decide)];have:a*b≤2305843009213693950*2305843009213693950:=Nat.mul_le_mul (by omega) (by omega)
    omega) (by decide) (Nat.mod_lt _ (by decide))
  have e:a*b/18446744073709551616*18446744073709551616+a*b%18446744073709551616=a*b:=by omega
  rw [e] at D;clear e;generalize a*b/18446744073709551616=hi at*;generalize a*b%18446744073709551616=lo at*;obtain⟨c,hc⟩:∃c,c=a*b%2305843009213693951:=⟨_,rfl⟩;rw [←hc] at D⊢;clear hc ha hb;obtain⟨X,hX⟩:∃X,X=((w.alloc (Obj.cells #[int u64 (a:Int)] 81)).alloc (Obj.cells #[int u64 (b:Int)] 81)).alloc (Obj.cells #[int u64 0] 81):=⟨_,rfl⟩
  have hX0:X.heap[w.heap.size]? =some (.cells #[int u64 (a:Int)] 81):=by
    rw [hX];exact(Below.heap_alloc _ _ _ (by simp;omega)).trans ((Below.heap_alloc _ _ _ (by simp)).trans (heap_alloc_new w _))
  have hp1:=partP hX0;have hX1:(X.alloc (Obj.cells #[] 77)).heap[w.heap.size]? =some (.cells #[int u64 (a:Int)] 81):=(Below.heap_alloc _ _ _ (Array.getElem?_eq_some_iff.1 hX0).1).trans hX0;have hp2:=partP hX1;have hp3:=partP (W:=(X.alloc (Obj.cells #[] 77)).drew) hX1;rw [hX] at hp1 hp2 hp3;clear hX hX0 hX1;go_enter func57,ntmps57;go_wp2_with fail;refine(M _).mono ?_;rintro e w' ⟨rfl,rfl⟩;go_wp2_with fail;refine(valP _).mono ?_;rintro e w' ⟨rfl,rfl⟩;go_wp2_with fail;refine(D _).mono ?_;rintro e w' ⟨⟨z,rfl⟩,rfl|rfl⟩
  · go_wp2;refine bodyPost_ret (v:= .agg #[int u64 c]) (by simp [results,results57,go_sem]) rfl ⟨rfl,?_⟩;exact((((Below.refl _ _).alloc (Nat.le_refl _) _).alloc (by simp) _).alloc (by simp;omega) _).alloc (by simp;omega) _
  · go_wp2;refine bodyPost_ret (v:= .agg #[int u64 c]) (by simp [results,results57,go_sem]) rfl ⟨rfl,?_⟩;exact(((((Below.refl _ _).alloc (Nat.le_refl _) _).alloc (by simp) _).alloc (by simp;omega) _).alloc (by simp;omega) _).drew
end Go.Proofs.YtijmldjijnpnoaaDoor
