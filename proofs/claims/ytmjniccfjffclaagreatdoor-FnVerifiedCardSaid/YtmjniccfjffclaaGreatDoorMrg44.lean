import Derived.Test.YtmjniccfjffclaaGreatDoorMrg34
set_option linter.unusedVariables false
set_option maxRecDepth 100000
set_option maxHeartbeats 16000000
namespace Go.Proofs.YtmjniccfjffclaaGreatDoor
open Go.Proofs.Tryz Go.RowKit
open Go.Value (int)
open Go.IntKind (u64)
section
open M
theorem wth0 (t:ByteArray)(w:World)(hz:t.size≤300000):
    Cr 119 #[.string t,.slice none 0 0] w (.string t):=by
  have hB0:Lib.IsBuilder 227 5 w.heap.size w.heap.size [] (w.alloc (.cells #[.pointer none,.slice none 0 0] 227)):=
    .inl ⟨Nat.le_refl _,.slice none 0 0,heap_alloc_new w _,⟨rfl,.inl ⟨rfl,rfl⟩⟩,by simp [Value.ownBlock]⟩
  have hb0:=balc w (Obj.cells #[.pointer none,.slice none 0 0] 227);have W1:=Any.Builder_WriteString (P:=prog) (ρ:=renRepeat) {laysRepeat with} extraRepeat w.heap.size w.heap.size [] t (w.alloc (.cells #[.pointer none,.slice none 0 0] 227)) hB0 (by simp;omega) (by simp);go_enter func119,ntmps119;go_wp2_with fail;refine W1.mono ?_;rintro e w1 ⟨rfl,hB1,b1⟩;replace hb0:=hb0.trans b1;clear W1 hB0 b1
  have hB1':Lib.BuilderAt 227 5 w.heap.size w.heap.size (.pointer (some ⟨w.heap.size,0,none⟩)) (Lib.byteCells t.data.toList) w1:=by
    have: []++Lib.strCells t=Lib.byteCells t.data.toList:=by simp [strCells_byt]
    rw [←this];exact hB1
  clear hB1;have S1:=Any.Builder_String_any (P:=prog) (ρ:=renRepeat) {laysRepeat with} extraRepeat w.heap.size w.heap.size t.data.toList w1 (.inr hB1') hb0.size;rw [mk_data] at S1;go_wp2;refine wp_loop_rounds 1 ?_;rw [rounds_succ];go_wp2_with fail;refine S1.mono ?_;rintro e w2 ⟨rfl,b2⟩;go_wp2;go_ret;exact⟨rfl,hb0.trans b2⟩
theorem wth2 (t:ByteArray)(u:Pt)(i:Nat)(w:World)(h:t.size≤200000)(hr:w.heap[i]? =some (.cells #[.iface 75 (.agg #[int u64 (px u),int u64 (py u),.bool (pb u)]),.iface 196 (.string finW)] 231)):
    Cr 119 #[.string t,.slice (some ⟨i,0,none⟩) 2 2] w (.string (t++sizB (ptB u)++finW)):=by
  have:=with_blk t [(.iface 75 (.agg #[int u64 (px u),int u64 (py u),.bool (pb u)]),sizB (ptB u)),(.iface 196 (.string finW),finW)] i 2 _ _ w hr rfl rfl (by omega) (by
    intro vs hvs;simp only [List.mem_cons,List.not_mem_nil,or_false] at hvs;rcases hvs with rfl|rfl
    · exact writC u
    · exact writP finW) (by
      show(t++sizB (ptB u)++finW).size≤_
      rw [ByteArray.size_append,ByteArray.size_append,sizB_size,ptB_size,show finW.size=8 from rfl];omega)
  exact this
theorem nopI (info:ByteArray)(w:World):
    Cr 140 #[.string info] w (.slice none 0 0):=by
  go_enter func140,ntmps140;go_wp2;go_ret;exact⟨rfl,Below.refl _ _⟩
theorem ipaI (info:ByteArray)(w:World):
    Calls prog 148 #[.string info] w fun e w'=>∃x,e= .returned (.slice (some ⟨x,0,none⟩) 1 1)∧w'.heap[x]? =some (.cells #[.iface 211 (.string info)] 231)∧Bl w w':=by
  go_enter func148,ntmps148;go_wp2;go_ret;exact⟨_,rfl,heap_alloc_new w _,(Below.refl _ w).alloc (Nat.le_refl _) _⟩
theorem G.last_same {kinds:List G.Knd}(obs:List Obj)(h:∀F R,G.Knd.got F R∈kinds→G.Lasts R obs∧∀x (w w':World),R x w→(∀k:Nat,w'.heap[k]? =w.heap[k]?)→R x w')(ho:∀ob ob' k,G.Knd.new ob ob' k∈kinds→ob=ob'∨ob∈obs)(ho2:∀b ob ob',G.Knd.set b ob ob'∈kinds→ob∈obs):G.Last (G.kindOf kinds):=by
  intro i F R hk;obtain⟨h1,h2⟩:=h F R (G.kind_mem hk (by simp));refine⟨h1.below,fun x w w' b j ob ob' hj hR hb hT=> ?_⟩;rcases hj with ⟨k,hj⟩|hj
  · rcases ho ob ob' k (G.kind_mem hj (by simp)) with e|e
    · subst e;refine h2 x w w' hR (fun k=> ?_);by_cases hkb:k=b
      · subst hkb;rw [hT.self,hb]
      · exact hT.other k hkb
    · exact h1.turned x w w' b ob ob' hR e hb hT
  · exact h1.turned x w w' b ob ob' hR (ho2 b ob ob' (G.kind_mem hj (by simp))) hb hT
abbrev slP (x:Nat):Value:= .slice (some ⟨x,0,none⟩) 1 1
abbrev cePart (info:ByteArray)(x:Nat)(w:World):Prop:=w.heap[x]? =some (.cells #[.iface 211 (.string info)] 231)
theorem cePart_lasts (info:ByteArray)(obs:List Obj)(h:∀ob∈obs,∃cs t,ob= .cells cs t∧t≠231):G.Lasts (cePart info) obs:=
  ⟨fun x w w' hx hb=>(hb.block x (Array.getElem?_eq_some_iff.1 hx).1).trans hx,fun x w w' b ob ob' hx hm hb hT=>by
    by_cases e:x=b
    · subst e;obtain⟨cs,t,rfl,ht⟩:=h ob hm;unfold cePart at hx;rw [hb] at hx;cases hx;exact absurd rfl ht
    · exact(hT.other x e).trans hx⟩
section
variable (cx info input T1 T2 TX R:ByteArray)(u:Pt)(F0 F1 F2 F3 F4 F5 F6:FuncId)(w:World)(hT:TabK w)
    (E6:∀(args:Array Value) (w:World),(callFunc F6 args).run prog w= .ok (.enter F6 args) w)
    (Q1:∀i (w:World),w.heap[i]? =some (.cells #[.iface 211 (.string input)] 231)→Cr 119 #[.string ⟨#[]⟩,.slice (some ⟨i,0,none⟩) 1 1] w (.string T1))
    (QH:∀g w,TabK w→w.heap[g]? =some (.cells #[.string TX] 9)→Cr 130 #[.slice (some ⟨g,0,none⟩) 1 1] w (.string R))
include hT E6 Q1 QH
theorem outI_noof
    (HS:Cc F6 #[.string info] (.slice none 0 0))
    (Q2:Cc 119 #[.string T1,.slice none 0 0] (.string T1))
    (Q3:∀i (w:World),w.heap[i]? =some (.cells #[.iface 75 (.agg #[int u64 (px u),int u64 (py u),.bool (pb u)]),.iface 196 (.string finW)] 231)→Cr 119 #[.string T1,.slice (some ⟨i,0,none⟩) 2 2] w (.string TX)):
    Cr 96 #[.agg #[.string cx,.string info,.func (.func F0) #[] #[],.func (.func F1) #[] #[],.func (.func F2) #[] #[],.func (.func F3) #[] #[],.func (.func F4) #[] #[],.func (.func F5) #[] #[],.func (.func F6) #[] #[]],.string input,.agg #[int u64 (px u),int u64 (py u),.bool (pb u)]] w (.string R):=by
  have hgw:7<w.heap.size:=World.block_lt_of_cell? w _ (hT 0 (by omega));obtain⟨X,hX⟩:∃X,X=(w.alloc (Obj.cells #[.string cx,.string info,.func (.func F0) #[] #[],.func (.func F1) #[] #[],.func (.func F2) #[] #[],.func (.func F3) #[] #[],.func (.func F4) #[] #[],.func (.func F5) #[] #[],.func (.func F6) #[] #[]] 130)).alloc (Obj.cells #[int u64 (px u),int u64 (py u),.bool (pb u)] 75):=⟨_,rfl⟩;have r0:Bk X 130 w.heap.size #[.string cx,.string info,.func (.func F0) #[] #[],.func (.func F1) #[] #[],.func (.func F2) #[] #[],.func (.func F3) #[] #[],.func (.func F4) #[] #[],.func (.func F5) #[] #[],.func (.func F6) #[] #[]]:=by rw [hX];exact(Bk.new _ _ _).alloc _
  have r1:K3 X 75 (w.heap.size+1) (px u) (py u) (pb u):=by rw [hX];exact(K3.new _ _ _ _ _).at (by simp)
  have hb:Bl w X:=by rw [hX];exact((Below.refl _ w).alloc (Nat.le_refl _) _).alloc (by simp) _
  go_enter func96,ntmps96;go_wp2;rw [←hX];clear hX;have s1:X.drew.cell? ⟨w.heap.size,1,none⟩=_:=r0.cell (k:=1) rfl;have s8:X.drew.cell? ⟨w.heap.size,8,none⟩=_:=r0.cell (k:=8) rfl;have u0:X.drew.cell? ⟨w.heap.size+1,0,none⟩=_:=r1.c0;have u1:X.drew.cell? ⟨w.heap.size+1,1,none⟩=_:=r1.c1;have u2:X.drew.cell? ⟨w.heap.size+1,2,none⟩=_:=r1.c2
  refine G.pool_list (W:=X) [] [.val (.string input),
      .val (.iface 211 (.string input)),
      .new (.cells #[.iface 211 (.string input)] 231) (.cells #[.iface 211 (.string input)] 231) 1001,
      .val (.string T1),
      .val (.pointer (some ⟨w.heap.size,2,none⟩)),
      .val (.pointer (some ⟨w.heap.size,8,none⟩)),
      .val (.func (.func F6) #[] #[]),
      .val (.pointer (some ⟨w.heap.size,0,none⟩)),
      .val (.pointer (some ⟨w.heap.size,1,none⟩)),
      .val (.string info),
      .val (.slice none 0 0),
      .val (.string T1),
      .val (.agg #[int u64 (px u),int u64 (py u),.bool (pb u)]),
      .val (.iface 75 (.agg #[int u64 (px u),int u64 (py u),.bool (pb u)])),
      .val (.iface 196 (.string finW)),
      .new (.cells #[.iface 75 (.agg #[int u64 (px u),int u64 (py u),.bool (pb u)]),.iface 196 (.string finW)] 231) (.cells #[.iface 75 (.agg #[int u64 (px u),int u64 (py u),.bool (pb u)]),.iface 196 (.string finW)] 231) 1002,
      .val (.string TX),
      .val (.string TX)] [[1],[8],[9],[10],[3],[12],[13],[3],[15],[16],[14,17],[11,18],[5],[20],[],[21,22],[19,23],[24]] (fun f=> [(some 8,.string input),(some 9,.iface 211 (.string input)),(some 10,.slice (some ⟨f 2,0,none⟩) 1 1),(some 11,.string T1),(some 12,.pointer (some ⟨w.heap.size,2,none⟩)),(some 13,.pointer (some ⟨w.heap.size,8,none⟩)),(some 14,.func (.func F6) #[] #[]),(some 15,.pointer (some ⟨w.heap.size,0,none⟩)),(some 16,.pointer (some ⟨w.heap.size,1,none⟩)),(some 17,.string info),(some 18,.slice none 0 0),(some 19,.string T1),(some 20,.agg #[int u64 (px u),int u64 (py u),.bool (pb u)]),(some 21,.iface 75 (.agg #[int u64 (px u),int u64 (py u),.bool (pb u)])),(some 22,.iface 196 (.string finW)),(some 23,.slice (some ⟨f 15,0,none⟩) 2 2),(some 24,.string TX),(some 7,.string TX)]) (by kernel_rfl) (by kernel_rfl) (by kernel_rfl) (by kernel_rfl) (fun _=>by kernel_rfl) (G.last_of [.cells #[.iface 211 (.string input)] 231,.cells #[.iface 75 (.agg #[int u64 (px u),int u64 (py u),.bool (pb u)]),.iface 196 (.string finW)] 231] (fun F R hm=>by simp at hm) (fun ob ob' k hm=>by simp at hm;rcases hm with h|h<;>simp [h]) (fun b ob ob' hm=>by simp at hm)) (fun b ob ob' hm=>by simp at hm) ?_ ?_
  · intro ix hix
    match ix,hix with
    |0,_=>exact G.obv [(1,.string input)] rfl rfl (fun A w ⟨e0,_⟩ hB=>doV_move e0)
    |1,_=>exact G.obv [(8,.string input)] rfl rfl (fun A w ⟨e0,_⟩ hB=>mi_sized e0)
    |2,_=>exact G.ob_slc 1 [(9,.iface 211 (.string input))] rfl rfl (fun _=>by kernel_rfl) (fun A w ⟨e0,_⟩=>sl_parts1 e0)
    |3,_=>exact G.ob_use 10 2 1001 (.cells #[.iface 211 (.string input)] 231) (fun f=> [(10,.slice (some ⟨f 2,0,none⟩) 1 1)]) rfl rfl (by decide) (by kernel_rfl) rfl (fun _=>by kernel_rfl) (fun f A w ⟨e0,_⟩ hB hr=>cl2 cf_impl_transcript_with rfl e0 (Q1 _ w hr))
    |4,_=>exact G.obv [(3,.pointer (some ⟨w.heap.size,0,none⟩))] rfl rfl (fun A w ⟨e0,_⟩ hB=>fa_pro1 e0)
    |5,_=>exact G.obv [(12,.pointer (some ⟨w.heap.size,2,none⟩))] rfl rfl (fun A w ⟨e0,_⟩ hB=>fa_rul6 e0)
    |6,_=>exact G.obv [(13,.pointer (some ⟨w.heap.size,8,none⟩))] rfl rfl (fun A w ⟨e0,_⟩ hB=>ld_fn6 e0 (hB.cell s8 (by simp)))
    |7,_=>exact G.obv [(3,.pointer (some ⟨w.heap.size,0,none⟩))] rfl rfl (fun A w ⟨e0,_⟩ hB=>fa_pro0 e0)
    |8,_=>exact G.obv [(15,.pointer (some ⟨w.heap.size,0,none⟩))] rfl rfl (fun A w ⟨e0,_⟩ hB=>fa_set1 e0)
    |9,_=>exact G.obv [(16,.pointer (some ⟨w.heap.size,1,none⟩))] rfl rfl (fun A w ⟨e0,_⟩ hB=>ld_str e0 (hB.cell s1 (by simp)))
    |10,_=>exact G.obv [(14,.func (.func F6) #[] #[]),(17,.string info)] rfl rfl (fun A w ⟨e0,e1,_⟩ hB=>cv1 E6 e0 e1 (HS w))
    |11,_=>exact G.obv [(11,.string T1),(18,.slice none 0 0)] rfl rfl (fun A w ⟨e0,e1,_⟩ hB=>cl2 cf_impl_transcript_with e0 e1 (Q2 w))
    |12,_=>exact G.obv [(5,.pointer (some ⟨w.heap.size+1,0,none⟩))] rfl rfl (fun A w ⟨e0,_⟩ hB=>ld_cp e0 (hB.cell u0 (by simp)) (hB.cell u1 (by simp)) (hB.cell u2 (by simp)))
    |13,_=>exact G.obv [(20,.agg #[int u64 (px u),int u64 (py u),.bool (pb u)])] rfl rfl (fun A w ⟨e0,_⟩ hB=>mi_cp e0)
    |14,_=>exact G.obv [] rfl rfl (fun A w _ hB=>mi_plain rfl)
    |15,_=>exact G.ob_slc 2 [(21,.iface 75 (.agg #[int u64 (px u),int u64 (py u),.bool (pb u)])),(22,.iface 196 (.string finW))] rfl rfl (fun _=>by kernel_rfl) (fun A w ⟨e0,e1,_⟩=>sl_parts2 e0 e1)
    |16,_=>exact G.ob_use 23 15 1002 (.cells #[.iface 75 (.agg #[int u64 (px u),int u64 (py u),.bool (pb u)]),.iface 196 (.string finW)] 231) (fun f=> [(19,.string T1),(23,.slice (some ⟨f 15,0,none⟩) 2 2)]) rfl rfl (by decide) (by kernel_rfl) rfl (fun _=>by kernel_rfl) (fun f A w ⟨e0,e1,_⟩ hB hr=>cl2 cf_impl_transcript_with e0 e1 (Q3 _ w hr))
    |17,_=>exact G.obv [(24,.string TX)] rfl rfl (fun A w ⟨e0,_⟩ hB=>doV_assign e0)
    |ix+18,h=>exact absurd h (by simp)
  intro f W3 hS _ _ _ _;have b3:Bl X W3:=(Below.refl _ X).drew.trans hS.below;replace hb:=hb.tr b3;have hT3:TabK W3:=fun i hi=>(hb.cell (p:=⟨7,i,none⟩) hgw).trans (hT i hi)
  clear hS b3 s1 s8 u0 u1 u2 r0 r1 Q1 Q2 Q3 HS;simp only [puts,List.foldl,Act.put,List.setIfInBounds_toArray,List.set_cons_zero,List.set_cons_succ];have hal:=balc W3 (Obj.cells #[.string TX] 9);have hT4:TabK (W3.alloc (Obj.cells #[.string TX] 9)):=fun i hi=>(hal.cell (p:=⟨7,i,none⟩) (Nat.lt_of_lt_of_le hgw hb.size)).trans (hT3 i hi)
  go_wp2_with fail;refine(QH _ _ hT4 (heap_alloc_new W3 _)).mono ?_;rintro e w4 ⟨rfl,b4⟩;replace hb:=hb.tr hal;replace hb:=hb.tr b4;go_wp2;go_ret;exact⟨rfl,hb⟩
theorem outI_twoof
    (HS:∀w,Calls prog F6 #[.string info] w fun e w'=>∃x,e= .returned (slP x)∧cePart info x w'∧Bl w w')
    (Q2:∀x w,cePart info x w→Cr 119 #[.string T1,slP x] w (.string T2))
    (Q3:∀i (w:World),w.heap[i]? =some (.cells #[.iface 75 (.agg #[int u64 (px u),int u64 (py u),.bool (pb u)]),.iface 196 (.string finW)] 231)→Cr 119 #[.string T2,.slice (some ⟨i,0,none⟩) 2 2] w (.string TX)):
    Cr 96 #[.agg #[.string cx,.string info,.func (.func F0) #[] #[],.func (.func F1) #[] #[],.func (.func F2) #[] #[],.func (.func F3) #[] #[],.func (.func F4) #[] #[],.func (.func F5) #[] #[],.func (.func F6) #[] #[]],.string input,.agg #[int u64 (px u),int u64 (py u),.bool (pb u)]] w (.string R):=by
  have hgw:7<w.heap.size:=World.block_lt_of_cell? w _ (hT 0 (by omega));obtain⟨X,hX⟩:∃X,X=(w.alloc (Obj.cells #[.string cx,.string info,.func (.func F0) #[] #[],.func (.func F1) #[] #[],.func (.func F2) #[] #[],.func (.func F3) #[] #[],.func (.func F4) #[] #[],.func (.func F5) #[] #[],.func (.func F6) #[] #[]] 130)).alloc (Obj.cells #[int u64 (px u),int u64 (py u),.bool (pb u)] 75):=⟨_,rfl⟩;have r0:Bk X 130 w.heap.size #[.string cx,.string info,.func (.func F0) #[] #[],.func (.func F1) #[] #[],.func (.func F2) #[] #[],.func (.func F3) #[] #[],.func (.func F4) #[] #[],.func (.func F5) #[] #[],.func (.func F6) #[] #[]]:=by rw [hX];exact(Bk.new _ _ _).alloc _
  have r1:K3 X 75 (w.heap.size+1) (px u) (py u) (pb u):=by rw [hX];exact(K3.new _ _ _ _ _).at (by simp)
  have hb:Bl w X:=by rw [hX];exact((Below.refl _ w).alloc (Nat.le_refl _) _).alloc (by simp) _
  go_enter func96,ntmps96;go_wp2;rw [←hX];clear hX;have s1:X.drew.cell? ⟨w.heap.size,1,none⟩=_:=r0.cell (k:=1) rfl;have s8:X.drew.cell? ⟨w.heap.size,8,none⟩=_:=r0.cell (k:=8) rfl;have u0:X.drew.cell? ⟨w.heap.size+1,0,none⟩=_:=r1.c0;have u1:X.drew.cell? ⟨w.heap.size+1,1,none⟩=_:=r1.c1;have u2:X.drew.cell? ⟨w.heap.size+1,2,none⟩=_:=r1.c2
  refine G.pool_list (W:=X) [] [.val (.string input),
      .val (.iface 211 (.string input)),
      .new (.cells #[.iface 211 (.string input)] 231) (.cells #[.iface 211 (.string input)] 231) 1001,
      .val (.string T1),
      .val (.pointer (some ⟨w.heap.size,2,none⟩)),
      .val (.pointer (some ⟨w.heap.size,8,none⟩)),
      .val (.func (.func F6) #[] #[]),
      .val (.pointer (some ⟨w.heap.size,0,none⟩)),
      .val (.pointer (some ⟨w.heap.size,1,none⟩)),
      .val (.string info),
      .got (slP) (cePart info),
      .val (.string T2),
      .val (.agg #[int u64 (px u),int u64 (py u),.bool (pb u)]),
      .val (.iface 75 (.agg #[int u64 (px u),int u64 (py u),.bool (pb u)])),
      .val (.iface 196 (.string finW)),
      .new (.cells #[.iface 75 (.agg #[int u64 (px u),int u64 (py u),.bool (pb u)]),.iface 196 (.string finW)] 231) (.cells #[.iface 75 (.agg #[int u64 (px u),int u64 (py u),.bool (pb u)]),.iface 196 (.string finW)] 231) 1002,
      .val (.string TX),
      .val (.string TX)] [[1],[8],[9],[10],[3],[12],[13],[3],[15],[16],[14,17],[11,18],[5],[20],[],[21,22],[19,23],[24]] (fun f=> [(some 8,.string input),(some 9,.iface 211 (.string input)),(some 10,.slice (some ⟨f 2,0,none⟩) 1 1),(some 11,.string T1),(some 12,.pointer (some ⟨w.heap.size,2,none⟩)),(some 13,.pointer (some ⟨w.heap.size,8,none⟩)),(some 14,.func (.func F6) #[] #[]),(some 15,.pointer (some ⟨w.heap.size,0,none⟩)),(some 16,.pointer (some ⟨w.heap.size,1,none⟩)),(some 17,.string info),(some 18,slP (f 10)),(some 19,.string T2),(some 20,.agg #[int u64 (px u),int u64 (py u),.bool (pb u)]),(some 21,.iface 75 (.agg #[int u64 (px u),int u64 (py u),.bool (pb u)])),(some 22,.iface 196 (.string finW)),(some 23,.slice (some ⟨f 15,0,none⟩) 2 2),(some 24,.string TX),(some 7,.string TX)]) (by kernel_rfl) (by kernel_rfl) (by kernel_rfl) (by kernel_rfl) (fun _=>by kernel_rfl) (G.last_same [] (fun F R hm=>by simp only [List.mem_cons,List.not_mem_nil,or_false,reduceCtorEq,false_or,G.Knd.got.injEq] at hm;obtain⟨-,rfl⟩:=hm;exact⟨cePart_lasts info _ (fun ob hm=>by simp at hm),fun x w w' hx hk=>(hk x).trans hx⟩) (fun ob ob' k hm=>by simp at hm;rcases hm with ⟨rfl,rfl,-⟩|⟨rfl,rfl,-⟩<;>exact .inl rfl) (fun b ob ob' hm=>by simp at hm)) (fun b ob ob' hm=>by simp at hm) ?_ ?_
  · intro ix hix
    match ix,hix with
    |0,_=>exact G.obv [(1,.string input)] rfl rfl (fun A w ⟨e0,_⟩ hB=>doV_move e0)
    |1,_=>exact G.obv [(8,.string input)] rfl rfl (fun A w ⟨e0,_⟩ hB=>mi_sized e0)
    |2,_=>exact G.ob_slc 1 [(9,.iface 211 (.string input))] rfl rfl (fun _=>by kernel_rfl) (fun A w ⟨e0,_⟩=>sl_parts1 e0)
    |3,_=>exact G.ob_use 10 2 1001 (.cells #[.iface 211 (.string input)] 231) (fun f=> [(10,.slice (some ⟨f 2,0,none⟩) 1 1)]) rfl rfl (by decide) (by kernel_rfl) rfl (fun _=>by kernel_rfl) (fun f A w ⟨e0,_⟩ hB hr=>cl2 cf_impl_transcript_with rfl e0 (Q1 _ w hr))
    |4,_=>exact G.obv [(3,.pointer (some ⟨w.heap.size,0,none⟩))] rfl rfl (fun A w ⟨e0,_⟩ hB=>fa_pro1 e0)
    |5,_=>exact G.obv [(12,.pointer (some ⟨w.heap.size,2,none⟩))] rfl rfl (fun A w ⟨e0,_⟩ hB=>fa_rul6 e0)
    |6,_=>exact G.obv [(13,.pointer (some ⟨w.heap.size,8,none⟩))] rfl rfl (fun A w ⟨e0,_⟩ hB=>ld_fn6 e0 (hB.cell s8 (by simp)))
    |7,_=>exact G.obv [(3,.pointer (some ⟨w.heap.size,0,none⟩))] rfl rfl (fun A w ⟨e0,_⟩ hB=>fa_pro0 e0)
    |8,_=>exact G.obv [(15,.pointer (some ⟨w.heap.size,0,none⟩))] rfl rfl (fun A w ⟨e0,_⟩ hB=>fa_set1 e0)
    |9,_=>exact G.obv [(16,.pointer (some ⟨w.heap.size,1,none⟩))] rfl rfl (fun A w ⟨e0,_⟩ hB=>ld_str e0 (hB.cell s1 (by simp)))
    |10,_=>exact G.ob_got (fun f=> [(14,.func (.func F6) #[] #[]),(17,.string info)]) rfl rfl (fun _=>by kernel_rfl) (fun f A w ⟨e0,e1,_⟩ hB hh=>cw1 E6 e0 e1 (HS w))
    |11,_=>exact G.ob_had (fun f=> [(11,.string T1),(18,slP (f 10))]) rfl rfl (fun _=>by kernel_rfl) (fun f A w ⟨e0,e1,_⟩ hB hh=>cl2 cf_impl_transcript_with e0 e1 (Q2 _ w (hh 18 (by decide) 10 rfl (by decide) _ _ rfl)))
    |12,_=>exact G.obv [(5,.pointer (some ⟨w.heap.size+1,0,none⟩))] rfl rfl (fun A w ⟨e0,_⟩ hB=>ld_cp e0 (hB.cell u0 (by simp)) (hB.cell u1 (by simp)) (hB.cell u2 (by simp)))
    |13,_=>exact G.obv [(20,.agg #[int u64 (px u),int u64 (py u),.bool (pb u)])] rfl rfl (fun A w ⟨e0,_⟩ hB=>mi_cp e0)
    |14,_=>exact G.obv [] rfl rfl (fun A w _ hB=>mi_plain rfl)
    |15,_=>exact G.ob_slc 2 [(21,.iface 75 (.agg #[int u64 (px u),int u64 (py u),.bool (pb u)])),(22,.iface 196 (.string finW))] rfl rfl (fun _=>by kernel_rfl) (fun A w ⟨e0,e1,_⟩=>sl_parts2 e0 e1)
    |16,_=>exact G.ob_use 23 15 1002 (.cells #[.iface 75 (.agg #[int u64 (px u),int u64 (py u),.bool (pb u)]),.iface 196 (.string finW)] 231) (fun f=> [(19,.string T2),(23,.slice (some ⟨f 15,0,none⟩) 2 2)]) rfl rfl (by decide) (by kernel_rfl) rfl (fun _=>by kernel_rfl) (fun f A w ⟨e0,e1,_⟩ hB hr=>cl2 cf_impl_transcript_with e0 e1 (Q3 _ w hr))
    |17,_=>exact G.obv [(24,.string TX)] rfl rfl (fun A w ⟨e0,_⟩ hB=>doV_assign e0)
    |ix+18,h=>exact absurd h (by simp)
  intro f W3 hS _ _ _ _;have b3:Bl X W3:=(Below.refl _ X).drew.trans hS.below;replace hb:=hb.tr b3;have hT3:TabK W3:=fun i hi=>(hb.cell (p:=⟨7,i,none⟩) hgw).trans (hT i hi)
  clear hS b3 s1 s8 u0 u1 u2 r0 r1 Q1 Q2 Q3 HS;simp only [puts,List.foldl,Act.put,List.setIfInBounds_toArray,List.set_cons_zero,List.set_cons_succ];have hal:=balc W3 (Obj.cells #[.string TX] 9);have hT4:TabK (W3.alloc (Obj.cells #[.string TX] 9)):=fun i hi=>(hal.cell (p:=⟨7,i,none⟩) (Nat.lt_of_lt_of_le hgw hb.size)).trans (hT3 i hi)
  go_wp2_with fail;refine(QH _ _ hT4 (heap_alloc_new W3 _)).mono ?_;rintro e w4 ⟨rfl,b4⟩;replace hb:=hb.tr hal;replace hb:=hb.tr b4;go_wp2;go_ret;exact⟨rfl,hb⟩
end
section
variable (cx info input:ByteArray)(u:Pt)(F0 F1 F2 F3 F4 F5 F6:FuncId)(w:World)(hT:TabK w)(h1:input.size≤65535)(h2:info.size≤60000)
    (E6:∀(args:Array Value) (w:World),(callFunc F6 args).run prog w= .ok (.enter F6 args) w)
include hT h1 h2 E6
theorem outI_no (mode:Int)(hm: ¬ mode=2)
    (HS:Cc F6 #[.string info] (.slice none 0 0)):
    Cr 96 #[.agg #[.string cx,.string info,.func (.func F0) #[] #[],.func (.func F1) #[] #[],.func (.func F2) #[] #[],.func (.func F3) #[] #[],.func (.func F4) #[] #[],.func (.func F5) #[] #[],.func (.func F6) #[] #[]],.string input,.agg #[int u64 (px u),int u64 (py u),.bool (pb u)]] w (.string (outB mode input info u)):=by
  have hz1:(⟨#[]⟩++sizB input:ByteArray).size≤200000:=by rw [ByteArray.size_append,sizB_size];show 0+_≤_;omega
  have eT:(⟨#[]⟩++sizB input:ByteArray)++sizB (ptB u)++finW=outT mode input info u:=by unfold outT;rw [if_neg hm,eml]
  have hzo:=outT_size mode input info u h1 h2;have A1:∀i (w:World),w.heap[i]? =some (.cells #[.iface 211 (.string input)] 231)→Cr 119 #[.string ⟨#[]⟩,.slice (some ⟨i,0,none⟩) 1 1] w (.string (⟨#[]⟩++sizB input)):=fun i w hr=>wth1 ⟨#[]⟩ input i w (by decide) h1 hr
  have A2:=fun w=>wth0 (⟨#[]⟩++sizB input) w (by omega)
  have A3:=fun i w hr=>wth2 (⟨#[]⟩++sizB input) u i w hz1 hr
  rw [eT] at A3;have A4:=fun g w hT hr=>hash_blk (outT mode input info u) g 9 w hT hr (by omega)
  clear eT hz1 hzo;generalize (⟨#[]⟩++sizB input:ByteArray)=T1 at A1 A2 A3;exact outI_noof cx info input T1 (outT mode input info u) (outB mode input info u) u F0 F1 F2 F3 F4 F5 F6 w hT E6 A1 A4 HS A2 A3
theorem outI_two
    (HS:∀w,Calls prog F6 #[.string info] w fun e w'=>∃x,e= .returned (slP x)∧cePart info x w'∧Bl w w'):
    Cr 96 #[.agg #[.string cx,.string info,.func (.func F0) #[] #[],.func (.func F1) #[] #[],.func (.func F2) #[] #[],.func (.func F3) #[] #[],.func (.func F4) #[] #[],.func (.func F5) #[] #[],.func (.func F6) #[] #[]],.string input,.agg #[int u64 (px u),int u64 (py u),.bool (pb u)]] w (.string (outB 2 input info u)):=by
  have e0:=eml (sizB input);have hzo:=outT_size 2 input info u h1 h2;have A4:=fun g w hT hr=>hash_blk (outT 2 input info u) g 9 w hT hr (by omega)
  have eO:outB 2 input info u=strOfNums (shaF (byt (outT 2 input info u))):=rfl;have eX:outT 2 input info u=sizB input++sizB info++sizB (ptB u)++finW:=by unfold outT;rw [if_pos rfl]
  rw [eO];clear eO
  have A1:∀i (w:World),w.heap[i]? =some (.cells #[.iface 211 (.string input)] 231)→Cr 119 #[.string ⟨#[]⟩,.slice (some ⟨i,0,none⟩) 1 1] w (.string (sizB input)):=fun i w hr=>by
    have:=wth1 ⟨#[]⟩ input i w (by decide) h1 hr;rw [e0] at this;exact this
  clear e0;have z1:=sizB_size input;have z2:=sizB_size info;obtain⟨T1,hT1⟩:∃T1,T1=sizB input:=⟨_,rfl⟩;rw [←hT1] at A1 eX z1;have A2:∀x w,cePart info x w→Cr 119 #[.string T1,slP x] w (.string (T1++sizB info)):=fun x w hr=>wth1 T1 info x w (by omega) (by omega) hr
  obtain⟨T2,hT2⟩:∃T2,T2=T1++sizB info:=⟨_,rfl⟩;have z3:T2.size≤200000:=by rw [hT2,ByteArray.size_append];omega
  rw [←hT2] at A2 eX;have A3:=fun i w hr=>wth2 T2 u i w z3 hr
  rw [←eX] at A3;generalize outT 2 input info u=TX at*;exact outI_twoof cx info input T1 T2 TX _ u F0 F1 F2 F3 F4 F5 F6 w hT E6 A1 A4 HS A2 A3
end
def Ent (f:FuncId):Prop:=∀(args:Array Value) (w:World),(callFunc f args).run prog w= .ok (.enter f args) w
def okI (k:Nat)(info:ByteArray):Prop:=if k=2 then info.size≤60000 else info.size=0
structure Rl (k:Nat)(F0 F1 F2 F3 F4 F5 F6:FuncId):Prop where
  e1:Ent F1
  e2:Ent F2
  secret:∀(key:Nat) (info:ByteArray) (a0 a1 a2 a3:Addr) (w:World),TabK w→Sn w a0 a1 a2 a3→key<2305843010818082053→info.size≤60000→
    Cr F1 #[.agg #[.string (ctxB k),.string info],.agg #[int u64 key]] w (.tuple #[.agg #[int u64 (facT k key info:Nat)],if facC k key info=0 then .nilIface else sen a2])
  factor:∀(key:Nat) (info:ByteArray) (w:World),key<2305843010818082053→facC k key info=0→
    Cr F2 #[.agg #[int u64 (facT k key info:Nat)]] w (.agg #[int u64 (facB k key info:Nat)])
  output:∀(input info:ByteArray) (u:Pt) (w:World),TabK w→input.size≤65535→info.size≤60000→
    Cr 96 #[.agg #[.string (ctxB k),.string info,.func (.func F0) #[] #[],.func (.func F1) #[] #[],.func (.func F2) #[] #[],.func (.func F3) #[] #[],.func (.func F4) #[] #[],.func (.func F5) #[] #[],.func (.func F6) #[] #[]],.string input,.agg #[int u64 (px u),int u64 (py u),.bool (pb u)]] w (.string (outB k input info u))
  find:∀(info:ByteArray) (a0 a1 a2 a3:Addr) (w:World),Sn w a0 a1 a2 a3→okI k info→
    Cr 71 #[.int .i64 k,.string info] w (.tuple #[.agg #[.string (ctxB k),.string info,.func (.func F0) #[] #[],.func (.func F1) #[] #[],.func (.func F2) #[] #[],.func (.func F3) #[] #[],.func (.func F4) #[] #[],.func (.func F5) #[] #[],.func (.func F6) #[] #[]],.nilIface])
  bad:∀(info:ByteArray) (a0 a1 a2 a3:Addr) (w:World),Sn w a0 a1 a2 a3→ ¬ okI k info→
    Cr 71 #[.int .i64 k,.string info] w (.tuple #[.agg zPro,flt ⟨#[105,110,102,111]⟩ (sen a0)])
theorem ixR0 (w:World):(Instr.index 181 (.agg rulL.toArray) (.int .i64 ((0:Nat):Int))).run prog w= .ok (.agg #[.func (.func 134) #[] #[],.func (.func 135) #[] #[],.func (.func 136) #[] #[],.func (.func 137) #[] #[],.func (.func 138) #[] #[],.func (.func 139) #[] #[],.func (.func 140) #[] #[]]) w:=by kernel_rfl
theorem ixR1 (w:World):(Instr.index 181 (.agg rulL.toArray) (.int .i64 ((1:Nat):Int))).run prog w= .ok (.agg #[.func (.func 134) #[] #[],.func (.func 135) #[] #[],.func (.func 136) #[] #[],.func (.func 137) #[] #[],.func (.func 138) #[] #[],.func (.func 141) #[] #[],.func (.func 140) #[] #[]]) w:=by kernel_rfl
theorem ixR2 (w:World):(Instr.index 181 (.agg rulL.toArray) (.int .i64 ((2:Nat):Int))).run prog w= .ok (.agg #[.func (.func 142) #[] #[],.func (.func 143) #[] #[],.func (.func 144) #[] #[],.func (.func 145) #[] #[],.func (.func 146) #[] #[],.func (.func 147) #[] #[],.func (.func 148) #[] #[]]) w:=by kernel_rfl
theorem enNI:Ent 134:=fun _ _=>by kernel_rfl
theorem enSI:Ent 142:=fun _ _=>by kernel_rfl
theorem enKA:Ent 135:=fun _ _=>by kernel_rfl
theorem enKT:Ent 143:=fun _ _=>by kernel_rfl
theorem enSE:Ent 136:=fun _ _=>by kernel_rfl
theorem enSV:Ent 144:=fun _ _=>by kernel_rfl
theorem enNP:Ent 140:=fun _ _=>by kernel_rfl
theorem enIP:Ent 148:=fun _ _=>by kernel_rfl
theorem noInf_yes (info:ByteArray)(h:info.size=0)(w:World):Calls prog 134 #[.string info] w fun e w'=>e= .returned (.bool true)∧w=w':=by
  have:=noInf info w;rwa [decide_eq_true h] at this
theorem noInf_no (info:ByteArray)(h: ¬ info.size=0)(w:World):Calls prog 134 #[.string info] w fun e w'=>e= .returned (.bool false)∧w=w':=by
  have:=noInf info w;rwa [decide_eq_false h] at this
theorem shoInf_yes (info:ByteArray)(h:info.size≤60000)(w:World):Calls prog 142 #[.string info] w fun e w'=>e= .returned (.bool true)∧w=w':=by
  have:=shoInf info w;rwa [decide_eq_true h] at this
theorem shoInf_no (info:ByteArray)(h: ¬ info.size≤60000)(w:World):Calls prog 142 #[.string info] w fun e w'=>e= .returned (.bool false)∧w=w':=by
  have:=shoInf info w;rwa [decide_eq_false h] at this
theorem facC_no {k:Nat}(hk: ¬ k=2)(key:Nat)(info:ByteArray):facC k key info=0:=if_neg (fun h=>hk (by have:=h.1;omega))
theorem facT_no {k:Nat}(hk: ¬ k=2)(key:Nat)(info:ByteArray):facT k key info=key:=if_neg (by omega)
theorem facB_no {k:Nat}(hk: ¬ k=2)(key:Nat)(info:ByteArray):facB k key info=key:=if_neg (by omega)
section
variable {k:Nat}(hk: ¬ k=2)
include hk
theorem secr_no (key:Nat)(info:ByteArray)(a0 a1 a2 a3:Addr)(w:World):
    Cr 135 #[.agg #[.string (ctxB k),.string info],.agg #[int u64 key]] w (.tuple #[.agg #[int u64 (facT k key info:Nat)],if facC k key info=0 then .nilIface else sen a2]):=by
  rw [facC_no hk,facT_no hk,if_pos rfl];exact kalI _ _ _ w
theorem fact_no (key:Nat)(info:ByteArray)(w:World):
    Cr 136 #[.agg #[int u64 (facT k key info:Nat)]] w (.agg #[int u64 (facB k key info:Nat)]):=by
  rw [facT_no hk,facB_no hk];exact sitI _ w
theorem okI_no {info:ByteArray}:okI k info↔info.size=0:=by unfold okI;rw [if_neg hk]
end
theorem okI_two {info:ByteArray}:okI 2 info↔info.size≤60000:=by unfold okI;rw [if_pos rfl]
theorem facT_two (key:Nat)(info:ByteArray):facT (2:Nat) key info=kt key info:=if_pos rfl
theorem facC_two (key:Nat)(info:ByteArray):facC (2:Nat) key info=if kt key info=0 then 3 else 0:=by
  unfold facC;by_cases h:kt key info=0
  · rw [if_pos h,if_pos ⟨rfl,h⟩]
  · rw [if_neg h,if_neg (fun h'=>h h'.2)]
theorem secr_two (key:Nat)(info:ByteArray)(a0 a1 a2 a3:Addr)(w:World)(hT:TabK w)(hs:Sn w a0 a1 a2 a3)(hk:key<2305843010818082053)(hi:info.size≤60000):
    Cr 143 #[.agg #[.string (ctxB 2),.string info],.agg #[int u64 key]] w (.tuple #[.agg #[int u64 (facT (2:Nat) key info:Nat)],if facC (2:Nat) key info=0 then .nilIface else sen a2]):=by
  have hgw:7<w.heap.size:=World.block_lt_of_cell? w _ (hT 0 (by omega));have h:=kntI_of (ctxB 2) info (key:Int) ((twk info:Nat):Int) ((kt key info:Nat):Int) a0 a1 a2 a3 w hs (fun w' hb=>twkI_any info w' (keepT hT hgw hb) hi) (fun w=>plN_any key (twk info) w hk (twk_lt info));rw [facT_two,facC_two];by_cases h0:kt key info=0
  · rw [if_pos (by omega)] at h;rw [if_pos h0,if_neg (by decide)];exact h
  · rw [if_neg (by omega)] at h;rw [if_neg h0,if_pos rfl];exact h
theorem fact_two (key:Nat)(info:ByteArray)(w:World)(h:facC (2:Nat) key info=0):
    Cr 144 #[.agg #[int u64 (facT (2:Nat) key info:Nat)]] w (.agg #[int u64 (facB (2:Nat) key info:Nat)]):=by
  have h0: ¬ kt key info=0:=fun h0=>by rw [facC_two,if_pos h0] at h;cases h
  have e:facB (2:Nat) key info=M.ivn 2305843010818082053 (kt key info):=by unfold facB;rw [if_pos (by decide),if_neg h0]
  rw [facT_two,e];exact secI_of _ _ w (fun w=>ivN_any _ w (kt_lt key info))
theorem rul_0:Rl 0 134 135 136 137 138 139 140:=
  ⟨enKA,enSE,fun key info a0 a1 a2 a3 w _ _ _ _=>secr_no (by omega) key info a0 a1 a2 a3 w,fun key info w _ _=>fact_no (by omega) key info w,fun input info u w hT h1 h2=>outI_no _ info input u _ _ _ _ _ _ _ w hT h1 h2 enNP ((0:Nat):Int) (by decide) (nopI info),
      fun info a0 a1 a2 a3 w hs h=>proI_ok _ _ info _ _ _ _ _ _ _ _ a0 a1 a2 a3 w hs (fun w=>ctxI_yes 0 w (by omega)) rulI ixR0 enNI (noInf_yes info ((okI_no (by omega)).1 h)),
      fun info a0 a1 a2 a3 w hs h=>proI_bad _ _ info _ _ _ _ _ _ _ _ a0 a1 a2 a3 w hs (fun w=>ctxI_yes 0 w (by omega)) rulI ixR0 enNI (noInf_no info (fun h'=>h ((okI_no (by omega)).2 h')))⟩
theorem rul_1:Rl 1 134 135 136 137 138 141 140:=
  ⟨enKA,enSE,fun key info a0 a1 a2 a3 w _ _ _ _=>secr_no (by omega) key info a0 a1 a2 a3 w,fun key info w _ _=>fact_no (by omega) key info w,fun input info u w hT h1 h2=>outI_no _ info input u _ _ _ _ _ _ _ w hT h1 h2 enNP ((1:Nat):Int) (by decide) (nopI info),
      fun info a0 a1 a2 a3 w hs h=>proI_ok _ _ info _ _ _ _ _ _ _ _ a0 a1 a2 a3 w hs (fun w=>ctxI_yes 1 w (by omega)) rulI ixR1 enNI (noInf_yes info ((okI_no (by omega)).1 h)),
      fun info a0 a1 a2 a3 w hs h=>proI_bad _ _ info _ _ _ _ _ _ _ _ a0 a1 a2 a3 w hs (fun w=>ctxI_yes 1 w (by omega)) rulI ixR1 enNI (noInf_no info (fun h'=>h ((okI_no (by omega)).2 h')))⟩
theorem rul_2:Rl 2 142 143 144 145 146 147 148:=
  ⟨enKT,enSV,fun key info a0 a1 a2 a3 w hT hs hk hi=>secr_two key info a0 a1 a2 a3 w hT hs hk hi,fun key info w _ h=>fact_two key info w h,fun input info u w hT h1 h2=>outI_two _ info input u _ _ _ _ _ _ _ w hT h1 h2 enIP (ipaI info),
      fun info a0 a1 a2 a3 w hs h=>proI_ok _ _ info _ _ _ _ _ _ _ _ a0 a1 a2 a3 w hs (fun w=>ctxI_yes 2 w (by omega)) rulI ixR2 enSI (shoInf_yes info (okI_two.1 h)),
      fun info a0 a1 a2 a3 w hs h=>proI_bad _ _ info _ _ _ _ _ _ _ _ a0 a1 a2 a3 w hs (fun w=>ctxI_yes 2 w (by omega)) rulI ixR2 enSI (shoInf_no info (fun h'=>h (okI_two.2 h')))⟩
theorem cplT {p:Pt}(hp:on p)(k:Nat)(hk:k<2305843010818082053)(w:World):
    Cr 42 #[.agg #[int u64 (px p),int u64 (py p),.bool (pb p)],int u64 k] w (.agg #[int u64 (px (nt k p)),int u64 (py (nt k p)),.bool (pb (nt k p))]):=by
  have:=ctmV hp k (by omega) w;rwa [ptW_eq,ptW_eq] at this
theorem okI_iff {mode:Int}(hm:0≤mode∧mode≤2){info:ByteArray}:okI mode.toNat info↔info.size≤60000∧(mode=2∨info.size=0):=by
  unfold okI;by_cases h2:mode.toNat=2
  · rw [if_pos h2];constructor
    · intro h;exact⟨h,.inl (by omega)⟩
    · exact fun h=>h.1
  · rw [if_neg h2];constructor
    · intro h;exact⟨by omega,.inr h⟩
    · rintro⟨-,h|h⟩
      · exact absurd h (by omega)
      · exact h
end
end Go.Proofs.YtmjniccfjffclaaGreatDoor
