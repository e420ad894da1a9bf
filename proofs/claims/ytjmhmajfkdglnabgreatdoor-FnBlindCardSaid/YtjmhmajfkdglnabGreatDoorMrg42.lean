import Derived.Test.YtjmhmajfkdglnabGreatDoorMrg41
set_option linter.unusedVariables false
set_option maxRecDepth 100000
set_option maxHeartbeats 16000000
namespace Go.Proofs.YtjmhmajfkdglnabGreatDoor
open Go.Proofs.Tryz Go.RowKit
open Go.Value (int)
open Go.IntKind (u64)
section
open M
theorem wth1 (t s:ByteArray)(i:Nat)(w:World)(h:t.size≤200000)(hs:s.size≤65535)(hr:w.heap[i]? =some (.cells #[.iface 191 (.string s)] 234)):
    Cr 109 #[.string t,.slice (some ⟨i,0,none⟩) 1 1] w (.string (t++sizB s)):=by
  have:=with_blk t [(.iface 191 (.string s),sizB s)] i 1 _ _ w hr rfl rfl (by omega) (by
    intro vs hvs;simp only [List.mem_cons,List.not_mem_nil,or_false] at hvs;subst hvs
    exact writZ s hs) (by
      show(t++sizB s).size≤_
      rw [ByteArray.size_append,sizB_size];omega)
  exact this
theorem twkI_any (info:ByteArray)(w:World)(hT:TabK w)(hi:info.size≤60000):
    Cr 168 #[.agg #[.string (ctxB 2),.string info]] w (.agg #[int u64 (twk info:Nat)]):=by
  have hgw:6<w.heap.size:=World.block_lt_of_cell? w _ (hT 0 (by omega))
  have hWT:∀(i:Nat) (w:World),w.heap[i]? =some (.cells #[.iface 191 (.string info)] 234)→
      Cr 109 #[.string infW,.slice (some ⟨i,0,none⟩) 1 1] w (.string (infW++sizB info)):=fun i w hr=>wth1 infW info i w (by decide) (by omega) hr
  have hz:=infoT_size info;have hSC:∀w:World,TabK w→Cr 126 #[.string (ctxB 2),.string (infW++sizB info)] w (.agg #[int u64 (twk info:Nat)]):=fun w hT=>scaI_any _ 2 w hT (by omega) (by omega)
  generalize ((twk info:Nat):Int)=c at*;generalize infW++sizB info=TXT at*;generalize ctxB 2=cx at*;obtain⟨X,hX⟩:∃X,X=(w.alloc (Obj.cells #[.string cx,.string info] 114)).alloc (Obj.cells #[int u64 0] 97):=⟨_,rfl⟩;have r0:Bk X 114 w.heap.size #[.string cx,.string info]:=by rw [hX];exact(Bk.new _ _ _).alloc _
  have r1:Bk X 97 (w.heap.size+1) #[int u64 0]:=by rw [hX];exact(Bk.new _ _ _).at (by simp)
  have hb:Bl w X:=by rw [hX];exact((Below.refl _ w).alloc (Nat.le_refl _) _).alloc (by simp) _
  go_enter func168,ntmps168;go_wp2;rw [←hX];clear hX;have hT1:TabK X.drew:=fun i hi=>(hb.cell (p:=⟨6,i,none⟩) hgw).trans (hT i hi)
  have s0:X.drew.cell? ⟨w.heap.size,0,none⟩=_:=r0.cell (k:=0) rfl;have s1:X.drew.cell? ⟨w.heap.size,1,none⟩=_:=r0.cell (k:=1) rfl;have nT:6∉ [w.heap.size+1]:=fun h=>absurd (List.mem_singleton.1 h) (by omega)
  have n0:w.heap.size∉ [w.heap.size+1]:=by simp
  have l1:w.heap.size+1<X.drew.heap.size:=r1.lt
  refine G.pool_list (W:=X) [w.heap.size+1] [.val (.pointer (some ⟨w.heap.size,0,none⟩)),
      .val (.string cx),
      .val (.pointer (some ⟨w.heap.size,1,none⟩)),
      .val (.string info),
      .val (.iface 191 (.string info)),
      .new (.cells #[.iface 191 (.string info)] 234) (.cells #[.iface 191 (.string info)] 234) 1001,
      .val (.string TXT),
      .val (.agg #[int u64 c]),
      .set (w.heap.size+1) (.cells #[int u64 0] 97) (.cells #[int u64 c] 97)] [[1],[3],[1],[5],[6],[7],[8],[4,9],[2,10]] (fun f=> [(some 3,.pointer (some ⟨w.heap.size,0,none⟩)),(some 4,.string cx),(some 5,.pointer (some ⟨w.heap.size,1,none⟩)),(some 6,.string info),(some 7,.iface 191 (.string info)),(some 8,.slice (some ⟨f 5,0,none⟩) 1 1),(some 9,.string TXT),(some 10,.agg #[int u64 c]),(none,undef)]) (by kernel_rfl) (by kernel_rfl) (by kernel_rfl) (by kernel_rfl) (fun _=>by kernel_rfl) (G.last_of [.cells #[.iface 191 (.string info)] 234,.cells #[int u64 0] 97] (fun F R hm=>by simp at hm) (fun ob ob' k hm=>by simp at hm;simp [hm]) (fun b ob ob' hm=>by simp at hm;simp [hm])) (fun b ob ob' hm=>by simp at hm;obtain⟨rfl,rfl,-⟩:=hm;exact r1) ?_ ?_
  · intro ix hix
    match ix,hix with
    |0,_=>exact G.obv [(1,.pointer (some ⟨w.heap.size,0,none⟩))] rfl rfl (fun A w ⟨e0,_⟩ hB=>fa_set0 e0)
    |1,_=>exact G.obv [(3,.pointer (some ⟨w.heap.size,0,none⟩))] rfl rfl (fun A w ⟨e0,_⟩ hB=>ld_ctx e0 (hB.cell s0 n0))
    |2,_=>exact G.obv [(1,.pointer (some ⟨w.heap.size,0,none⟩))] rfl rfl (fun A w ⟨e0,_⟩ hB=>fa_set1 e0)
    |3,_=>exact G.obv [(5,.pointer (some ⟨w.heap.size,1,none⟩))] rfl rfl (fun A w ⟨e0,_⟩ hB=>ld_str e0 (hB.cell s1 n0))
    |4,_=>exact G.obv [(6,.string info)] rfl rfl (fun A w ⟨e0,_⟩ hB=>mi_sized e0)
    |5,_=>exact G.ob_slc 1 [(7,.iface 191 (.string info))] rfl rfl (fun _=>by kernel_rfl) (fun A w ⟨e0,_⟩=>sl_parts1 e0)
    |6,_=>exact G.ob_use 8 5 1001 (.cells #[.iface 191 (.string info)] 234) (fun f=> [(8,.slice (some ⟨f 5,0,none⟩) 1 1)]) rfl rfl (by decide) (by kernel_rfl) rfl (fun _=>by kernel_rfl) (fun f A w ⟨e0,_⟩ hB hr=>cl2 cf_impl_transcript_with rfl e0 (hWT _ w hr))
    |7,_=>exact G.obv [(4,.string cx),(9,.string TXT)] rfl rfl (fun A w ⟨e0,e1,_⟩ hB=>cl2 cf_impl_context_scalar e0 e1 (hSC w (fun i hi=>hB.cell (hT1 i hi) nT)))
    |8,_=>exact G.ob_set (fun f=> [(2,.pointer (some ⟨w.heap.size+1,0,none⟩)),(10,.agg #[int u64 c])]) rfl rfl rfl (by simp) l1 (fun j ob1 ob2 h=>by (rcases j with _|_|_|_|_|_|_|_|_|j)<;>simp [G.kindOf] at h⊢ <;>omega) (fun _=>by kernel_rfl) (fun f A w ⟨e0,e1,_⟩ hh hr=>pu_nN e0 e1 hr)
    |ix+9,h=>exact absurd h (by simp)
  intro f W3 hS _ _ _ hset;have q1:Bk W3 97 (w.heap.size+1) #[int u64 c]:=hset 8 _ _ _ rfl (by decide);have hb3:Bl w W3:=hS.under hb.drew (by simp<;>omega) hb.size;clear hset hS s0 s1 hT1 hWT hSC;simp only [puts,List.foldl,Act.put,List.setIfInBounds_toArray,List.set_cons_zero,List.set_cons_succ];go_wp2;exact bodyPost_ret (v:= .agg #[int u64 c]) (rn_res (fn:=Tryz.f168) (p:=2) results168 _ rfl q1) rfl ⟨rfl,hb3⟩
theorem kntI_of (cx info:ByteArray)(k t s:Int)(a0 a1 a2 a3:Addr)(w:World)(hs:Sn w a0 a1 a2 a3)
    (TW:Cb w 168 #[.agg #[.string cx,.string info]] (.agg #[int u64 t]))
    (PL:Cc 167 #[.agg #[int u64 k],.agg #[int u64 t]] (.agg #[int u64 s])):
    Cr 143 #[.agg #[.string cx,.string info],.agg #[int u64 k]] w (.tuple #[.agg #[int u64 s],if s=0 then sen a2 else .nilIface]):=by
  obtain⟨V,hV⟩:∃V,Hid (V=(if s=0 then sen a2 else Value.nilIface)):=⟨_,rfl⟩;rw [←hV.out];have hg0:2<w.heap.size:=World.block_lt_of_cell? w _ hs.c2;obtain⟨X,hX⟩:∃X,X=((w.alloc (Obj.cells #[.string cx,.string info] 114)).alloc (Obj.cells #[int u64 k] 97)).alloc (Obj.cells #[int u64 0] 97):=⟨_,rfl⟩;have r0:Bk X 114 w.heap.size #[.string cx,.string info]:=by rw [hX];exact((Bk.new _ _ _).alloc _).alloc _
  have r1:Bk X 97 (w.heap.size+1) #[int u64 k]:=by rw [hX];exact((Bk.new _ _ _).at (by simp)).alloc _
  have hr:RN X (w.heap.size+1+1) 0:=by rw [hX];unfold RN;have:=heap_alloc_new ((w.alloc (Obj.cells #[.string cx,.string info] 114)).alloc (Obj.cells #[int u64 k] 97)) (Obj.cells #[int u64 0] 97);simpa using this
  have hb:Bl w X:=by rw [hX];exact(((Below.refl _ w).alloc (Nat.le_refl _) _).alloc (by simp) _).alloc (by simp;omega) _
  go_enter func143,ntmps143;go_wp2;rw [←hX];clear hX;have s0:X.drew.cell? ⟨w.heap.size,0,none⟩=_:=r0.cell (k:=0) rfl;have s1:X.drew.cell? ⟨w.heap.size,1,none⟩=_:=r0.cell (k:=1) rfl;have k0:X.drew.cell? ⟨w.heap.size+1,0,none⟩=_:=r1.cell (k:=0) rfl;have TW':∀w',Below X.drew.heap.size X.drew w'→_:=fun w' h=>TW w' (hb.drew.trans (h.mono hb.size))
  refine G.pool_list (W:=X) [] [.val (.agg #[int u64 k]),
      .val (.agg #[.string cx,.string info]),
      .val (.agg #[int u64 t]),
      .val (.agg #[int u64 s]),
      .new (.cells #[int u64 0] 97) (.cells #[int u64 s] 97) 5,
      .put 4] [[3],[2],[8],[7,9],[],[6,10]] (fun f=> [(some 7,.agg #[int u64 k]),(some 8,.agg #[.string cx,.string info]),(some 9,.agg #[int u64 t]),(some 10,.agg #[int u64 s]),(some 6,.pointer (some ⟨f 4,0,none⟩)),(none,undef)]) (by kernel_rfl) (by kernel_rfl) (by kernel_rfl) (by kernel_rfl) (fun _=>by kernel_rfl) (G.last_of [.cells #[int u64 0] 97] (fun F R hm=>by simp at hm) (fun ob ob' k hm=>by simp at hm;simp [hm]) (fun b ob ob' hm=>by simp at hm)) (fun b ob ob' hm=>by simp at hm) ?_ ?_
  · intro ix hix
    match ix,hix with
    |0,_=>exact G.obv [(3,.pointer (some ⟨w.heap.size+1,0,none⟩))] rfl rfl (fun A w ⟨e0,_⟩ hB=>ld_nN e0 (hB.cell k0 (by simp)))
    |1,_=>exact G.obv [(2,.pointer (some ⟨w.heap.size,0,none⟩))] rfl rfl (fun A w ⟨e0,_⟩ hB=>ld_set e0 (hB.cell s0 (by simp)) (hB.cell s1 (by simp)))
    |2,_=>exact G.obv [(8,.agg #[.string cx,.string info])] rfl rfl (fun A w ⟨e0,_⟩ hB=>cl1 cf_impl_setting_tweak e0 (TW' w hB.below))
    |3,_=>exact G.obv [(7,.agg #[int u64 k]),(9,.agg #[int u64 t])] rfl rfl (fun A w ⟨e0,e1,_⟩ hB=>cl2 cf_impl_number_impl_primeN_plus e0 e1 (PL w))
    |4,_=>exact G.ob_new rfl rfl (fun A w=>al_nN)
    |5,_=>exact G.ob_put 6 (fun f=> [(6,.pointer (some ⟨f 4,0,none⟩)),(10,.agg #[int u64 s])]) rfl rfl rfl (by decide) (by kernel_rfl) rfl (fun _=>by kernel_rfl) (fun f A w ⟨e0,e1,_⟩ hr=>pu_nN e0 e1 hr)
    |ix+6,h=>exact absurd h (by simp)
  intro f W3 hS hnew _ _ _;have b3:Bl X W3:=(Below.refl _ X).drew.trans hS.below;have r6:RN W3 (f 4) s:=(hnew 4 _ _ _ rfl (by decide)).2;generalize f 4=B6 at*;replace hr:=hr.keep b3;replace hb:=hb.tr b3;replace hs:=hs.keep hb;clear hS hnew b3 s0 s1 k0 r0 r1 TW TW' PL;have c6:=r6.cell;simp only [puts,List.foldl,Act.put,List.setIfInBounds_toArray,List.set_cons_zero,List.set_cons_succ];by_cases h0:s=0
  · have hV':V=sen a2:=by rw [hV.out,if_pos h0]
    subst h0;go_wp2;have g2:W3.drew.cell? ⟨2,0,none⟩=_:=hs.c2;have n0:2∉ [w.heap.size+1+1]:=fun h=>absurd (List.mem_singleton.1 h) (by omega)
    have l1:w.heap.size+1+1<W3.drew.heap.size:=hr.lt
    refine G.pool_list (W:=W3) [w.heap.size+1+1] [.val (.agg #[int u64 0]),
        .val (sen a2),
        .set (w.heap.size+1+1) (.cells #[int u64 0] 97) (.cells #[int u64 0] 97),
        .val (sen a2)] [[],[],[4,14],[15]] (fun f=> [(some 14,.agg #[int u64 0]),(some 15,sen a2),(none,undef),(some 5,sen a2)]) (by kernel_rfl) (by kernel_rfl) (by kernel_rfl) (by kernel_rfl) (fun _=>by kernel_rfl) (G.last_of [.cells #[int u64 0] 97] (fun F R hm=>by simp at hm) (fun ob ob' k hm=>by simp at hm) (fun b ob ob' hm=>by simp at hm;simp [hm])) (fun b ob ob' hm=>by simp at hm;obtain⟨rfl,rfl,-⟩:=hm;exact hr) ?_ ?_
    · intro ix hix
      match ix,hix with
      |0,_=>exact G.obv [] rfl rfl (fun A w _ hB=>bu0_nN)
      |1,_=>exact G.obv [] rfl rfl (fun A w _ hB=>ld_err rfl (hB.cell g2 n0))
      |2,_=>exact G.ob_set (fun f=> [(4,.pointer (some ⟨w.heap.size+1+1,0,none⟩)),(14,.agg #[int u64 0])]) rfl rfl rfl (by simp) l1 (fun j ob1 ob2 h=>by (rcases j with _|_|_|_|j)<;>simp [G.kindOf] at h⊢ <;>omega) (fun _=>by kernel_rfl) (fun f A w ⟨e0,e1,_⟩ hh hr=>pu_nN e0 e1 hr)
      |3,_=>exact G.obv [(15,sen a2)] rfl rfl (fun A w ⟨e0,_⟩ hB=>doV_assign e0)
      |ix+4,h=>exact absurd h (by simp)
    intro f W4 hS _ _ _ hset;have q1:RN W4 (w.heap.size+1+1) 0:=hset 2 _ _ _ rfl (by decide);have hb3:Bl w W4:=hS.under hb.drew (by simp<;>omega) hb.size;clear hset hS g2;simp only [puts,List.foldl,Act.put,List.setIfInBounds_toArray,List.set_cons_zero,List.set_cons_succ];go_wp2;exact bodyPost_ret (v:= .tuple #[.agg #[int u64 0],sen a2]) (RN_res (fn:=Tryz.f143) (p:=4) (u:=5) results143 _ rfl q1) rfl ⟨by rw [hV'],hb3⟩
  · have hV':V= .nilIface:=by rw [hV.out,if_neg h0]
    have h0':(s==0)=false:=by simpa using h0
    have c0:=hr.cell;have cf:=hr.frz;clear h0;go_wp2;exact bodyPost_ret (v:= .tuple #[.agg #[int u64 s],.nilIface]) (RN_res (fn:=Tryz.f143) (p:=4) (u:=5) results143 _ rfl (hr.set s)) rfl ⟨by rw [hV'],hb.setCell (p:=⟨w.heap.size+1+1,0,none⟩) (show w.heap.size≤w.heap.size+1+1 by omega) _⟩
theorem kalI (cx info:ByteArray)(k:Int)(w:World):
    Cr 135 #[.agg #[.string cx,.string info],.agg #[int u64 k]] w (.tuple #[.agg #[int u64 k],.nilIface]):=by
  obtain⟨X,hX⟩:∃X,X=((w.alloc (Obj.cells #[.string cx,.string info] 114)).alloc (Obj.cells #[int u64 k] 97)).alloc (Obj.cells #[int u64 0] 97):=⟨_,rfl⟩;have hr:RN X (w.heap.size+1+1) 0:=by rw [hX];unfold RN;have:=heap_alloc_new ((w.alloc (Obj.cells #[.string cx,.string info] 114)).alloc (Obj.cells #[int u64 k] 97)) (Obj.cells #[int u64 0] 97);simpa using this
  have r1:Bk X 97 (w.heap.size+1) #[int u64 k]:=by rw [hX];exact((Bk.new _ _ _).at (by simp)).alloc _
  have hb:Bl w X:=by rw [hX];exact(((Below.refl _ w).alloc (Nat.le_refl _) _).alloc (by simp) _).alloc (by simp;omega) _
  rw [hX] at hr hb r1;clear hX;have k0:=r1.cell (k:=0) rfl;clear hr hb;go_enter func135,ntmps135;go_wp2;refine bodyPost_ret (v:= .tuple #[.agg #[int u64 k],.nilIface]) (by simp [results,results135,go_sem]) rfl ⟨rfl,?_⟩;exact(((Below.refl _ w).alloc (Nat.le_refl _) _).alloc (by simp) _).alloc (by simp;omega) _
theorem secI_of (k s:Int)(w:World)(I:Cc 77 #[.agg #[int u64 k]] (.agg #[int u64 s])):
    Cr 144 #[.agg #[int u64 k]] w (.agg #[int u64 s]):=by
  have hr:=Bk.new (w.alloc (Obj.cells #[int u64 k] 97)) 97 #[int u64 0];have hb:=(balc w (Obj.cells #[int u64 k] 97)).alloc (by simp) (Obj.cells #[int u64 0] 97);simp only [World.size_alloc] at hr;go_enter func144,ntmps144;go_wp2_with fail;refine(I _).mono ?_;rintro e w1 ⟨rfl,b1⟩;replace hr:=hr.keep b1;replace hb:=hb.tr b1;have c0:=hr.cell (k:=0) rfl;have cf:=hr.frz;clear I b1;go_wp2;exact bodyPost_ret (v:= .agg #[int u64 s]) (rn_res (fn:=Tryz.f144) (p:=2) results144 _ rfl (show RN _ _ s from hr.set 0 (int u64 s))) rfl ⟨rfl,hb.setCell (p:=⟨w.heap.size+1,0,none⟩) (show w.heap.size≤w.heap.size+1 by omega) _⟩
theorem sitI (k:Int)(w:World):
    Cr 136 #[.agg #[int u64 k]] w (.agg #[int u64 k]):=by
  go_enter func136,ntmps136;go_wp2;refine bodyPost_ret (v:= .agg #[int u64 k]) (by simp [results,results136,go_sem]) rfl ⟨rfl,?_⟩;exact((Below.refl _ w).alloc (Nat.le_refl _) _).alloc (by simp) _
theorem wth0 (t:ByteArray)(w:World)(hz:t.size≤300000):
    Cr 109 #[.string t,.slice none 0 0] w (.string t):=by
  have hB0:Lib.IsBuilder 230 5 w.heap.size w.heap.size [] (w.alloc (.cells #[.pointer none,.slice none 0 0] 230)):=
    .inl ⟨Nat.le_refl _,.slice none 0 0,heap_alloc_new w _,⟨rfl,.inl ⟨rfl,rfl⟩⟩,by simp [Value.ownBlock]⟩
  have hb0:=balc w (Obj.cells #[.pointer none,.slice none 0 0] 230);have W1:=Any.Builder_WriteString (P:=prog) (ρ:=renRepeat) {laysRepeat with} extraRepeat w.heap.size w.heap.size [] t (w.alloc (.cells #[.pointer none,.slice none 0 0] 230)) hB0 (by simp;omega) (by simp);go_enter func109,ntmps109;go_wp2_with fail;refine W1.mono ?_;rintro e w1 ⟨rfl,hB1,b1⟩;replace hb0:=hb0.trans b1;clear W1 hB0 b1
  have hB1':Lib.BuilderAt 230 5 w.heap.size w.heap.size (.pointer (some ⟨w.heap.size,0,none⟩)) (Lib.byteCells t.data.toList) w1:=by
    have: []++Lib.strCells t=Lib.byteCells t.data.toList:=by simp [strCells_byt]
    rw [←this];exact hB1
  clear hB1;have S1:=Any.Builder_String_any (P:=prog) (ρ:=renRepeat) {laysRepeat with} extraRepeat w.heap.size w.heap.size t.data.toList w1 (.inr hB1') hb0.size;rw [mk_data] at S1;go_wp2;refine wp_loop_rounds 1 ?_;rw [rounds_succ];go_wp2_with fail;refine S1.mono ?_;rintro e w2 ⟨rfl,b2⟩;go_wp2;go_ret;exact⟨rfl,hb0.trans b2⟩
theorem wth2 (t:ByteArray)(u:Pt)(i:Nat)(w:World)(h:t.size≤200000)(hr:w.heap[i]? =some (.cells #[.iface 86 (.agg #[int u64 (px u),int u64 (py u),.bool (pb u)]),.iface 193 (.string finW)] 234)):
    Cr 109 #[.string t,.slice (some ⟨i,0,none⟩) 2 2] w (.string (t++sizB (ptB u)++finW)):=by
  have:=with_blk t [(.iface 86 (.agg #[int u64 (px u),int u64 (py u),.bool (pb u)]),sizB (ptB u)),(.iface 193 (.string finW),finW)] i 2 _ _ w hr rfl rfl (by omega) (by
    intro vs hvs;simp only [List.mem_cons,List.not_mem_nil,or_false] at hvs;rcases hvs with rfl|rfl
    · exact writC u
    · exact writP finW) (by
      show(t++sizB (ptB u)++finW).size≤_
      rw [ByteArray.size_append,ByteArray.size_append,sizB_size,ptB_size,show finW.size=8 from rfl];omega)
  exact this
theorem nopI (info:ByteArray)(w:World):
    Cr 140 #[.string info] w (.slice none 0 0):=by
  go_enter func140,ntmps140;go_wp2;go_ret;exact⟨rfl,Below.refl _ _⟩
theorem ipaI (info:ByteArray)(w:World):
    Calls prog 148 #[.string info] w fun e w'=>∃x,e= .returned (.slice (some ⟨x,0,none⟩) 1 1)∧w'.heap[x]? =some (.cells #[.iface 191 (.string info)] 234)∧Bl w w':=by
  go_enter func148,ntmps148;go_wp2;go_ret;exact⟨_,rfl,heap_alloc_new w _,(Below.refl _ w).alloc (Nat.le_refl _) _⟩
theorem G.last_same {kinds:List G.Knd}(obs:List Obj)(h:∀F R,G.Knd.got F R∈kinds→G.Lasts R obs∧∀x (w w':World),R x w→(∀k:Nat,w'.heap[k]? =w.heap[k]?)→R x w')(ho:∀ob ob' k,G.Knd.new ob ob' k∈kinds→ob=ob'∨ob∈obs)(ho2:∀b ob ob',G.Knd.set b ob ob'∈kinds→ob∈obs):G.Last (G.kindOf kinds):=by
  intro i F R hk;obtain⟨h1,h2⟩:=h F R (G.kind_mem hk (by simp));refine⟨h1.below,fun x w w' b j ob ob' hj hR hb hT=> ?_⟩;rcases hj with ⟨k,hj⟩|hj
  · rcases ho ob ob' k (G.kind_mem hj (by simp)) with e|e
    · subst e;refine h2 x w w' hR (fun k=> ?_);by_cases hkb:k=b
      · subst hkb;rw [hT.self,hb]
      · exact hT.other k hkb
    · exact h1.turned x w w' b ob ob' hR e hb hT
  · exact h1.turned x w w' b ob ob' hR (ho2 b ob ob' (G.kind_mem hj (by simp))) hb hT
abbrev slP (x:Nat):Value:= .slice (some ⟨x,0,none⟩) 1 1
abbrev cePart (info:ByteArray)(x:Nat)(w:World):Prop:=w.heap[x]? =some (.cells #[.iface 191 (.string info)] 234)
theorem cePart_lasts (info:ByteArray)(obs:List Obj)(h:∀ob∈obs,∃cs t,ob= .cells cs t∧t≠234):G.Lasts (cePart info) obs:=
  ⟨fun x w w' hx hb=>(hb.block x (Array.getElem?_eq_some_iff.1 hx).1).trans hx,fun x w w' b ob ob' hx hm hb hT=>by
    by_cases e:x=b
    · subst e;obtain⟨cs,t,rfl,ht⟩:=h ob hm;unfold cePart at hx;rw [hb] at hx;cases hx;exact absurd rfl ht
    · exact(hT.other x e).trans hx⟩
section
variable (cx info input T1 T2 TX R:ByteArray)(u:Pt)(F0 F1 F2 F3 F4 F5 F6:FuncId)(w:World)(hT:TabK w)
    (E6:∀(args:Array Value) (w:World),(callFunc F6 args).run prog w= .ok (.enter F6 args) w)
    (Q1:∀i (w:World),w.heap[i]? =some (.cells #[.iface 191 (.string input)] 234)→Cr 109 #[.string ⟨#[]⟩,.slice (some ⟨i,0,none⟩) 1 1] w (.string T1))
    (QH:∀g w,TabK w→w.heap[g]? =some (.cells #[.string TX] 9)→Cr 110 #[.slice (some ⟨g,0,none⟩) 1 1] w (.string R))
include hT E6 Q1 QH
theorem outI_noof
    (HS:Cc F6 #[.string info] (.slice none 0 0))
    (Q2:Cc 109 #[.string T1,.slice none 0 0] (.string T1))
    (Q3:∀i (w:World),w.heap[i]? =some (.cells #[.iface 86 (.agg #[int u64 (px u),int u64 (py u),.bool (pb u)]),.iface 193 (.string finW)] 234)→Cr 109 #[.string T1,.slice (some ⟨i,0,none⟩) 2 2] w (.string TX)):
    Cr 72 #[.agg #[.string cx,.string info,.func (.func F0) #[] #[],.func (.func F1) #[] #[],.func (.func F2) #[] #[],.func (.func F3) #[] #[],.func (.func F4) #[] #[],.func (.func F5) #[] #[],.func (.func F6) #[] #[]],.string input,.agg #[int u64 (px u),int u64 (py u),.bool (pb u)]] w (.string R):=by
  have hgw:6<w.heap.size:=World.block_lt_of_cell? w _ (hT 0 (by omega));obtain⟨X,hX⟩:∃X,X=(w.alloc (Obj.cells #[.string cx,.string info,.func (.func F0) #[] #[],.func (.func F1) #[] #[],.func (.func F2) #[] #[],.func (.func F3) #[] #[],.func (.func F4) #[] #[],.func (.func F5) #[] #[],.func (.func F6) #[] #[]] 125)).alloc (Obj.cells #[int u64 (px u),int u64 (py u),.bool (pb u)] 86):=⟨_,rfl⟩;have r0:Bk X 125 w.heap.size #[.string cx,.string info,.func (.func F0) #[] #[],.func (.func F1) #[] #[],.func (.func F2) #[] #[],.func (.func F3) #[] #[],.func (.func F4) #[] #[],.func (.func F5) #[] #[],.func (.func F6) #[] #[]]:=by rw [hX];exact(Bk.new _ _ _).alloc _
  have r1:K3 X 86 (w.heap.size+1) (px u) (py u) (pb u):=by rw [hX];exact(K3.new _ _ _ _ _).at (by simp)
  have hb:Bl w X:=by rw [hX];exact((Below.refl _ w).alloc (Nat.le_refl _) _).alloc (by simp) _
  go_enter func72,ntmps72;go_wp2;rw [←hX];clear hX;have s1:X.drew.cell? ⟨w.heap.size,1,none⟩=_:=r0.cell (k:=1) rfl;have s8:X.drew.cell? ⟨w.heap.size,8,none⟩=_:=r0.cell (k:=8) rfl;have u0:X.drew.cell? ⟨w.heap.size+1,0,none⟩=_:=r1.c0;have u1:X.drew.cell? ⟨w.heap.size+1,1,none⟩=_:=r1.c1;have u2:X.drew.cell? ⟨w.heap.size+1,2,none⟩=_:=r1.c2
  refine G.pool_list (W:=X) [] [.val (.string input),
      .val (.iface 191 (.string input)),
      .new (.cells #[.iface 191 (.string input)] 234) (.cells #[.iface 191 (.string input)] 234) 1001,
      .val (.string T1),
      .val (.pointer (some ⟨w.heap.size,2,none⟩)),
      .val (.pointer (some ⟨w.heap.size,8,none⟩)),
      .val (.func (.func F6) #[] #[]),
      .val (.pointer (some ⟨w.heap.size,0,none⟩)),
      .val (.pointer (some ⟨w.heap.size,1,none⟩)),
      .val (.string info),
      .val (.slice none 0 0),
      .val (.string T1),
      .val (.agg #[int u64 (px u),int u64 (py u),.bool (pb u)]),
      .val (.iface 86 (.agg #[int u64 (px u),int u64 (py u),.bool (pb u)])),
      .val (.iface 193 (.string finW)),
      .new (.cells #[.iface 86 (.agg #[int u64 (px u),int u64 (py u),.bool (pb u)]),.iface 193 (.string finW)] 234) (.cells #[.iface 86 (.agg #[int u64 (px u),int u64 (py u),.bool (pb u)]),.iface 193 (.string finW)] 234) 1002,
      .val (.string TX),
      .val (.string TX)] [[1],[8],[9],[10],[3],[12],[13],[3],[15],[16],[14,17],[11,18],[5],[20],[],[21,22],[19,23],[24]] (fun f=> [(some 8,.string input),(some 9,.iface 191 (.string input)),(some 10,.slice (some ⟨f 2,0,none⟩) 1 1),(some 11,.string T1),(some 12,.pointer (some ⟨w.heap.size,2,none⟩)),(some 13,.pointer (some ⟨w.heap.size,8,none⟩)),(some 14,.func (.func F6) #[] #[]),(some 15,.pointer (some ⟨w.heap.size,0,none⟩)),(some 16,.pointer (some ⟨w.heap.size,1,none⟩)),(some 17,.string info),(some 18,.slice none 0 0),(some 19,.string T1),(some 20,.agg #[int u64 (px u),int u64 (py u),.bool (pb u)]),(some 21,.iface 86 (.agg #[int u64 (px u),int u64 (py u),.bool (pb u)])),(some 22,.iface 193 (.string finW)),(some 23,.slice (some ⟨f 15,0,none⟩) 2 2),(some 24,.string TX),(some 7,.string TX)]) (by kernel_rfl) (by kernel_rfl) (by kernel_rfl) (by kernel_rfl) (fun _=>by kernel_rfl) (G.last_of [.cells #[.iface 191 (.string input)] 234,.cells #[.iface 86 (.agg #[int u64 (px u),int u64 (py u),.bool (pb u)]),.iface 193 (.string finW)] 234] (fun F R hm=>by simp at hm) (fun ob ob' k hm=>by simp at hm;rcases hm with h|h<;>simp [h]) (fun b ob ob' hm=>by simp at hm)) (fun b ob ob' hm=>by simp at hm) ?_ ?_
  · intro ix hix
    match ix,hix with
    |0,_=>exact G.obv [(1,.string input)] rfl rfl (fun A w ⟨e0,_⟩ hB=>doV_move e0)
    |1,_=>exact G.obv [(8,.string input)] rfl rfl (fun A w ⟨e0,_⟩ hB=>mi_sized e0)
    |2,_=>exact G.ob_slc 1 [(9,.iface 191 (.string input))] rfl rfl (fun _=>by kernel_rfl) (fun A w ⟨e0,_⟩=>sl_parts1 e0)
    |3,_=>exact G.ob_use 10 2 1001 (.cells #[.iface 191 (.string input)] 234) (fun f=> [(10,.slice (some ⟨f 2,0,none⟩) 1 1)]) rfl rfl (by decide) (by kernel_rfl) rfl (fun _=>by kernel_rfl) (fun f A w ⟨e0,_⟩ hB hr=>cl2 cf_impl_transcript_with rfl e0 (Q1 _ w hr))
    |4,_=>exact G.obv [(3,.pointer (some ⟨w.heap.size,0,none⟩))] rfl rfl (fun A w ⟨e0,_⟩ hB=>fa_pro1 e0)
    |5,_=>exact G.obv [(12,.pointer (some ⟨w.heap.size,2,none⟩))] rfl rfl (fun A w ⟨e0,_⟩ hB=>fa_rul6 e0)
    |6,_=>exact G.obv [(13,.pointer (some ⟨w.heap.size,8,none⟩))] rfl rfl (fun A w ⟨e0,_⟩ hB=>ld_fn6 e0 (hB.cell s8 (by simp)))
    |7,_=>exact G.obv [(3,.pointer (some ⟨w.heap.size,0,none⟩))] rfl rfl (fun A w ⟨e0,_⟩ hB=>fa_pro0 e0)
    |8,_=>exact G.obv [(15,.pointer (some ⟨w.heap.size,0,none⟩))] rfl rfl (fun A w ⟨e0,_⟩ hB=>fa_set1 e0)
    |9,_=>exact G.obv [(16,.pointer (some ⟨w.heap.size,1,none⟩))] rfl rfl (fun A w ⟨e0,_⟩ hB=>ld_str e0 (hB.cell s1 (by simp)))
    |10,_=>exact G.obv [(14,.func (.func F6) #[] #[]),(17,.string info)] rfl rfl (fun A w ⟨e0,e1,_⟩ hB=>cv1 E6 e0 e1 (HS w))
    |11,_=>exact G.obv [(11,.string T1),(18,.slice none 0 0)] rfl rfl (fun A w ⟨e0,e1,_⟩ hB=>cl2 cf_impl_transcript_with e0 e1 (Q2 w))
    |12,_=>exact G.obv [(5,.pointer (some ⟨w.heap.size+1,0,none⟩))] rfl rfl (fun A w ⟨e0,_⟩ hB=>ld_cp e0 (hB.cell u0 (by simp)) (hB.cell u1 (by simp)) (hB.cell u2 (by simp)))
    |13,_=>exact G.obv [(20,.agg #[int u64 (px u),int u64 (py u),.bool (pb u)])] rfl rfl (fun A w ⟨e0,_⟩ hB=>mi_cp e0)
    |14,_=>exact G.obv [] rfl rfl (fun A w _ hB=>mi_plain rfl)
    |15,_=>exact G.ob_slc 2 [(21,.iface 86 (.agg #[int u64 (px u),int u64 (py u),.bool (pb u)])),(22,.iface 193 (.string finW))] rfl rfl (fun _=>by kernel_rfl) (fun A w ⟨e0,e1,_⟩=>sl_parts2 e0 e1)
    |16,_=>exact G.ob_use 23 15 1002 (.cells #[.iface 86 (.agg #[int u64 (px u),int u64 (py u),.bool (pb u)]),.iface 193 (.string finW)] 234) (fun f=> [(19,.string T1),(23,.slice (some ⟨f 15,0,none⟩) 2 2)]) rfl rfl (by decide) (by kernel_rfl) rfl (fun _=>by kernel_rfl) (fun f A w ⟨e0,e1,_⟩ hB hr=>cl2 cf_impl_transcript_with e0 e1 (Q3 _ w hr))
    |17,_=>exact G.obv [(24,.string TX)] rfl rfl (fun A w ⟨e0,_⟩ hB=>doV_assign e0)
    |ix+18,h=>exact absurd h (by simp)
  intro f W3 hS _ _ _ _;have b3:Bl X W3:=(Below.refl _ X).drew.trans hS.below;replace hb:=hb.tr b3;have hT3:TabK W3:=fun i hi=>(hb.cell (p:=⟨6,i,none⟩) hgw).trans (hT i hi)
  clear hS b3 s1 s8 u0 u1 u2 r0 r1 Q1 Q2 Q3 HS;simp only [puts,List.foldl,Act.put,List.setIfInBounds_toArray,List.set_cons_zero,List.set_cons_succ];have hal:=balc W3 (Obj.cells #[.string TX] 9);have hT4:TabK (W3.alloc (Obj.cells #[.string TX] 9)):=fun i hi=>(hal.cell (p:=⟨6,i,none⟩) (Nat.lt_of_lt_of_le hgw hb.size)).trans (hT3 i hi)
  go_wp2_with fail;refine(QH _ _ hT4 (heap_alloc_new W3 _)).mono ?_;rintro e w4 ⟨rfl,b4⟩;replace hb:=hb.tr hal;replace hb:=hb.tr b4;go_wp2;go_ret;exact⟨rfl,hb⟩
theorem outI_twoof
    (HS:∀w,Calls prog F6 #[.string info] w fun e w'=>∃x,e= .returned (slP x)∧cePart info x w'∧Bl w w')
    (Q2:∀x w,cePart info x w→Cr 109 #[.string T1,slP x] w (.string T2))
    (Q3:∀i (w:World),w.heap[i]? =some (.cells #[.iface 86 (.agg #[int u64 (px u),int u64 (py u),.bool (pb u)]),.iface 193 (.string finW)] 234)→Cr 109 #[.string T2,.slice (some ⟨i,0,none⟩) 2 2] w (.string TX)):
    Cr 72 #[.agg #[.string cx,.string info,.func (.func F0) #[] #[],.func (.func F1) #[] #[],.func (.func F2) #[] #[],.func (.func F3) #[] #[],.func (.func F4) #[] #[],.func (.func F5) #[] #[],.func (.func F6) #[] #[]],.string input,.agg #[int u64 (px u),int u64 (py u),.bool (pb u)]] w (.string R):=by
  have hgw:6<w.heap.size:=World.block_lt_of_cell? w _ (hT 0 (by omega));obtain⟨X,hX⟩:∃X,X=(w.alloc (Obj.cells #[.string cx,.string info,.func (.func F0) #[] #[],.func (.func F1) #[] #[],.func (.func F2) #[] #[],.func (.func F3) #[] #[],.func (.func F4) #[] #[],.func (.func F5) #[] #[],.func (.func F6) #[] #[]] 125)).alloc (Obj.cells #[int u64 (px u),int u64 (py u),.bool (pb u)] 86):=⟨_,rfl⟩;have r0:Bk X 125 w.heap.size #[.string cx,.string info,.func (.func F0) #[] #[],.func (.func F1) #[] #[],.func (.func F2) #[] #[],.func (.func F3) #[] #[],.func (.func F4) #[] #[],.func (.func F5) #[] #[],.func (.func F6) #[] #[]]:=by rw [hX];exact(Bk.new _ _ _).alloc _
  have r1:K3 X 86 (w.heap.size+1) (px u) (py u) (pb u):=by rw [hX];exact(K3.new _ _ _ _ _).at (by simp)
  have hb:Bl w X:=by rw [hX];exact((Below.refl _ w).alloc (Nat.le_refl _) _).alloc (by simp) _
  go_enter func72,ntmps72;go_wp2;rw [←hX];clear hX;have s1:X.drew.cell? ⟨w.heap.size,1,none⟩=_:=r0.cell (k:=1) rfl;have s8:X.drew.cell? ⟨w.heap.size,8,none⟩=_:=r0.cell (k:=8) rfl;have u0:X.drew.cell? ⟨w.heap.size+1,0,none⟩=_:=r1.c0;have u1:X.drew.cell? ⟨w.heap.size+1,1,none⟩=_:=r1.c1;have u2:X.drew.cell? ⟨w.heap.size+1,2,none⟩=_:=r1.c2
  refine G.pool_list (W:=X) [] [.val (.string input),
      .val (.iface 191 (.string input)),
      .new (.cells #[.iface 191 (.string input)] 234) (.cells #[.iface 191 (.string input)] 234) 1001,
      .val (.string T1),
      .val (.pointer (some ⟨w.heap.size,2,none⟩)),
      .val (.pointer (some ⟨w.heap.size,8,none⟩)),
      .val (.func (.func F6) #[] #[]),
      .val (.pointer (some ⟨w.heap.size,0,none⟩)),
      .val (.pointer (some ⟨w.heap.size,1,none⟩)),
      .val (.string info),
      .got (slP) (cePart info),
      .val (.string T2),
      .val (.agg #[int u64 (px u),int u64 (py u),.bool (pb u)]),
      .val (.iface 86 (.agg #[int u64 (px u),int u64 (py u),.bool (pb u)])),
      .val (.iface 193 (.string finW)),
      .new (.cells #[.iface 86 (.agg #[int u64 (px u),int u64 (py u),.bool (pb u)]),.iface 193 (.string finW)] 234) (.cells #[.iface 86 (.agg #[int u64 (px u),int u64 (py u),.bool (pb u)]),.iface 193 (.string finW)] 234) 1002,
      .val (.string TX),
      .val (.string TX)] [[1],[8],[9],[10],[3],[12],[13],[3],[15],[16],[14,17],[11,18],[5],[20],[],[21,22],[19,23],[24]] (fun f=> [(some 8,.string input),(some 9,.iface 191 (.string input)),(some 10,.slice (some ⟨f 2,0,none⟩) 1 1),(some 11,.string T1),(some 12,.pointer (some ⟨w.heap.size,2,none⟩)),(some 13,.pointer (some ⟨w.heap.size,8,none⟩)),(some 14,.func (.func F6) #[] #[]),(some 15,.pointer (some ⟨w.heap.size,0,none⟩)),(some 16,.pointer (some ⟨w.heap.size,1,none⟩)),(some 17,.string info),(some 18,slP (f 10)),(some 19,.string T2),(some 20,.agg #[int u64 (px u),int u64 (py u),.bool (pb u)]),(some 21,.iface 86 (.agg #[int u64 (px u),int u64 (py u),.bool (pb u)])),(some 22,.iface 193 (.string finW)),(some 23,.slice (some ⟨f 15,0,none⟩) 2 2),(some 24,.string TX),(some 7,.string TX)]) (by kernel_rfl) (by kernel_rfl) (by kernel_rfl) (by kernel_rfl) (fun _=>by kernel_rfl) (G.last_same [] (fun F R hm=>by simp only [List.mem_cons,List.not_mem_nil,or_false,reduceCtorEq,false_or,G.Knd.got.injEq] at hm;obtain⟨-,rfl⟩:=hm;exact⟨cePart_lasts info _ (fun ob hm=>by simp at hm),fun x w w' hx hk=>(hk x).trans hx⟩) (fun ob ob' k hm=>by simp at hm;rcases hm with ⟨rfl,rfl,-⟩|⟨rfl,rfl,-⟩<;>exact .inl rfl) (fun b ob ob' hm=>by simp at hm)) (fun b ob ob' hm=>by simp at hm) ?_ ?_
  · intro ix hix
    match ix,hix with
    |0,_=>exact G.obv [(1,.string input)] rfl rfl (fun A w ⟨e0,_⟩ hB=>doV_move e0)
    |1,_=>exact G.obv [(8,.string input)] rfl rfl (fun A w ⟨e0,_⟩ hB=>mi_sized e0)
    |2,_=>exact G.ob_slc 1 [(9,.iface 191 (.string input))] rfl rfl (fun _=>by kernel_rfl) (fun A w ⟨e0,_⟩=>sl_parts1 e0)
    |3,_=>exact G.ob_use 10 2 1001 (.cells #[.iface 191 (.string input)] 234) (fun f=> [(10,.slice (some ⟨f 2,0,none⟩) 1 1)]) rfl rfl (by decide) (by kernel_rfl) rfl (fun _=>by kernel_rfl) (fun f A w ⟨e0,_⟩ hB hr=>cl2 cf_impl_transcript_with rfl e0 (Q1 _ w hr))
    |4,_=>exact G.obv [(3,.pointer (some ⟨w.heap.size,0,none⟩))] rfl rfl (fun A w ⟨e0,_⟩ hB=>fa_pro1 e0)
    |5,_=>exact G.obv [(12,.pointer (some ⟨w.heap.size,2,none⟩))] rfl rfl (fun A w ⟨e0,_⟩ hB=>fa_rul6 e0)
    |6,_=>exact G.obv [(13,.pointer (some ⟨w.heap.size,8,none⟩))] rfl rfl (fun A w ⟨e0,_⟩ hB=>ld_fn6 e0 (hB.cell s8 (by simp)))
    |7,_=>exact G.obv [(3,.pointer (some ⟨w.heap.size,0,none⟩))] rfl rfl (fun A w ⟨e0,_⟩ hB=>fa_pro0 e0)
    |8,_=>exact G.obv [(15,.pointer (some ⟨w.heap.size,0,none⟩))] rfl rfl (fun A w ⟨e0,_⟩ hB=>fa_set1 e0)
    |9,_=>exact G.obv [(16,.pointer (some ⟨w.heap.size,1,none⟩))] rfl rfl (fun A w ⟨e0,_⟩ hB=>ld_str e0 (hB.cell s1 (by simp)))
    |10,_=>exact G.ob_got (fun f=> [(14,.func (.func F6) #[] #[]),(17,.string info)]) rfl rfl (fun _=>by kernel_rfl) (fun f A w ⟨e0,e1,_⟩ hB hh=>cw1 E6 e0 e1 (HS w))
    |11,_=>exact G.ob_had (fun f=> [(11,.string T1),(18,slP (f 10))]) rfl rfl (fun _=>by kernel_rfl) (fun f A w ⟨e0,e1,_⟩ hB hh=>cl2 cf_impl_transcript_with e0 e1 (Q2 _ w (hh 18 (by decide) 10 rfl (by decide) _ _ rfl)))
    |12,_=>exact G.obv [(5,.pointer (some ⟨w.heap.size+1,0,none⟩))] rfl rfl (fun A w ⟨e0,_⟩ hB=>ld_cp e0 (hB.cell u0 (by simp)) (hB.cell u1 (by simp)) (hB.cell u2 (by simp)))
    |13,_=>exact G.obv [(20,.agg #[int u64 (px u),int u64 (py u),.bool (pb u)])] rfl rfl (fun A w ⟨e0,_⟩ hB=>mi_cp e0)
    |14,_=>exact G.obv [] rfl rfl (fun A w _ hB=>mi_plain rfl)
    |15,_=>exact G.ob_slc 2 [(21,.iface 86 (.agg #[int u64 (px u),int u64 (py u),.bool (pb u)])),(22,.iface 193 (.string finW))] rfl rfl (fun _=>by kernel_rfl) (fun A w ⟨e0,e1,_⟩=>sl_parts2 e0 e1)
    |16,_=>exact G.ob_use 23 15 1002 (.cells #[.iface 86 (.agg #[int u64 (px u),int u64 (py u),.bool (pb u)]),.iface 193 (.string finW)] 234) (fun f=> [(19,.string T2),(23,.slice (some ⟨f 15,0,none⟩) 2 2)]) rfl rfl (by decide) (by kernel_rfl) rfl (fun _=>by kernel_rfl) (fun f A w ⟨e0,e1,_⟩ hB hr=>cl2 cf_impl_transcript_with e0 e1 (Q3 _ w hr))
    |17,_=>exact G.obv [(24,.string TX)] rfl rfl (fun A w ⟨e0,_⟩ hB=>doV_assign e0)
    |ix+18,h=>exact absurd h (by simp)
  intro f W3 hS _ _ _ _;have b3:Bl X W3:=(Below.refl _ X).drew.trans hS.below;replace hb:=hb.tr b3;have hT3:TabK W3:=fun i hi=>(hb.cell (p:=⟨6,i,none⟩) hgw).trans (hT i hi)
  clear hS b3 s1 s8 u0 u1 u2 r0 r1 Q1 Q2 Q3 HS;simp only [puts,List.foldl,Act.put,List.setIfInBounds_toArray,List.set_cons_zero,List.set_cons_succ];have hal:=balc W3 (Obj.cells #[.string TX] 9);have hT4:TabK (W3.alloc (Obj.cells #[.string TX] 9)):=fun i hi=>(hal.cell (p:=⟨6,i,none⟩) (Nat.lt_of_lt_of_le hgw hb.size)).trans (hT3 i hi)
  go_wp2_with fail;refine(QH _ _ hT4 (heap_alloc_new W3 _)).mono ?_;rintro e w4 ⟨rfl,b4⟩;replace hb:=hb.tr hal;replace hb:=hb.tr b4;go_wp2;go_ret;exact⟨rfl,hb⟩
end
section
variable (cx info input:ByteArray)(u:Pt)(F0 F1 F2 F3 F4 F5 F6:FuncId)(w:World)(hT:TabK w)(h1:input.size≤65535)(h2:info.size≤60000)
    (E6:∀(args:Array Value) (w:World),(callFunc F6 args).run prog w= .ok (.enter F6 args) w)
include hT h1 h2 E6
theorem outI_no (mode:Int)(hm: ¬ mode=2)
    (HS:Cc F6 #[.string info] (.slice none 0 0)):
    Cr 72 #[.agg #[.string cx,.string info,.func (.func F0) #[] #[],.func (.func F1) #[] #[],.func (.func F2) #[] #[],.func (.func F3) #[] #[],.func (.func F4) #[] #[],.func (.func F5) #[] #[],.func (.func F6) #[] #[]],.string input,.agg #[int u64 (px u),int u64 (py u),.bool (pb u)]] w (.string (outB mode input info u)):=by
  have hz1:(⟨#[]⟩++sizB input:ByteArray).size≤200000:=by rw [ByteArray.size_append,sizB_size];show 0+_≤_;omega
  have eT:(⟨#[]⟩++sizB input:ByteArray)++sizB (ptB u)++finW=outT mode input info u:=by unfold outT;rw [if_neg hm,eml]
  have hzo:=outT_size mode input info u h1 h2;have A1:∀i (w:World),w.heap[i]? =some (.cells #[.iface 191 (.string input)] 234)→Cr 109 #[.string ⟨#[]⟩,.slice (some ⟨i,0,none⟩) 1 1] w (.string (⟨#[]⟩++sizB input)):=fun i w hr=>wth1 ⟨#[]⟩ input i w (by decide) h1 hr
  have A2:=fun w=>wth0 (⟨#[]⟩++sizB input) w (by omega)
  have A3:=fun i w hr=>wth2 (⟨#[]⟩++sizB input) u i w hz1 hr
  rw [eT] at A3;have A4:=fun g w hT hr=>hash_blk (outT mode input info u) g 9 w hT hr (by omega)
  clear eT hz1 hzo;generalize (⟨#[]⟩++sizB input:ByteArray)=T1 at A1 A2 A3;exact outI_noof cx info input T1 (outT mode input info u) (outB mode input info u) u F0 F1 F2 F3 F4 F5 F6 w hT E6 A1 A4 HS A2 A3
theorem outI_two
    (HS:∀w,Calls prog F6 #[.string info] w fun e w'=>∃x,e= .returned (slP x)∧cePart info x w'∧Bl w w'):
    Cr 72 #[.agg #[.string cx,.string info,.func (.func F0) #[] #[],.func (.func F1) #[] #[],.func (.func F2) #[] #[],.func (.func F3) #[] #[],.func (.func F4) #[] #[],.func (.func F5) #[] #[],.func (.func F6) #[] #[]],.string input,.agg #[int u64 (px u),int u64 (py u),.bool (pb u)]] w (.string (outB 2 input info u)):=by
  have e0:=eml (sizB input);have hzo:=outT_size 2 input info u h1 h2;have A4:=fun g w hT hr=>hash_blk (outT 2 input info u) g 9 w hT hr (by omega)
  have eO:outB 2 input info u=strOfNums (shaF (byt (outT 2 input info u))):=rfl;have eX:outT 2 input info u=sizB input++sizB info++sizB (ptB u)++finW:=by unfold outT;rw [if_pos rfl]
  rw [eO];clear eO
  have A1:∀i (w:World),w.heap[i]? =some (.cells #[.iface 191 (.string input)] 234)→Cr 109 #[.string ⟨#[]⟩,.slice (some ⟨i,0,none⟩) 1 1] w (.string (sizB input)):=fun i w hr=>by
    have:=wth1 ⟨#[]⟩ input i w (by decide) h1 hr;rw [e0] at this;exact this
  clear e0;have z1:=sizB_size input;have z2:=sizB_size info;obtain⟨T1,hT1⟩:∃T1,T1=sizB input:=⟨_,rfl⟩;rw [←hT1] at A1 eX z1;have A2:∀x w,cePart info x w→Cr 109 #[.string T1,slP x] w (.string (T1++sizB info)):=fun x w hr=>wth1 T1 info x w (by omega) (by omega) hr
  obtain⟨T2,hT2⟩:∃T2,T2=T1++sizB info:=⟨_,rfl⟩;have z3:T2.size≤200000:=by rw [hT2,ByteArray.size_append];omega
  rw [←hT2] at A2 eX;have A3:=fun i w hr=>wth2 T2 u i w z3 hr
  rw [←eX] at A3;generalize outT 2 input info u=TX at*;exact outI_twoof cx info input T1 T2 TX _ u F0 F1 F2 F3 F4 F5 F6 w hT E6 A1 A4 HS A2 A3
end
section
variable (mode k s g:Int)(input info cx R:ByteArray)(p u:Pt)(F0 F1 F2 F3 F4 F5 F6:FuncId)(T:TypeId)(x:Value)(a0 a2:Addr)(w:World)
theorem hdI_a
    (FP:Cb w 67 #[.int .i64 mode,.string info] (.tuple #[.agg zPro,.iface T x])):
    Cr 38 #[.int .i64 mode,int u64 k,.string input,.string info] w (.tuple #[.string ⟨#[]⟩,.iface T x]):=by
  unfold zPro at FP;have hb:=Below.refl w.heap.size w;go_enter func38,ntmps38;go_wp2_with fail;refine(FP _ hb).mono ?_;rintro e w1 ⟨rfl,b1⟩;have hal:=balc w1 (Obj.cells #[.string ⟨#[]⟩,.string ⟨#[]⟩,.nilFunc,.nilFunc,.nilFunc,.nilFunc,.nilFunc,.nilFunc,.nilFunc] 125);replace hb:=hb.tr b1;replace hb:=hb.tr hal;clear FP b1 hal;go_wp2;go_ret2;exact⟨rfl,hb⟩
variable (FP:Cb w 67 #[.int .i64 mode,.string info] (.tuple #[.agg #[.string cx,.string info,.func (.func F0) #[] #[],.func (.func F1) #[] #[],.func (.func F2) #[] #[],.func (.func F3) #[] #[],.func (.func F4) #[] #[],.func (.func F5) #[] #[],.func (.func F6) #[] #[]],.nilIface]))
include FP
theorem hdI_b
    (FF:Cb w 69 #[int u64 k] (.tuple #[.agg #[int u64 0],sen a0])):
    Cr 38 #[.int .i64 mode,int u64 k,.string input,.string info] w (.tuple #[.string ⟨#[]⟩,flt ⟨#[107,101,121]⟩ (sen a0)]):=by
  unfold flt sen at*;have hb:=Below.refl w.heap.size w;go_enter func38,ntmps38;go_wp2_with fail;refine(FP _ hb).mono ?_;rintro e w1 ⟨rfl,b1⟩;have hal:=balc w1 (Obj.cells #[.string cx,.string info,.func (.func F0) #[] #[],.func (.func F1) #[] #[],.func (.func F2) #[] #[],.func (.func F3) #[] #[],.func (.func F4) #[] #[],.func (.func F5) #[] #[],.func (.func F6) #[] #[]] 125);have r10:=Bk.new w1 125 #[.string cx,.string info,.func (.func F0) #[] #[],.func (.func F1) #[] #[],.func (.func F2) #[] #[],.func (.func F3) #[] #[],.func (.func F4) #[] #[],.func (.func F5) #[] #[],.func (.func F6) #[] #[]];replace hb:=hb.tr b1;replace hb:=hb.tr hal;clear FP b1 hal;go_wp2_with fail;refine(FF _ hb).mono ?_;rintro e w2 ⟨rfl,b1⟩;have hal:=balc w2 (Obj.cells #[int u64 0] 97);replace hb:=hb.tr b1;replace hb:=hb.tr hal;clear FF b1 hal;go_wp2;go_ret2;exact⟨rfl,hb⟩
variable (FF:Cb w 69 #[int u64 k] (.tuple #[.agg #[int u64 k],.nilIface]))
include FF
theorem hdI_c
    (GR:Cb w 70 #[.agg #[.string cx,.string info,.func (.func F0) #[] #[],.func (.func F1) #[] #[],.func (.func F2) #[] #[],.func (.func F3) #[] #[],.func (.func F4) #[] #[],.func (.func F5) #[] #[],.func (.func F6) #[] #[]],.string input] (.tuple #[.agg #[int u64 (px p),int u64 (py p),.bool (pb p)],.iface T x])):
    Cr 38 #[.int .i64 mode,int u64 k,.string input,.string info] w (.tuple #[.string ⟨#[]⟩,.iface T x]):=by
  have hb:=Below.refl w.heap.size w;go_enter func38,ntmps38;go_wp2_with fail;refine(FP _ hb).mono ?_;rintro e w1 ⟨rfl,b1⟩;have hal:=balc w1 (Obj.cells #[.string cx,.string info,.func (.func F0) #[] #[],.func (.func F1) #[] #[],.func (.func F2) #[] #[],.func (.func F3) #[] #[],.func (.func F4) #[] #[],.func (.func F5) #[] #[],.func (.func F6) #[] #[]] 125);have r10:=Bk.new w1 125 #[.string cx,.string info,.func (.func F0) #[] #[],.func (.func F1) #[] #[],.func (.func F2) #[] #[],.func (.func F3) #[] #[],.func (.func F4) #[] #[],.func (.func F5) #[] #[],.func (.func F6) #[] #[]];replace hb:=hb.tr b1;replace hb:=hb.tr hal;clear FP b1 hal;go_wp2_with fail;refine(FF _ hb).mono ?_;rintro e w2 ⟨rfl,b1⟩;have hal:=balc w2 (Obj.cells #[int u64 k] 97);have r12:=Bk.new w2 97 #[int u64 k];replace r10:=(r10.keep b1).keep hal;replace hb:=hb.tr b1;replace hb:=hb.tr hal;clear FF b1 hal;have d0:=r10.cell (k:=0) rfl;have d1:=r10.cell (k:=1) rfl;have d2:=r10.cell (k:=2) rfl;have d3:=r10.cell (k:=3) rfl;have d4:=r10.cell (k:=4) rfl;have d5:=r10.cell (k:=5) rfl;have d6:=r10.cell (k:=6) rfl;have d7:=r10.cell (k:=7) rfl;have d8:=r10.cell (k:=8) rfl;go_wp2_with fail;refine(GR _ hb).mono ?_;rintro e w3 ⟨rfl,b1⟩;have hal:=balc w3 (Obj.cells #[int u64 (px p),int u64 (py p),.bool (pb p)] 86);replace hb:=hb.tr b1;replace hb:=hb.tr hal;clear GR d0 d1 d2 d3 d4 d5 d6 d7 d8 b1 hal;go_wp2;go_ret2;exact⟨rfl,hb⟩
variable (GR:Cb w 70 #[.agg #[.string cx,.string info,.func (.func F0) #[] #[],.func (.func F1) #[] #[],.func (.func F2) #[] #[],.func (.func F3) #[] #[],.func (.func F4) #[] #[],.func (.func F5) #[] #[],.func (.func F6) #[] #[]],.string input] (.tuple #[.agg #[int u64 (px p),int u64 (py p),.bool (pb p)],.nilIface]))
    (E1:∀(args:Array Value) (w:World),(callFunc F1 args).run prog w= .ok (.enter F1 args) w)
include GR E1
theorem hdI_d
    (SE:Cb w F1 #[.agg #[.string cx,.string info],.agg #[int u64 k]] (.tuple #[.agg #[int u64 s],sen a2])):
    Cr 38 #[.int .i64 mode,int u64 k,.string input,.string info] w (.tuple #[.string ⟨#[]⟩,flt ⟨#[107,101,121,32,97,110,100,32,105,110,102,111]⟩ (sen a2)]):=by
  unfold flt sen at*;have hb:=Below.refl w.heap.size w;go_enter func38,ntmps38;go_wp2_with fail;refine(FP _ hb).mono ?_;rintro e w1 ⟨rfl,b1⟩;have hal:=balc w1 (Obj.cells #[.string cx,.string info,.func (.func F0) #[] #[],.func (.func F1) #[] #[],.func (.func F2) #[] #[],.func (.func F3) #[] #[],.func (.func F4) #[] #[],.func (.func F5) #[] #[],.func (.func F6) #[] #[]] 125);have r10:=Bk.new w1 125 #[.string cx,.string info,.func (.func F0) #[] #[],.func (.func F1) #[] #[],.func (.func F2) #[] #[],.func (.func F3) #[] #[],.func (.func F4) #[] #[],.func (.func F5) #[] #[],.func (.func F6) #[] #[]];replace hb:=hb.tr b1;replace hb:=hb.tr hal;clear FP b1 hal;go_wp2_with fail;refine(FF _ hb).mono ?_;rintro e w2 ⟨rfl,b1⟩;have hal:=balc w2 (Obj.cells #[int u64 k] 97);have r12:=Bk.new w2 97 #[int u64 k];replace r10:=(r10.keep b1).keep hal;replace hb:=hb.tr b1;replace hb:=hb.tr hal;clear FF b1 hal;have d0:=r10.cell (k:=0) rfl;have d1:=r10.cell (k:=1) rfl;have d2:=r10.cell (k:=2) rfl;have d3:=r10.cell (k:=3) rfl;have d4:=r10.cell (k:=4) rfl;have d5:=r10.cell (k:=5) rfl;have d6:=r10.cell (k:=6) rfl;have d7:=r10.cell (k:=7) rfl;have d8:=r10.cell (k:=8) rfl;go_wp2_with fail;refine(GR _ hb).mono ?_;rintro e w3 ⟨rfl,b1⟩;have hal:=balc w3 (Obj.cells #[int u64 (px p),int u64 (py p),.bool (pb p)] 86);have r13:=Bk.new w3 86 #[int u64 (px p),int u64 (py p),.bool (pb p)];replace r10:=(r10.keep b1).keep hal;replace r12:=(r12.keep b1).keep hal;replace hb:=hb.tr b1;replace hb:=hb.tr hal;clear GR d0 d1 d2 d3 d4 d5 d6 d7 d8 b1 hal;have d0:=r10.cell (k:=0) rfl;have d1:=r10.cell (k:=1) rfl;have d3:=r10.cell (k:=3) rfl;have e0:=r12.cell (k:=0) rfl;go_wp2_with fail;refine(SE _ hb).mono ?_;rintro e w4 ⟨rfl,b1⟩;have hal:=balc w4 (Obj.cells #[int u64 s] 97);replace hb:=hb.tr b1;replace hb:=hb.tr hal;clear SE d0 d1 d3 e0 b1 hal;go_wp2;go_ret2;exact⟨rfl,hb⟩
theorem hdI_e
    (SE:Cb w F1 #[.agg #[.string cx,.string info],.agg #[int u64 k]] (.tuple #[.agg #[int u64 s],.nilIface]))
    (E2:∀(args:Array Value) (w:World),(callFunc F2 args).run prog w= .ok (.enter F2 args) w)
    (FA:Cc F2 #[.agg #[int u64 s]] (.agg #[int u64 g]))
    (TM:Cc 71 #[.agg #[int u64 (px p),int u64 (py p),.bool (pb p)],int u64 g] (.agg #[int u64 (px u),int u64 (py u),.bool (pb u)]))
    (OU:Cb w 72 #[.agg #[.string cx,.string info,.func (.func F0) #[] #[],.func (.func F1) #[] #[],.func (.func F2) #[] #[],.func (.func F3) #[] #[],.func (.func F4) #[] #[],.func (.func F5) #[] #[],.func (.func F6) #[] #[]],.string input,.agg #[int u64 (px u),int u64 (py u),.bool (pb u)]] (.string R)):
    Cr 38 #[.int .i64 mode,int u64 k,.string input,.string info] w (.tuple #[.string R,.nilIface]):=by
  have hb:=Below.refl w.heap.size w;go_enter func38,ntmps38;go_wp2_with fail;refine(FP _ hb).mono ?_;rintro e w1 ⟨rfl,b1⟩;have hal:=balc w1 (Obj.cells #[.string cx,.string info,.func (.func F0) #[] #[],.func (.func F1) #[] #[],.func (.func F2) #[] #[],.func (.func F3) #[] #[],.func (.func F4) #[] #[],.func (.func F5) #[] #[],.func (.func F6) #[] #[]] 125);have r10:=Bk.new w1 125 #[.string cx,.string info,.func (.func F0) #[] #[],.func (.func F1) #[] #[],.func (.func F2) #[] #[],.func (.func F3) #[] #[],.func (.func F4) #[] #[],.func (.func F5) #[] #[],.func (.func F6) #[] #[]];replace hb:=hb.tr b1;replace hb:=hb.tr hal;clear FP b1 hal;go_wp2_with fail;refine(FF _ hb).mono ?_;rintro e w2 ⟨rfl,b1⟩;have hal:=balc w2 (Obj.cells #[int u64 k] 97);have r12:=Bk.new w2 97 #[int u64 k];replace r10:=(r10.keep b1).keep hal;replace hb:=hb.tr b1;replace hb:=hb.tr hal;clear FF b1 hal;have d0:=r10.cell (k:=0) rfl;have d1:=r10.cell (k:=1) rfl;have d2:=r10.cell (k:=2) rfl;have d3:=r10.cell (k:=3) rfl;have d4:=r10.cell (k:=4) rfl;have d5:=r10.cell (k:=5) rfl;have d6:=r10.cell (k:=6) rfl;have d7:=r10.cell (k:=7) rfl;have d8:=r10.cell (k:=8) rfl;go_wp2_with fail;refine(GR _ hb).mono ?_;rintro e w3 ⟨rfl,b1⟩;have hal:=balc w3 (Obj.cells #[int u64 (px p),int u64 (py p),.bool (pb p)] 86);have r13:=Bk.new w3 86 #[int u64 (px p),int u64 (py p),.bool (pb p)];replace r10:=(r10.keep b1).keep hal;replace r12:=(r12.keep b1).keep hal;replace hb:=hb.tr b1;replace hb:=hb.tr hal;clear GR d0 d1 d2 d3 d4 d5 d6 d7 d8 b1 hal;have d0:=r10.cell (k:=0) rfl;have d1:=r10.cell (k:=1) rfl;have d3:=r10.cell (k:=3) rfl;have e0:=r12.cell (k:=0) rfl;go_wp2_with fail;refine(SE _ hb).mono ?_;rintro e w4 ⟨rfl,b1⟩;have hal:=balc w4 (Obj.cells #[int u64 s] 97);have r14:=Bk.new w4 97 #[int u64 s];replace r10:=(r10.keep b1).keep hal;replace r13:=(r13.keep b1).keep hal;replace hb:=hb.tr b1;replace hb:=hb.tr hal;clear SE d0 d1 d3 e0 b1 hal;have d0:=r10.cell (k:=0) rfl;have d1:=r10.cell (k:=1) rfl;have d2:=r10.cell (k:=2) rfl;have d3:=r10.cell (k:=3) rfl;have d4:=r10.cell (k:=4) rfl;have d5:=r10.cell (k:=5) rfl;have d6:=r10.cell (k:=6) rfl;have d7:=r10.cell (k:=7) rfl;have d8:=r10.cell (k:=8) rfl;have q0:=r13.cell (k:=0) rfl;have q1:=r13.cell (k:=1) rfl;have q2:=r13.cell (k:=2) rfl;have z0:=r14.cell (k:=0) rfl;go_wp2;clear d0 d1 d2 d3 d4 d5 d6 d7 d8 q0 q1 q2 z0;generalize w4.alloc _=W5 at*;generalize w1.heap.size=BP at*;generalize w3.heap.size=BG at*;generalize w4.heap.size=BS at*;have d0:W5.drew.cell? ⟨BP,0,none⟩=_:=r10.cell (k:=0) rfl;have d1:W5.drew.cell? ⟨BP,1,none⟩=_:=r10.cell (k:=1) rfl;have d2:W5.drew.cell? ⟨BP,2,none⟩=_:=r10.cell (k:=2) rfl;have d3:W5.drew.cell? ⟨BP,3,none⟩=_:=r10.cell (k:=3) rfl;have d4:W5.drew.cell? ⟨BP,4,none⟩=_:=r10.cell (k:=4) rfl;have d5:W5.drew.cell? ⟨BP,5,none⟩=_:=r10.cell (k:=5) rfl;have d6:W5.drew.cell? ⟨BP,6,none⟩=_:=r10.cell (k:=6) rfl;have d7:W5.drew.cell? ⟨BP,7,none⟩=_:=r10.cell (k:=7) rfl;have d8:W5.drew.cell? ⟨BP,8,none⟩=_:=r10.cell (k:=8) rfl;have q0:W5.drew.cell? ⟨BG,0,none⟩=_:=r13.cell (k:=0) rfl;have q1:W5.drew.cell? ⟨BG,1,none⟩=_:=r13.cell (k:=1) rfl;have q2:W5.drew.cell? ⟨BG,2,none⟩=_:=r13.cell (k:=2) rfl;have z0:W5.drew.cell? ⟨BS,0,none⟩=_:=r14.cell (k:=0) rfl;have hbD:∀w',G.Sides [] W5.drew w'→Bl w w':=fun w' h=>hb.drew.trans (h.below.mono hb.size)
  refine G.pool_list (W:=W5) [] [.val (.agg #[.string cx,.string info,.func (.func F0) #[] #[],.func (.func F1) #[] #[],.func (.func F2) #[] #[],.func (.func F3) #[] #[],.func (.func F4) #[] #[],.func (.func F5) #[] #[],.func (.func F6) #[] #[]]),
      .val (.string input),
      .val (.agg #[int u64 (px p),int u64 (py p),.bool (pb p)]),
      .val (.pointer (some ⟨BP,2,none⟩)),
      .val (.pointer (some ⟨BP,4,none⟩)),
      .val (.func (.func F2) #[] #[]),
      .val (.agg #[int u64 s]),
      .val (.agg #[int u64 g]),
      .val (int u64 g),
      .val (.agg #[int u64 (px u),int u64 (py u),.bool (pb u)]),
      .val (.string R),
      .val (.string R),
      .val (.nilIface)] [[10],[2],[13],[10],[61],[62],[14],[63,64],[65],[60,66],[58,59,67],[68],[]] (fun f=> [(some 58,.agg #[.string cx,.string info,.func (.func F0) #[] #[],.func (.func F1) #[] #[],.func (.func F2) #[] #[],.func (.func F3) #[] #[],.func (.func F4) #[] #[],.func (.func F5) #[] #[],.func (.func F6) #[] #[]]),(some 59,.string input),(some 60,.agg #[int u64 (px p),int u64 (py p),.bool (pb p)]),(some 61,.pointer (some ⟨BP,2,none⟩)),(some 62,.pointer (some ⟨BP,4,none⟩)),(some 63,.func (.func F2) #[] #[]),(some 64,.agg #[int u64 s]),(some 65,.agg #[int u64 g]),(some 66,int u64 g),(some 67,.agg #[int u64 (px u),int u64 (py u),.bool (pb u)]),(some 68,.string R),(some 8,.string R),(some 9,.nilIface)]) (by kernel_rfl) (by kernel_rfl) (by kernel_rfl) (by kernel_rfl) (fun _=>by kernel_rfl) (G.last_of [] (fun F R hm=>by simp at hm) (fun ob ob' k hm=>by simp at hm) (fun b ob ob' hm=>by simp at hm)) (fun b ob ob' hm=>by simp at hm) ?_ ?_
  · intro ix hix
    match ix,hix with
    |0,_=>exact G.obv [(10,.pointer (some ⟨BP,0,none⟩))] rfl rfl (fun A w ⟨e0,_⟩ hB=>ld_pro e0 (hB.cell d0 (by simp)) (hB.cell d1 (by simp)) (hB.cell d2 (by simp)) (hB.cell d3 (by simp)) (hB.cell d4 (by simp)) (hB.cell d5 (by simp)) (hB.cell d6 (by simp)) (hB.cell d7 (by simp)) (hB.cell d8 (by simp)))
    |1,_=>exact G.obv [(2,.string input)] rfl rfl (fun A w ⟨e0,_⟩ hB=>doV_move e0)
    |2,_=>exact G.obv [(13,.pointer (some ⟨BG,0,none⟩))] rfl rfl (fun A w ⟨e0,_⟩ hB=>ld_cp e0 (hB.cell q0 (by simp)) (hB.cell q1 (by simp)) (hB.cell q2 (by simp)))
    |3,_=>exact G.obv [(10,.pointer (some ⟨BP,0,none⟩))] rfl rfl (fun A w ⟨e0,_⟩ hB=>fa_pro1 e0)
    |4,_=>exact G.obv [(61,.pointer (some ⟨BP,2,none⟩))] rfl rfl (fun A w ⟨e0,_⟩ hB=>fa_rul2 e0)
    |5,_=>exact G.obv [(62,.pointer (some ⟨BP,4,none⟩))] rfl rfl (fun A w ⟨e0,_⟩ hB=>ld_fn2 e0 (hB.cell d4 (by simp)))
    |6,_=>exact G.obv [(14,.pointer (some ⟨BS,0,none⟩))] rfl rfl (fun A w ⟨e0,_⟩ hB=>ld_nN e0 (hB.cell z0 (by simp)))
    |7,_=>exact G.obv [(63,.func (.func F2) #[] #[]),(64,.agg #[int u64 s])] rfl rfl (fun A w ⟨e0,e1,_⟩ hB=>cv1 E2 e0 e1 (FA w))
    |8,_=>exact G.obv [(65,.agg #[int u64 g])] rfl rfl (fun A w ⟨e0,_⟩ hB=>fl_nN1 e0)
    |9,_=>exact G.obv [(60,.agg #[int u64 (px p),int u64 (py p),.bool (pb p)]),(66,int u64 g)] rfl rfl (fun A w ⟨e0,e1,_⟩ hB=>cl2 cf_impl_curvePoint_times e0 e1 (TM w))
    |10,_=>exact G.obv [(58,.agg #[.string cx,.string info,.func (.func F0) #[] #[],.func (.func F1) #[] #[],.func (.func F2) #[] #[],.func (.func F3) #[] #[],.func (.func F4) #[] #[],.func (.func F5) #[] #[],.func (.func F6) #[] #[]]),(59,.string input),(67,.agg #[int u64 (px u),int u64 (py u),.bool (pb u)])] rfl rfl (fun A w ⟨e0,e1,e2,_⟩ hB=>cl3 cf_impl_protocol_output e0 e1 e2 (OU w (hbD w hB)))
    |11,_=>exact G.obv [(68,.string R)] rfl rfl (fun A w ⟨e0,_⟩ hB=>doV_assign e0)
    |12,_=>exact G.obv [] rfl rfl (fun A w _ hB=>doV_assign rfl)
    |ix+13,h=>exact absurd h (by simp)
  intro f W6 hS _ _ _ _;have hb6:=hbD W6 hS;clear hS d0 d1 d2 d3 d4 d5 d6 d7 d8 q0 q1 q2 z0 hbD;simp only [puts,List.foldl,Act.put,List.setIfInBounds_toArray,List.set_cons_zero,List.set_cons_succ];go_wp2;go_ret2;exact⟨rfl,hb6⟩
end
theorem dirS_any (mode:Int)(key:Nat)(input info:ByteArray)(w:World):
    Cr 10 #[.int .i64 mode,int u64 key,.string input,.string info] w (.tuple #[.string (dirO mode key input info),.int .i64 (dirC mode key input info)]):=by
  have T:=txtS_any mode input info;have K:=fun w=>keyS_any (key:Int) key rfl w
  by_cases hA:txtB mode input.size info.size=true
  · rw [hA] at T;by_cases hB:keyB key=true
    · rw [hB] at K;obtain⟨⟨m1,m2⟩,z1,z2,-⟩:=txtB_iff.1 hA;obtain⟨-,k2⟩:=keyB_iff.1 hB;have e0:dirC mode key input info=if hsh mode input=none then 2 else facC mode key info:=if_pos ⟨hA,hB⟩
      have H:=fun w=>hshS_any mode input w m1 m2 z1
      by_cases hh:hsh mode input=none
      · rw [if_pos hh] at e0;unfold dirO;rw [e0,if_neg (by decide)];have hp:=(pb_none _).2 hh;rw [hp] at H;generalize px (hsh mode input)=x at*;generalize py (hsh mode input)=y at*;clear hA hB e0 hh hp k2 m1 m2 z1 z2;go_enter func10,ntmps10;go_wp2_with fail;refine(T _).mono ?_;rintro e w1 ⟨rfl,rfl⟩;go_wp2_with fail;refine(K _).mono ?_;rintro e w1 ⟨rfl,rfl⟩;go_wp2_with fail;refine(H _).mono ?_;rintro e w1 ⟨rfl,b1⟩;clear T K H;go_wp2;go_ret2;exact⟨rfl,b1.alloc b1.size _⟩
      · rw [if_neg hh] at e0
        have hp:pb (hsh mode input)=false:=by
          cases hq:pb (hsh mode input) with
          |false=>rfl
          |true=>exact absurd ((pb_none _).1 hq) hh
        have F:=fun w=>facS_any mode key info w k2 z2
        by_cases hc:facC mode key info=0
        · have hx:dirO mode key input info=outB mode input info (nt (facB mode key info) (hsh mode input)):=by unfold dirO;rw [e0,if_pos hc]
          rw [hx,e0,hc];simp only [hc,if_true] at F;have M:=fun w=>tiS_pt (hsh_on mode input) (facB mode key info) (Nat.lt_trans (facB_lt mode key info k2) (by decide)) w
          have O:=fun w=>outS_any mode input info (nt (facB mode key info) (hsh mode input)) (nt_on (hsh_on mode input) _) w z1 z2
          generalize outB mode input info (nt (facB mode key info) (hsh mode input))=R at*;generalize nt (facB mode key info) (hsh mode input)=u at*;rw [hp] at H M;generalize px (hsh mode input)=x at*;generalize py (hsh mode input)=y at*;generalize px u=ux at*;generalize py u=uy at*;generalize pb u=uc at*;generalize ((facB mode key info:Nat):Int)=f at*;generalize ((facT mode key info:Nat):Int)=t at*;clear hA hB e0 hh hp k2 m1 m2 z1 z2 hc hx u;go_enter func10,ntmps10;go_wp2_with fail;refine(T _).mono ?_;rintro e w1 ⟨rfl,rfl⟩;go_wp2_with fail;refine(K _).mono ?_;rintro e w1 ⟨rfl,rfl⟩;go_wp2_with fail;refine(H _).mono ?_;rintro e w1 ⟨rfl,b1⟩;have hr:=K3.new w1 25 x y false;have hal:=balc w1 (Obj.cells #[int u64 x,int u64 y,.bool false] 25);have hb:=b1.tr hal;clear T K H b1 hal;have c2:=hr.c2;go_wp2_with fail;refine(F _).mono ?_;rintro e w2 ⟨rfl,b1⟩;replace hr:=hr.keep b1;replace hb:=hb.tr b1;clear F b1 c2;have c0:=hr.c0;have c1:=hr.c1;have c2:=hr.c2;go_wp2_with fail;refine(M _).mono ?_;rintro e w3 ⟨rfl,b1⟩;replace hb:=hb.tr b1;clear M b1 c0 c1 c2 hr;go_wp2_with fail;refine(O _).mono ?_;rintro e w4 ⟨rfl,b1⟩;replace hb:=hb.tr b1;clear O b1;go_wp2;go_ret2;exact⟨rfl,hb⟩
        · have hc3:facC mode key info=3:=by unfold facC at*;split<;>simp_all
          have hx:dirO mode key input info=⟨#[]⟩:=by unfold dirO;rw [e0,if_neg hc]
          rw [hx,e0,hc3];simp only [hc3,show ¬ (3:Int)=0 by decide,if_false] at F;rw [hp] at H;generalize px (hsh mode input)=x at*;generalize py (hsh mode input)=y at*;clear hA hB e0 hh hp k2 m1 m2 z1 z2 hc hx hc3;go_enter func10,ntmps10;go_wp2_with fail;refine(T _).mono ?_;rintro e w1 ⟨rfl,rfl⟩;go_wp2_with fail;refine(K _).mono ?_;rintro e w1 ⟨rfl,rfl⟩;go_wp2_with fail;refine(H _).mono ?_;rintro e w1 ⟨rfl,b1⟩;have hr:=K3.new w1 25 x y false;have hal:=balc w1 (Obj.cells #[int u64 x,int u64 y,.bool false] 25);have hb:=b1.tr hal;clear T K H b1 hal;have c2:=hr.c2;go_wp2_with fail;refine(F _).mono ?_;rintro e w2 ⟨rfl,b1⟩;replace hb:=hb.tr b1;clear F b1 c2 hr;go_wp2;go_ret2;exact⟨rfl,hb⟩
    · rw [Bool.not_eq_true] at hB;rw [hB] at K;have e0:dirC mode key input info=1:=if_neg (by simp [hB]);unfold dirO;rw [e0,if_neg (by decide)];clear hA hB e0;go_enter func10,ntmps10;go_wp2_with fail;refine(T _).mono ?_;rintro e w1 ⟨rfl,rfl⟩;go_wp2_with fail;refine(K _).mono ?_;rintro e w1 ⟨rfl,rfl⟩;clear T K;go_wp2;go_ret2;exact⟨rfl,Below.refl _ _⟩
  · rw [Bool.not_eq_true] at hA;rw [hA] at T;have e0:dirC mode key input info=1:=if_neg (by simp [hA]);unfold dirO;rw [e0,if_neg (by decide)];clear hA e0 K;go_enter func10,ntmps10;go_wp2_with fail;refine(T _).mono ?_;rintro e w1 ⟨rfl,rfl⟩;clear T;go_wp2;go_ret2;exact⟨rfl,Below.refl _ _⟩
end
end Go.Proofs.YtjmhmajfkdglnabGreatDoor
