import Derived.Test.YtmjniccfjffclaaGreatDoorMrg32
set_option linter.unusedVariables false
set_option maxRecDepth 100000
set_option maxHeartbeats 16000000
namespace Go.Proofs.YtmjniccfjffclaaGreatDoor
open Go.Proofs.Tryz Go.RowKit
open Go.Value (int)
open Go.IntKind (u64)
section
open M
def rul0:List Value:= [.func (.func 134) #[] #[],.func (.func 135) #[] #[],.func (.func 136) #[] #[],.func (.func 137) #[] #[],.func (.func 138) #[] #[],.func (.func 139) #[] #[],.func (.func 140) #[] #[]]
def rul1:List Value:= [.func (.func 134) #[] #[],.func (.func 135) #[] #[],.func (.func 136) #[] #[],.func (.func 137) #[] #[],.func (.func 138) #[] #[],.func (.func 141) #[] #[],.func (.func 140) #[] #[]]
def rul2:List Value:= [.func (.func 142) #[] #[],.func (.func 143) #[] #[],.func (.func 144) #[] #[],.func (.func 145) #[] #[],.func (.func 146) #[] #[],.func (.func 147) #[] #[],.func (.func 148) #[] #[]]
def rulL:List Value:=rul0++rul1++rul2
theorem rulL_len:rulL.length=21:=by decide
theorem rulL_one:∀v∈rulL,v.oneCell'=true:=by
  intro v hv;simp only [rulL,rul0,rul1,rul2,List.mem_append,List.mem_cons,List.not_mem_nil,or_false] at hv;rcases hv with (h|h)|h<;>rcases h with rfl|rfl|rfl|rfl|rfl|rfl|rfl<;>rfl
theorem sizeRul:(prog.info? 181).map (·.size)=some 21:=by kernel_rfl
theorem zeroRul (w:World):(zeroValue 181).run prog w= .ok (.agg (List.replicate 21 Value.nilFunc).toArray) w:=by kernel_rfl
theorem bldRul0 (w:World):(Instr.build 128 #[(0,.func (.func 134) #[] #[]),(1,.func (.func 135) #[] #[]),(2,.func (.func 136) #[] #[]),(3,.func (.func 137) #[] #[]),(4,.func (.func 138) #[] #[]),(5,.func (.func 139) #[] #[]),(6,.func (.func 140) #[] #[])]).run prog w= .ok (.agg rul0.toArray) w:=run_build w _ _ _ (by kernel_rfl)
theorem bldRul1 (w:World):(Instr.build 128 #[(0,.func (.func 134) #[] #[]),(1,.func (.func 135) #[] #[]),(2,.func (.func 136) #[] #[]),(3,.func (.func 137) #[] #[]),(4,.func (.func 138) #[] #[]),(5,.func (.func 141) #[] #[]),(6,.func (.func 140) #[] #[])]).run prog w= .ok (.agg rul1.toArray) w:=run_build w _ _ _ (by kernel_rfl)
theorem bldRul2 (w:World):(Instr.build 128 #[(0,.func (.func 142) #[] #[]),(1,.func (.func 143) #[] #[]),(2,.func (.func 144) #[] #[]),(3,.func (.func 145) #[] #[]),(4,.func (.func 146) #[] #[]),(5,.func (.func 147) #[] #[]),(6,.func (.func 148) #[] #[])]).run prog w= .ok (.agg rul2.toArray) w:=run_build w _ _ _ (by kernel_rfl)
theorem bldRul (w:World):(Instr.build 181 #[(0,.agg rul0.toArray),(1,.agg rul1.toArray),(2,.agg rul2.toArray)]).run prog w= .ok (.agg rulL.toArray) w:=run_build w _ _ _ (by kernel_rfl)
section
attribute [local go_sem ↓] Go.wp_at_zero Go.wp_at_succ
theorem rulI (w:World):
    Cr 107 #[] w (.agg rulL.toArray):=by
  have hz:=zeroRul;have h0:=bldRul0;have h1:=bldRul1;have h2:=bldRul2;have h3:=bldRul;have hr:=results_mid (P:=prog) (fn:=Tryz.f107) (p:=0) (ty:=181) results107;have hth:(w.alloc (.cells (List.replicate 21 Value.nilFunc).toArray 181)).there w.heap.size 0 21:=there_new w _ _ 21 (by simp);go_enter func107,ntmps107;go_wp2_with (refine wpList_store_mid rfl 181 _ _ rfl w.heap.size 0 rulL.toArray rfl rfl (by simpa [rulL_len] using hth) (by rw [sizeRul];simp [rulL_len]) (all_oneCell_toArray rulL_one) ?_);refine bodyPost_ret (v:= .agg rulL.toArray) (hr _ _ w.heap.size 0 rulL _ rfl (World.rangeAt_setCells_same _ _ _ _ (by rw [rulL_len];exact hth)) underlying181 rfl (by rw [sizeRul,rulL_len])) rfl ⟨rfl,?_⟩;exact below_setCells ((Below.refl _ _).alloc (Nat.le_refl _) _) (Nat.le_refl _) _ _
end
theorem noInf (s:ByteArray)(w:World):
    Calls prog 134 #[.string s] w fun e w'=>e= .returned (.bool (decide (s.size=0)))∧w=w':=by
  by_cases h:s.size=0
  · obtain rfl:s=⟨#[]⟩:=by
      obtain⟨a⟩:=s;have:a=#[]:=Array.eq_empty_of_size_eq_zero h;rw [this]
    go_enter func134,ntmps134;go_wp2;go_ret;exact⟨rfl,rfl⟩
  · have h':s.toList.isEmpty=false:=by
      obtain⟨a⟩:=s;rw [ByteArray.toList_eq]
      cases ha:a.toList with
      |nil=>exact absurd (by have:=congrArg List.length ha;simpa [ByteArray.size] using this) h
      |cons x l=>rfl
    rw [decide_eq_false h];clear h;go_enter func134,ntmps134;go_wp2;go_ret;exact⟨rfl,rfl⟩
theorem shoInf (s:ByteArray)(w:World):
    Calls prog 142 #[.string s] w fun e w'=>e= .returned (.bool (decide (s.size≤60000)))∧w=w':=by
  by_cases h:(s.size:Int)≤60000
  · rw [decide_eq_true (by omega)];go_enter func142,ntmps142;go_wp2;go_ret;exact⟨rfl,rfl⟩
  · rw [decide_eq_false (by omega)];go_enter func142,ntmps142;go_wp2;go_ret;exact⟨rfl,rfl⟩
theorem sizePro:(prog.info? 130).map (·.size)=some 9:=by kernel_rfl
theorem bldPro (c s:ByteArray)(f0 f1 f2 f3 f4 f5 f6:FuncId)(w:World):(Instr.build 130 #[(0,.agg #[.string c,.string s]),(1,.agg #[.func (.func f0) #[] #[],.func (.func f1) #[] #[],.func (.func f2) #[] #[],.func (.func f3) #[] #[],.func (.func f4) #[] #[],.func (.func f5) #[] #[],.func (.func f6) #[] #[]])]).run prog w= .ok (.agg #[.string c,.string s,.func (.func f0) #[] #[],.func (.func f1) #[] #[],.func (.func f2) #[] #[],.func (.func f3) #[] #[],.func (.func f4) #[] #[],.func (.func f5) #[] #[],.func (.func f6) #[] #[]]) w:=run_build w _ _ _ (by kernel_rfl)
theorem pro_res {W:World}{b:Nat}{cs:Array Value}{fn:Func}{p u:Tmp}(h:fn.results=#[.cell p 130,.tmp u])(tmps:Array Value)(hp:tmps.getD p undef= .pointer (some ⟨b,0,none⟩))(hc:W.rangeAt b 0 cs.toList)(hz:cs.size=9:=by rfl):
    (results fn tmps).run prog W= .ok (.tuple #[.agg cs,tmps.getD u undef]) W:=by
  have hp':tmps[p]?.getD undef= .pointer (some ⟨b,0,none⟩):=by simpa using hp
  have hl:=run_loadVar_mid (P:=prog) W b 0 130 cs.toList _ hc underlying130 rfl (by rw [sizePro,Array.length_toList,hz]);simp [results,h,hp',asAddr,hl]
def zPro:Array Value:=#[.string ⟨#[]⟩,.string ⟨#[]⟩,.nilFunc,.nilFunc,.nilFunc,.nilFunc,.nilFunc,.nilFunc,.nilFunc]
theorem proI_no (k:Int)(c info:ByteArray)(a0 a1 a2 a3:Addr)(w:World)(hs:Sn w a0 a1 a2 a3)
    (C:∀w,Calls prog 75 #[.int .i64 k] w fun e w'=>e= .returned (.tuple #[.string c,.bool false])∧w=w'):
    Cr 71 #[.int .i64 k,.string info] w (.tuple #[.agg zPro,flt ⟨#[109,111,100,101]⟩ (sen a0)]):=by
  have hg0:0<w.heap.size:=World.block_lt_of_cell? w _ hs.c0;obtain⟨W2,hW2⟩:∃W2,W2=w.alloc (Obj.cells #[.string ⟨#[]⟩,.string ⟨#[]⟩,.nilFunc,.nilFunc,.nilFunc,.nilFunc,.nilFunc,.nilFunc,.nilFunc] 130):=⟨_,rfl⟩;have hr:Bk W2 130 w.heap.size #[.string ⟨#[]⟩,.string ⟨#[]⟩,.nilFunc,.nilFunc,.nilFunc,.nilFunc,.nilFunc,.nilFunc,.nilFunc]:=by rw [hW2];exact Bk.new _ _ _
  have hb:Bl w W2:=by rw [hW2];exact(Below.refl _ w).alloc (Nat.le_refl _) _
  go_enter func71,ntmps71;go_wp2_with fail;refine(C _).mono ?_;rintro e w1 ⟨rfl,rfl⟩;go_wp2;rw [←hW2];clear hW2 C;replace hs:=hs.keep hb;have g0:W2.drew.cell? ⟨0,0,none⟩=_:=hs.c0;have n0:0∉ [w.heap.size]:=fun h=>absurd (List.mem_singleton.1 h) (by omega)
  have l1:w.heap.size<W2.drew.heap.size:=hr.lt
  refine G.pool_list (W:=W2) [w.heap.size] [.val (.agg #[.string ⟨#[]⟩,.string ⟨#[]⟩,.nilFunc,.nilFunc,.nilFunc,.nilFunc,.nilFunc,.nilFunc,.nilFunc]),
      .val (sen a0),
      .val (.agg #[.string ⟨#[109,111,100,101]⟩,sen a0]),
      .val (.iface 136 (.agg #[.string ⟨#[109,111,100,101]⟩,sen a0])),
      .set (w.heap.size) (.cells #[.string ⟨#[]⟩,.string ⟨#[]⟩,.nilFunc,.nilFunc,.nilFunc,.nilFunc,.nilFunc,.nilFunc,.nilFunc] 130) (.cells #[.string ⟨#[]⟩,.string ⟨#[]⟩,.nilFunc,.nilFunc,.nilFunc,.nilFunc,.nilFunc,.nilFunc,.nilFunc] 130),
      .val (.iface 136 (.agg #[.string ⟨#[109,111,100,101]⟩,sen a0]))] [[],[],[17],[18],[4,16],[19]] (fun f=> [(some 16,.agg #[.string ⟨#[]⟩,.string ⟨#[]⟩,.nilFunc,.nilFunc,.nilFunc,.nilFunc,.nilFunc,.nilFunc,.nilFunc]),(some 17,sen a0),(some 18,.agg #[.string ⟨#[109,111,100,101]⟩,sen a0]),(some 19,.iface 136 (.agg #[.string ⟨#[109,111,100,101]⟩,sen a0])),(none,undef),(some 5,.iface 136 (.agg #[.string ⟨#[109,111,100,101]⟩,sen a0]))]) (by kernel_rfl) (by kernel_rfl) (by kernel_rfl) (by kernel_rfl) (fun _=>by kernel_rfl) (G.last_of [.cells #[.string ⟨#[]⟩,.string ⟨#[]⟩,.nilFunc,.nilFunc,.nilFunc,.nilFunc,.nilFunc,.nilFunc,.nilFunc] 130] (fun F R hm=>by simp at hm) (fun ob ob' k hm=>by simp at hm) (fun b ob ob' hm=>by simp at hm;simp [hm])) (fun b ob ob' hm=>by simp at hm;obtain⟨rfl,rfl,-⟩:=hm;exact hr) ?_ ?_
  · intro ix hix
    match ix,hix with
    |0,_=>exact G.obv [] rfl rfl (fun A w _ hB=>bu0_pro)
    |1,_=>exact G.obv [] rfl rfl (fun A w _ hB=>ld_err rfl (hB.cell g0 n0))
    |2,_=>exact G.obv [(17,sen a0)] rfl rfl (fun A w ⟨e0,_⟩ hB=>bu_flt rfl e0)
    |3,_=>exact G.obv [(18,.agg #[.string ⟨#[109,111,100,101]⟩,sen a0])] rfl rfl (fun A w ⟨e0,_⟩ hB=>mi_flt e0)
    |4,_=>exact G.ob_set (fun f=> [(4,.pointer (some ⟨w.heap.size,0,none⟩)),(16,.agg #[.string ⟨#[]⟩,.string ⟨#[]⟩,.nilFunc,.nilFunc,.nilFunc,.nilFunc,.nilFunc,.nilFunc,.nilFunc])]) rfl rfl rfl (by simp) l1 (fun j ob1 ob2 h=>by (rcases j with _|_|_|_|_|_|j)<;>simp [G.kindOf] at h⊢ <;>omega) (fun _=>by kernel_rfl) (fun f A w ⟨e0,e1,_⟩ hh hr=>pu_any e0 e1 hr rfl size_pro (by kernel_rfl))
    |5,_=>exact G.obv [(19,.iface 136 (.agg #[.string ⟨#[109,111,100,101]⟩,sen a0]))] rfl rfl (fun A w ⟨e0,_⟩ hB=>doV_assign e0)
    |ix+6,h=>exact absurd h (by simp)
  intro f W3 hS _ _ _ hset;have q1:Bk W3 130 w.heap.size zPro:=hset 4 _ _ _ rfl (by decide);have hb3:Bl w W3:=hS.under hb.drew (by simp<;>omega) hb.size;clear hset hS g0;simp only [puts,List.foldl,Act.put,List.setIfInBounds_toArray,List.set_cons_zero,List.set_cons_succ];go_wp2;exact bodyPost_ret (v:= .tuple #[.agg zPro,flt ⟨#[109,111,100,101]⟩ (sen a0)]) (bk_res2 (fn:=Tryz.f71) (p:=4) (u:=5) results71 _ rfl q1 underlying130 rfl sizePro) rfl ⟨rfl,hb3⟩
section
variable (k:Int)(c info:ByteArray)(RL:Array Value)(F0 F1 F2 F3 F4 F5 F6:FuncId)(a0 a1 a2 a3:Addr)(w:World)(hs:Sn w a0 a1 a2 a3)
    (C:∀w,Calls prog 75 #[.int .i64 k] w fun e w'=>e= .returned (.tuple #[.string c,.bool true])∧w=w')
    (R:Cc 107 #[] (.agg RL))
    (IX:∀w,(Instr.index 181 (.agg RL) (.int .i64 k)).run prog w= .ok (.agg #[.func (.func F0) #[] #[],.func (.func F1) #[] #[],.func (.func F2) #[] #[],.func (.func F3) #[] #[],.func (.func F4) #[] #[],.func (.func F5) #[] #[],.func (.func F6) #[] #[]]) w)
    (E0:∀(args:Array Value) (w:World),(callFunc F0 args).run prog w= .ok (.enter F0 args) w)
include hs C R IX E0
theorem proI_ok (AL:∀w,Calls prog F0 #[.string info] w fun e w'=>e= .returned (.bool true)∧w=w'):
    Cr 71 #[.int .i64 k,.string info] w (.tuple #[.agg #[.string c,.string info,.func (.func F0) #[] #[],.func (.func F1) #[] #[],.func (.func F2) #[] #[],.func (.func F3) #[] #[],.func (.func F4) #[] #[],.func (.func F5) #[] #[],.func (.func F6) #[] #[]],.nilIface]):=by
  have hg0:0<w.heap.size:=World.block_lt_of_cell? w _ hs.c0;clear hs hg0;have hB:=bldPro c info F0 F1 F2 F3 F4 F5 F6;have hr:=Bk.new w 130 #[.string ⟨#[]⟩,.string ⟨#[]⟩,.nilFunc,.nilFunc,.nilFunc,.nilFunc,.nilFunc,.nilFunc,.nilFunc];have hb:=balc w (Obj.cells #[.string ⟨#[]⟩,.string ⟨#[]⟩,.nilFunc,.nilFunc,.nilFunc,.nilFunc,.nilFunc,.nilFunc,.nilFunc] 130);go_enter func71,ntmps71;go_wp2_with fail;refine(C _).mono ?_;rintro e w1 ⟨rfl,rfl⟩;go_wp2_with fail;refine(R _).mono ?_;rintro e w1 ⟨rfl,b1⟩;have hal:=balc w1 (Obj.cells #[.string c,.string info,.func (.func F0) #[] #[],.func (.func F1) #[] #[],.func (.func F2) #[] #[],.func (.func F3) #[] #[],.func (.func F4) #[] #[],.func (.func F5) #[] #[],.func (.func F6) #[] #[]] 130);have hr2:=Bk.new w1 130 #[.string c,.string info,.func (.func F0) #[] #[],.func (.func F1) #[] #[],.func (.func F2) #[] #[],.func (.func F3) #[] #[],.func (.func F4) #[] #[],.func (.func F5) #[] #[],.func (.func F6) #[] #[]];replace hr:=(hr.keep b1).keep hal;replace hb:=hb.tr b1;replace hb:=hb.tr hal;clear C R b1 hal;have d2:=hr2.cell (k:=2) rfl;go_wp2_with fail;refine(AL _).mono ?_;rintro e w2 ⟨rfl,rfl⟩;clear AL d2;have d0:=hr2.cell (k:=0) rfl;have d1:=hr2.cell (k:=1) rfl;have d2:=hr2.cell (k:=2) rfl;have d3:=hr2.cell (k:=3) rfl;have d4:=hr2.cell (k:=4) rfl;have d5:=hr2.cell (k:=5) rfl;have d6:=hr2.cell (k:=6) rfl;have d7:=hr2.cell (k:=7) rfl;have d8:=hr2.cell (k:=8) rfl;have hth:=hr.there 9 (by decide);go_wp2_with (refine wpList_store_mid rfl 130 _ _ rfl w.heap.size 0 #[.string c,.string info,.func (.func F0) #[] #[],.func (.func F1) #[] #[],.func (.func F2) #[] #[],.func (.func F3) #[] #[],.func (.func F4) #[] #[],.func (.func F5) #[] #[],.func (.func F6) #[] #[]] rfl rfl hth sizePro (by kernel_rfl) ?_);refine bodyPost_ret (v:= .tuple #[.agg #[.string c,.string info,.func (.func F0) #[] #[],.func (.func F1) #[] #[],.func (.func F2) #[] #[],.func (.func F3) #[] #[],.func (.func F4) #[] #[],.func (.func F5) #[] #[],.func (.func F6) #[] #[]],.nilIface]) ?_ rfl ⟨rfl,below_setCells hb (Nat.le_refl _) _ _⟩;exact pro_res (fn:=Tryz.f71) (p:=4) (u:=5) results71 _ rfl (World.rangeAt_setCells_same _ _ _ _ hth)
theorem proI_bad (AL:∀w,Calls prog F0 #[.string info] w fun e w'=>e= .returned (.bool false)∧w=w'):
    Cr 71 #[.int .i64 k,.string info] w (.tuple #[.agg zPro,flt ⟨#[105,110,102,111]⟩ (sen a0)]):=by
  have hg0:0<w.heap.size:=World.block_lt_of_cell? w _ hs.c0;have hB:=bldPro c info F0 F1 F2 F3 F4 F5 F6;have hr:=Bk.new w 130 #[.string ⟨#[]⟩,.string ⟨#[]⟩,.nilFunc,.nilFunc,.nilFunc,.nilFunc,.nilFunc,.nilFunc,.nilFunc];have hb:=balc w (Obj.cells #[.string ⟨#[]⟩,.string ⟨#[]⟩,.nilFunc,.nilFunc,.nilFunc,.nilFunc,.nilFunc,.nilFunc,.nilFunc] 130);go_enter func71,ntmps71;go_wp2_with fail;refine(C _).mono ?_;rintro e w1 ⟨rfl,rfl⟩;go_wp2_with fail;refine(R _).mono ?_;rintro e w1 ⟨rfl,b1⟩;have hal:=balc w1 (Obj.cells #[.string c,.string info,.func (.func F0) #[] #[],.func (.func F1) #[] #[],.func (.func F2) #[] #[],.func (.func F3) #[] #[],.func (.func F4) #[] #[],.func (.func F5) #[] #[],.func (.func F6) #[] #[]] 130);have hr2:=Bk.new w1 130 #[.string c,.string info,.func (.func F0) #[] #[],.func (.func F1) #[] #[],.func (.func F2) #[] #[],.func (.func F3) #[] #[],.func (.func F4) #[] #[],.func (.func F5) #[] #[],.func (.func F6) #[] #[]];replace hr:=(hr.keep b1).keep hal;replace hb:=hb.tr b1;replace hb:=hb.tr hal;clear C R b1 hal;have d2:=hr2.cell (k:=2) rfl;go_wp2_with fail;refine(AL _).mono ?_;rintro e w2 ⟨rfl,rfl⟩;clear AL d2 hr2;go_wp2;generalize w1.alloc _=W2 at*;replace hs:=hs.keep hb;have g0:W2.drew.cell? ⟨0,0,none⟩=_:=hs.c0;have n0:0∉ [w.heap.size]:=fun h=>absurd (List.mem_singleton.1 h) (by omega)
  have l1:w.heap.size<W2.drew.heap.size:=hr.lt
  refine G.pool_list (W:=W2) [w.heap.size] [.val (.agg #[.string ⟨#[]⟩,.string ⟨#[]⟩,.nilFunc,.nilFunc,.nilFunc,.nilFunc,.nilFunc,.nilFunc,.nilFunc]),
      .val (sen a0),
      .val (.agg #[.string ⟨#[105,110,102,111]⟩,sen a0]),
      .val (.iface 136 (.agg #[.string ⟨#[105,110,102,111]⟩,sen a0])),
      .set (w.heap.size) (.cells #[.string ⟨#[]⟩,.string ⟨#[]⟩,.nilFunc,.nilFunc,.nilFunc,.nilFunc,.nilFunc,.nilFunc,.nilFunc] 130) (.cells #[.string ⟨#[]⟩,.string ⟨#[]⟩,.nilFunc,.nilFunc,.nilFunc,.nilFunc,.nilFunc,.nilFunc,.nilFunc] 130),
      .val (.iface 136 (.agg #[.string ⟨#[105,110,102,111]⟩,sen a0]))] [[],[],[34],[35],[4,33],[36]] (fun f=> [(some 33,.agg #[.string ⟨#[]⟩,.string ⟨#[]⟩,.nilFunc,.nilFunc,.nilFunc,.nilFunc,.nilFunc,.nilFunc,.nilFunc]),(some 34,sen a0),(some 35,.agg #[.string ⟨#[105,110,102,111]⟩,sen a0]),(some 36,.iface 136 (.agg #[.string ⟨#[105,110,102,111]⟩,sen a0])),(none,undef),(some 5,.iface 136 (.agg #[.string ⟨#[105,110,102,111]⟩,sen a0]))]) (by kernel_rfl) (by kernel_rfl) (by kernel_rfl) (by kernel_rfl) (fun _=>by kernel_rfl) (G.last_of [.cells #[.string ⟨#[]⟩,.string ⟨#[]⟩,.nilFunc,.nilFunc,.nilFunc,.nilFunc,.nilFunc,.nilFunc,.nilFunc] 130] (fun F R hm=>by simp at hm) (fun ob ob' k hm=>by simp at hm) (fun b ob ob' hm=>by simp at hm;simp [hm])) (fun b ob ob' hm=>by simp at hm;obtain⟨rfl,rfl,-⟩:=hm;exact hr) ?_ ?_
  · intro ix hix
    match ix,hix with
    |0,_=>exact G.obv [] rfl rfl (fun A w _ hB=>bu0_pro)
    |1,_=>exact G.obv [] rfl rfl (fun A w _ hB=>ld_err rfl (hB.cell g0 n0))
    |2,_=>exact G.obv [(34,sen a0)] rfl rfl (fun A w ⟨e0,_⟩ hB=>bu_flt rfl e0)
    |3,_=>exact G.obv [(35,.agg #[.string ⟨#[105,110,102,111]⟩,sen a0])] rfl rfl (fun A w ⟨e0,_⟩ hB=>mi_flt e0)
    |4,_=>exact G.ob_set (fun f=> [(4,.pointer (some ⟨w.heap.size,0,none⟩)),(33,.agg #[.string ⟨#[]⟩,.string ⟨#[]⟩,.nilFunc,.nilFunc,.nilFunc,.nilFunc,.nilFunc,.nilFunc,.nilFunc])]) rfl rfl rfl (by simp) l1 (fun j ob1 ob2 h=>by (rcases j with _|_|_|_|_|_|j)<;>simp [G.kindOf] at h⊢ <;>omega) (fun _=>by kernel_rfl) (fun f A w ⟨e0,e1,_⟩ hh hr=>pu_any e0 e1 hr rfl size_pro (by kernel_rfl))
    |5,_=>exact G.obv [(36,.iface 136 (.agg #[.string ⟨#[105,110,102,111]⟩,sen a0]))] rfl rfl (fun A w ⟨e0,_⟩ hB=>doV_assign e0)
    |ix+6,h=>exact absurd h (by simp)
  intro f W3 hS _ _ _ hset;have q1:Bk W3 130 w.heap.size zPro:=hset 4 _ _ _ rfl (by decide);have hb3:Bl w W3:=hS.under hb.drew (by simp<;>omega) hb.size;clear hset hS g0;simp only [puts,List.foldl,Act.put,List.setIfInBounds_toArray,List.set_cons_zero,List.set_cons_succ];go_wp2;exact bodyPost_ret (v:= .tuple #[.agg zPro,flt ⟨#[105,110,102,111]⟩ (sen a0)]) (bk_res2 (fn:=Tryz.f71) (p:=4) (u:=5) results71 _ rfl q1 underlying130 rfl sizePro) rfl ⟨rfl,hb3⟩
end
end
theorem step_append_ownP {P:Program}{w:World}{ops:Array Oper}{o:Oper}{a:Act}{K:Act→World→Prop}{Q:Exit→Act→World→Prop}{E:Prop}(hgd:o.guard=none)(s x:Operand)(t:TypeId)
    (ho:o.op= .call {callee:= .builtin .append,args:=#[s,x],argTypes:=#[t,t]})
    (base:Nat)(e:TypeId)(i:TypeInfo)(z:Value)(size bytes:Nat)(ht:P.underlying t=some (.slice e))(hi:P.info? e=some i)(hz:i.zero=some z)
    (hsize:i.size=size)(hby:i.bytes=bytes)(hzs:z.cells.size=size)(hsz:0<size)
    (v:Value)(n:Nat)(xs:List Value)(hs:a.eval s=v)(hown:w.ownsRow base e size v n xs)
    (ad:Addr)(m c:Nat)(news:List Value)(hx:a.eval x= .slice (some ad) m c)(hl:news.length=m*size)(hnews:∀j u,news[j]? =some u→w.cell? (ad.add j)=some u)(h1:∀u∈news,u.oneCell'=true)
    (h63:n+m≤maxLen)(hbytes:(n+m)*bytes≤140737488355328)(hbase:base≤w.heap.size)
    (h:∀v' w',w'.ownsRow base e size v' (n+m) (xs++news)→w.grownBy w' v.ownBlock→(v'= .slice none 0 0↔v= .slice none 0 0∧m=0)→K (a.put o.dst v') w'):
    if Region.wanted o (yielded ops a.tmps)=true then Oper.wp P o a w K Q else E:=by
  have hw:Region.wanted o (yielded ops a.tmps)=true:=by simp [Region.wanted,hgd]
  rw [if_pos hw];exact wp_append_own w s x t ho base e i z size bytes ht hi hz hsize hby hzs hsz v n xs hs hown ad m c news hx hl hnews h1 h63 hbytes hbase h
theorem infoPr:(prog.info? 146).map (fun i=>(i.zero,i.size,i.bytes))=some (some (.agg #[int u64 0]),1,8):=by kernel_rfl
def cellsPr (H:List Int):List Value:=H.map fun x=>int u64 x
theorem cellsPr_app (l r:List Int):cellsPr (l++r)=cellsPr l++cellsPr r:=by simp [cellsPr]
theorem h2nP_yes (msg tag:ByteArray)(c:Nat)(w:World)(hT:TabK w)(h:okH msg tag 2305843009213693951 c):
    Calls prog 160 #[.string msg,.string tag,.agg #[],.int .i64 c] w fun e w'=>∃v,e= .returned (.tuple #[v,.bool true])∧w'.ownsRow w.heap.size 146 1 v c (cellsPr (h2f (byt msg) (byt tag) 2305843009213693951 c))∧Bl w w':=by
  obtain⟨i0,hi,hz0,hz1,hz2⟩:=info_parts infoPr;obtain⟨h1,h2,h3,h4⟩:=h;obtain⟨N,hN⟩:∃N:Nat,N=24*c:=⟨_,rfl⟩;have hNi:(N:Int)=24*(c:Int):=by omega
  have X:=fun w hT=>exmI_yes msg tag N w hT (by rw [hNi];exact h4)
  rw [hNi] at X;have hlen:=expM_length (byt msg) (byt tag) N;have hby:=expM_lt (byt msg) (byt tag) N;have hll:=h2f_length (byt msg) (byt tag) 2305843009213693951 c;have htk:=h2f_take (byt msg) (byt tag) 2305843009213693951 c;rw [←hN] at htk;generalize expM (byt msg) (byt tag) N=L at*;generalize h2f (byt msg) (byt tag) 2305843009213693951 c=H at*;have hzS:(strOfNums L).size=24*c:=by rw [strOfNums_size];omega
  have g1: ¬ (c:Int)<1:=by omega
  have g2: ¬ (340:Int)<(c:Int):=by omega
  have hme:=methP;have hgw:7<w.heap.size:=World.block_lt_of_cell? w _ (hT 0 (by omega));have hbB:Bl w (w.alloc (.cells #[] 144)):=(Below.refl _ _).alloc (Nat.le_refl _) _;have hTB:TabK (w.alloc (.cells #[] 144)):=fun i hi=>(hbB.cell (p:=⟨7,i,none⟩) hgw).trans (hT i hi)
  have V:∀w:World,Cr 233 #[.agg #[]] w (int u64 2305843009213693951):=fun w=>(valP w).mono fun e w' ⟨h,h'⟩=>⟨h,h'▸(Below.refl _ _).alloc (Nat.le_refl _) _⟩
  go_enter func160,ntmps160;go_wp2_with fail;refine(X _ hTB).mono ?_;rintro e W1 ⟨rfl,hb0⟩;replace hb0:=hbB.tr hb0;clear X hbB hTB;go_wp2
  go_loopw [12,13,14,32] (fun ov _ _ iv wr=>∃k:Nat,k≤c∧iv= .int .i64 (k:Int)∧wr.ownsRow w.heap.size 146 1 ov k (cellsPr (H.take k))∧Bl w wr) (fun _ _ _ i _=>c-(intOf i).toNat)
  case atStart=>exact ⟨0,by omega,rfl,World.ownsRow_nil _ _ _ _,hb0⟩
  case round=>
    clear hb0;obtain⟨k,hk,rfl,hown,hbl⟩:=hrel;have hsz:=hbl.size;by_cases hlt:k<c
    · have hli:(k:Int)<(c:Int):=by omega
      have q1:IntKind.i64.wrap (24*(k:Int))=24*(k:Int):=i64_in _ (by omega) (by omega);have q2:IntKind.i64.wrap ((k:Int)+1)=(k:Int)+1:=i64_in _ (by omega) (by omega);have q5:IntKind.i64.wrap (24*((k:Int)+1))=24*((k:Int)+1):=i64_in _ (by omega) (by omega);have q3:(0:Int)≤24*(k:Int):=by omega
      have q6:24*(k:Int)≤24*((k:Int)+1):=by omega
      have q4:24*((k:Int)+1)≤((strOfNums L).size:Int):=by omega
      have t1:(24*(k:Int)).toNat=24*k:=by omega
      have t2:(24*((k:Int)+1)).toNat=24*k+24:=by omega
      have hp:=piece_length (l:=L) (c:=c) (by omega) k hlt;have R:=fun w=>reduI_any (strOfNums (piece L k)) 2305843009213693951 w (by rw [strOfNums_size];omega) (by decide) h3
      rw [byt_str _ (piece_lt hby k)] at R;have hpe:=str_piece L k;have ht:=htk k hlt;obtain⟨z,hz⟩:∃z:Nat,z=numL (piece L k)%2305843009213693951:=⟨_,rfl⟩;rw [←hz] at R ht;have hzm:z<2305843009213693951:=by rw [hz];exact Nat.mod_lt _ (by omega)
      clear hz;have D:=fun w=>redP_of (z:Int) (z:Int) w (by omega) (Int.tmod_eq_of_lt (by omega) (by omega))
      go_wp2
      go_region_held3 (fun _=>True) (trivial) (first
        |(go_simp;go_at_call 233;refine(V _).mono ?_;rintro e Wv ⟨rfl,bv⟩)
        |(go_at_call 179;refine(R _).mono ?_;rintro e W2 ⟨rfl,hb2⟩)
        |(go_at_call 113;refine(D _).mono ?_;rintro e W3 ⟨rfl,hb3⟩;have hb4:Bl wr W3:=(((Below.refl _ wr).drew).trans bv).trans ((hb2.tr hb3).mono bv.size);have hown4:=own_keep hown hb4;have hbl4:=hbl.trans (hb4.mono hsz);have hsz4:=hbl4.size)
        |(refine step_append_ownP (by rfl) _ _ _ (by rfl) w.heap.size 146 i0 (.agg #[int u64 0]) 1 8 underlying235 hi hz0 hz1 hz2 rfl (by omega) _ k (cellsPr (H.take k)) (by rfl) (hown4.alloc _) ⟨W3.heap.size,0,none⟩ 1 1 [int u64 z] (by rfl) (by rfl) (World.news_of_block (cs:=#[int u64 z]) (heap_alloc_new W3 _)) (by simp [Value.oneCell']) (by unfold maxLen;omega) (by omega) (by simp;omega) ?_;intro v2 w2 hown2 hgr2 _))
      go_wp2;have R1:w2.ownsRow w.heap.size 146 1 v2 (k+1) (cellsPr (H.take (k+1))):=by rw [ht,cellsPr_app];exact hown2
      have R2:Bl w w2:=(hbl4.alloc hsz4 _).grown hgr2 (by simp;omega) (fun r hr=>((hown4.alloc (.cells #[int u64 z] 146)).lt r hr).1);go_roundw
      case rel=>
        first
          |exact ⟨k+1,by omega,by go_num,R1,R2⟩
          |((repeat apply Exists.intro);exact⟨⟨k+1,by omega,by go_num,R1,R2⟩,rfl⟩)
      case measure=>simp [intOf];omega
    · obtain rfl:k=c:=by omega
      rw [List.take_of_length_le (by omega)] at hown;go_wp2;go_ret2;exact⟨_,rfl,hown,hbl⟩
theorem h2nP_no (msg tag:ByteArray)(c:Int)(w:World)(h: ¬ okH msg tag 2305843009213693951 c):
    Cr 160 #[.string msg,.string tag,.agg #[],.int .i64 c] w (.tuple #[.slice none 0 0,.bool false]):=by
  by_cases h1:c<1
  · go_enter func160,ntmps160;go_wp2;go_ret2;exact⟨rfl,(Below.refl _ _).alloc (Nat.le_refl _) _⟩
  · by_cases h2:340<c
    · go_enter func160,ntmps160;go_wp2;go_ret2;exact⟨rfl,(Below.refl _ _).alloc (Nat.le_refl _) _⟩
    · have X:=fun w=>exmI_no msg tag (24*c) w (fun hh=>h ⟨by omega,by omega,by decide,hh⟩)
      have q1:IntKind.i64.wrap (24*c)=24*c:=i64_in _ (by omega) (by omega);go_enter func160,ntmps160;go_wp2_with fail;refine(X _).mono ?_;rintro e W1 ⟨rfl,hb1⟩;have hb2:Bl w W1:=((Below.refl _ _).alloc (Nat.le_refl _) _).trans (hb1.mono (by simp));go_wp2;go_ret2;exact⟨rfl,hb2⟩
section
open M
section
variable {ev:Operand→Value}{w:World}{dst:Option Tmp}{ty:TypeId}{ps:String}{af:Array Edge}{gd:Option (Nat×Bool)}{x y:Operand}{b i:Nat}
theorem execM_idxN {g n cap k:Nat}(hx:ev x= .slice (some ⟨g,0,none⟩) n cap)(hy:ev y= .int .i64 (k:Int))(hk:k<n):
    (execOp ev (Opr dst (.indexAddr 235 x y) ty ps af gd)).run prog w= .ok (.value (.pointer (some ⟨g,k,none⟩))) w:=by
  have h2:(k:Int)<(n:Int):=by omega
  simp [execOp,hx,hy,h2,go_sem]
end
section
variable {A:Act}{w W0:World}{dst:Option Tmp}{ty:TypeId}{ps:String}{af:Array Edge}{gd:Option (Nat×Bool)}{x y:Operand}{b i:Nat}
theorem doM_idx {g n cap k:Nat}(hx:A.eval x= .slice (some ⟨g,0,none⟩) n cap)(hy:A.eval y= .int .i64 (k:Int))(hk:k<n):
    Does prog (Opr dst (.indexAddr 235 x y) ty ps af gd) A w fun v' w'=>v'= .pointer (some ⟨g,k,none⟩)∧Bl w w':=by
  have h:=execM_idxN (ev:=A.eval) (w:=w) (dst:=dst) (ty:=ty) (ps:=ps) (af:=af) (gd:=gd) hx hy hk;exact does_value h ⟨rfl,Below.refl _ _⟩
theorem doM_loadN {z:Int}(hx:A.eval x= .pointer (some ⟨b,i,none⟩))(hc:w.cell? ⟨b,i,none⟩=some (int u64 z)):
    Does prog (Opr dst (.load 146 x) ty ps af gd) A w fun v' w'=>v'= .agg #[int u64 z]∧Bl w w':=by
  have h:=exec_loadN (ev:=A.eval) (w:=w) (dst:=dst) (ty:=ty) (ps:=ps) (af:=af) (gd:=gd) hx hc;exact does_value h ⟨rfl,Below.refl _ _⟩
end
theorem cf_mapI (args:Array Value)(w:World):(callFunc 161 args).run prog w= .ok (.enter 161 args) w:=by kernel_rfl
theorem cf_plusC (args:Array Value)(w:World):(callFunc 82 args).run prog w= .ok (.enter 82 args) w:=by kernel_rfl
theorem cpt_res {W:World}{b:Nat}{x y:Int}{c:Bool}{fn:Func}{p u:Tmp}(h:fn.results=#[.cell p 75,.tmp u])(tmps:Array Value)(hp:tmps.getD p undef= .pointer (some ⟨b,0,none⟩))(hc:K3 W 75 b x y c):
    (results fn tmps).run prog W= .ok (.tuple #[.agg #[int u64 x,int u64 y,.bool c],tmps.getD u undef]) W:=by
  have hp':tmps[p]?.getD undef= .pointer (some ⟨b,0,none⟩):=by simpa using hp
  simp [results,h,hp',asAddr,run_loadVar_mid W b 0 75 [int u64 x,int u64 y,.bool c] _ hc.range underlying75 rfl (by kernel_rfl)]
theorem h2gN_of (msg tag:ByteArray)(H:List Int)(u0 u1 ax ay dx dy sx sy:Int)(ac dc sc:Bool)(w:World)(hT:TabK w)
    (X:∀w,TabK w→Calls prog 160 #[.string msg,.string tag,.agg #[],.int .i64 2] w fun e w'=>∃v,e= .returned (.tuple #[v,.bool true])∧w'.ownsRow w.heap.size 146 1 v 2 (cellsPr H)∧Bl w w')
    (hl:H.length=2)(h0:lk H 0=u0)(h1:lk H 1=u1)
    (M0:Cc 161 #[.agg #[int u64 u0]] (.agg #[int u64 ax,int u64 ay,.bool ac]))
    (M1:Cc 161 #[.agg #[int u64 u1]] (.agg #[int u64 dx,int u64 dy,.bool dc]))
    (SU:Cc 82 #[.agg #[int u64 ax,int u64 ay,.bool ac],.agg #[int u64 dx,int u64 dy,.bool dc]] (.agg #[int u64 sx,int u64 sy,.bool sc])):
    Cr 122 #[.string msg,.string tag] w (.tuple #[.agg #[int u64 sx,int u64 sy,.bool sc],.bool true]):=by
  have hr:=K3.new w 75 0 0 false;have hb:=balc w (Obj.cells #[int u64 0,int u64 0,.bool false] 75);have hgw:7<w.heap.size:=World.block_lt_of_cell? w _ (hT 0 (by omega));have hTB:TabK (w.alloc (Obj.cells #[int u64 0,int u64 0,.bool false] 75)):=fun i hi=>(hb.cell (p:=⟨7,i,none⟩) hgw).trans (hT i hi)
  go_enter func122,ntmps122;go_wp2_with fail;refine(X _ hTB).mono ?_;rintro e W1 ⟨v,rfl,hown,b1⟩
  obtain⟨g,cap,rfl⟩:∃g cap,v= .slice (some ⟨g,0,none⟩) 2 cap:=by
    rcases hown.2 with ⟨_,hc⟩|⟨g,cap,cur,hv,_⟩
    · omega
    · exact⟨g,cap,hv⟩
  have hcc:∀i,i<2→W1.drew.cell? ⟨g,i,none⟩=some (int u64 (lk H i)):=fun i hi=>by
    have:=hown.cells (g:=g) rfl i (int u64 (lk H i)) (by
      rw [cellsPr,List.getElem?_map];unfold lk;rw [List.getD_eq_getElem?_getD,List.getElem?_eq_getElem (by omega)]
      rfl)
    rw [Addr.add_mid,Nat.zero_add] at this;exact this
  have c0:=hcc 0 (by omega);have c1:=hcc 1 (by omega);rw [h0] at c0;rw [h1] at c1;replace hr:=hr.keep b1;replace hb:=hb.tr b1;clear X hown b1 hcc hTB hT;go_wp2
  refine pool_pre 9 [.val (.slice (some ⟨g,0,none⟩) 2 cap),
      .val (.pointer (some ⟨g,0,none⟩)),
      .val (.agg #[int u64 u0]),
      .val (.agg #[int u64 ax,int u64 ay,.bool ac]),
      .val (.slice (some ⟨g,0,none⟩) 2 cap),
      .val (.pointer (some ⟨g,1,none⟩)),
      .val (.agg #[int u64 u1]),
      .val (.agg #[int u64 dx,int u64 dy,.bool dc]),
      .val (.agg #[int u64 sx,int u64 sy,.bool sc])] [[6],[18],[19],[20],[6],[22],[23],[24],[21,25]] (fun f=> [(some 18,.slice (some ⟨g,0,none⟩) 2 cap),(some 19,.pointer (some ⟨g,0,none⟩)),(some 20,.agg #[int u64 u0]),(some 21,.agg #[int u64 ax,int u64 ay,.bool ac]),(some 22,.slice (some ⟨g,0,none⟩) 2 cap),(some 23,.pointer (some ⟨g,1,none⟩)),(some 24,.agg #[int u64 u1]),(some 25,.agg #[int u64 dx,int u64 dy,.bool dc]),(some 26,.agg #[int u64 sx,int u64 sy,.bool sc])]) (by kernel_rfl) (by kernel_rfl) (by kernel_rfl) (by kernel_rfl) (by decide) (by kernel_rfl) (fun _=>by kernel_rfl) ?_ ?_
  · intro ix hix
    match ix,hix with
    |0,_=>exact obv [(6,.slice (some ⟨g,0,none⟩) 2 cap)] rfl rfl (fun A w ⟨e0,_⟩ hB=>doS_move e0)
    |1,_=>exact obv [(18,.slice (some ⟨g,0,none⟩) 2 cap)] rfl rfl (fun A w ⟨e0,_⟩ hB=>doM_idx (k:=0) e0 rfl (by decide))
    |2,_=>exact obv [(19,.pointer (some ⟨g,0,none⟩))] rfl rfl (fun A w ⟨e0,_⟩ hB=>doM_loadN e0 (keepA c0 hB))
    |3,_=>exact obv [(20,.agg #[int u64 u0])] rfl rfl (fun A w ⟨e0,_⟩ hB=>doS_call1 cf_mapI e0 (M0 w))
    |4,_=>exact obv [(6,.slice (some ⟨g,0,none⟩) 2 cap)] rfl rfl (fun A w ⟨e0,_⟩ hB=>doS_move e0)
    |5,_=>exact obv [(22,.slice (some ⟨g,0,none⟩) 2 cap)] rfl rfl (fun A w ⟨e0,_⟩ hB=>doM_idx (k:=1) e0 rfl (by decide))
    |6,_=>exact obv [(23,.pointer (some ⟨g,1,none⟩))] rfl rfl (fun A w ⟨e0,_⟩ hB=>doM_loadN e0 (keepA c1 hB))
    |7,_=>exact obv [(24,.agg #[int u64 u1])] rfl rfl (fun A w ⟨e0,_⟩ hB=>doS_call1 cf_mapI e0 (M1 w))
    |8,_=>exact obv [(21,.agg #[int u64 ax,int u64 ay,.bool ac]),(25,.agg #[int u64 dx,int u64 dy,.bool dc])] rfl rfl (fun A w ⟨e0,e1,_⟩ hB=>doS_call2 cf_plusC e0 e1 (SU w))
    |ix+9,h=>exact absurd h (by simp)
  intro f w4 hB _ fuel hfuel;replace hr:=hr.drew.keep hB;replace hb:=hb.drew.trans (hB.mono hb.size);simp only [puts,List.foldl,Act.put,List.setIfInBounds_toArray,List.set_cons_zero,List.set_cons_succ];refine last_seq (vq:= .bool true) 9 10 hfuel (by kernel_rfl) (by kernel_rfl) (by kernel_rfl) rfl rfl rfl rfl rfl (some 5) rfl (does_skip (exec_storeK rfl rfl hr) rfl) (fun w=>does_value (execS_assign rfl) ⟨rfl,rfl⟩) ?_;simp only [Act.put,List.setIfInBounds_toArray,List.set_cons_zero,List.set_cons_succ];go_wp2;exact bodyPost_ret (v:= .tuple #[.agg #[int u64 sx,int u64 sy,.bool sc],.bool true]) (cpt_res (fn:=Tryz.f122) (p:=4) (u:=5) results122 _ rfl (hr.set sx sy sc)) rfl ⟨rfl,set3_below hb (Nat.le_refl _)⟩
theorem mapI_nat (u:Nat)(hu:u<2305843009213693951)(w:World):
    Cr 161 #[.agg #[int u64 u]] w (.agg #[int u64 (px (mapP u)),int u64 (py (mapP u)),.bool (pb (mapP u))]):=by
  have:=mapI_in (toF u) w
  have e:fv (toF u)=(u:Int):=by
    unfold fv toF;rw [Fin.val_ofNat,Nat.mod_eq_of_lt hu]
  rw [e] at this;exact this
theorem cplX {p q:Pt}(hp:on p)(hq:on q)(w:World):
    Cr 82 #[.agg #[int u64 (px p),int u64 (py p),.bool (pb p)],.agg #[int u64 (px q),int u64 (py q),.bool (pb q)]] w (.agg #[int u64 (px (ad p q)),int u64 (py (ad p q)),.bool (pb (ad p q))]):=by
  have:=cplV hp hq w;rwa [ptW_eq,ptW_eq,ptW_eq] at this
theorem hNum_lt (msg tag:ByteArray)(m c i:Nat)(h:0<m):hNum msg tag m c i<m:=Nat.mod_lt _ h
theorem h2gN_yes (msg tag:ByteArray)(w:World)(hT:TabK w)(h:okT msg tag):
    Cr 122 #[.string msg,.string tag] w (.tuple #[.agg #[int u64 (px (hPt msg tag)),int u64 (py (hPt msg tag)),.bool (pb (hPt msg tag))],.bool true]):=
  h2gN_of msg tag (h2f (byt msg) (byt tag) 2305843009213693951 2) _ _ _ _ _ _ _ _ _ _ _ w hT (fun w hT=>h2nP_yes msg tag 2 w hT ((okT_H (by decide) (by decide) (by decide)).1 h)) (h2f_length _ _ _ _)
    (h2f_at msg tag 2305843009213693951 2 0 (by omega)) (h2f_at msg tag 2305843009213693951 2 1 (by omega)) (fun w=>mapI_nat _ (hNum_lt _ _ _ _ _ (by decide)) w) (fun w=>mapI_nat _ (hNum_lt _ _ _ _ _ (by decide)) w) (fun w=>cplX (mapP_on _) (mapP_on _) w)
theorem h2gN_no (msg tag:ByteArray)(w:World)(h: ¬ okT msg tag):
    Cr 122 #[.string msg,.string tag] w (.tuple #[.agg #[int u64 0,int u64 0,.bool true],.bool false]):=by
  have X:=fun w=>h2nP_no msg tag 2 w (fun hh=>h ((okT_H (by decide) (by decide) (by decide)).2 hh))
  have hr:=K3.new w 75 0 0 false;have hb:=balc w (Obj.cells #[int u64 0,int u64 0,.bool false] 75);go_enter func122,ntmps122;go_wp2_with fail;refine(X _).mono ?_;rintro e W1 ⟨rfl,b1⟩;replace hr:=hr.keep b1;replace hb:=hb.tr b1;clear X b1;go_wp2_with fail;refine(zpP _).mono ?_;rintro e w2 ⟨rfl,b2⟩;replace hr:=hr.keep b2;replace hb:=hb.tr b2;have k0:=hr.c0;have k1:=hr.c1;have k2:=hr.c2;have kf:=hr.frz;go_wp2;exact bodyPost_ret (v:= .tuple #[.agg #[int u64 0,int u64 0,.bool true],.bool false]) (cpt_res (fn:=Tryz.f122) (p:=4) (u:=5) results122 _ rfl (hr.set 0 0 true)) rfl ⟨rfl,set3_below hb (Nat.le_refl _)⟩
end
end Go.Proofs.YtmjniccfjffclaaGreatDoor
