import Derived.Test.YtmjniccfjffclaaGreatDoorMrg32
set_option linter.unusedVariables false
set_option maxRecDepth 100000
set_option maxHeartbeats 16000000
namespace Go.Proofs.YtmjniccfjffclaaGreatDoor
open Go.Proofs.Tryz Go.RowKit
open Go.Value (int)
open Go.IntKind (u64)
section
open M
def rul0:List Value:= [.func (.func 134) #[] #[],.func (.func 135) #[] #[],.func (.func 136) #[] #[],.func (.func 137) #[] #[],.func (.func 138) #[] #[],.func (.func 139) #[] #[],.func (.func 140) #[] #[]]
def rul1:List Value:= [.func (.func 134) #[] #[],.func (.func 135) #[] #[],.func (.func 136) #[] #[],.func (.func 137) #[] #[],.func (.func 138) #[] #[],.func (.func 141) #[] #[],.func (.func 140) #[] #[]]
def rul2:List Value:= [.func (.func 142) #[] #[],.func (.func 143) #[] #[],.func (.func 144) #[] #[],.func (.func 145) #[] #[],.func (.func 146) #[] #[],.func (.func 147) #[] #[],.func (.func 148) #[] #[]]
def rulL:List Value:=rul0++rul1++rul2
theorem rulL_len:rulL.length=21:=by decide
theorem rulL_one:∀v∈rulL,v.oneCell'=true:=by
  intro v hv;simp only [rulL,rul0,rul1,rul2,List.mem_append,List.mem_cons,List.not_mem_nil,or_false] at hv;rcases hv with (h|h)|h<;>rcases h with rfl|rfl|rfl|rfl|rfl|rfl|rfl<;>rfl
theorem sizeRul:(prog.info? 181).map (·.size)=some 21:=by kernel_rfl
theorem zeroRul (w:World):(zeroValue 181).run prog w= .ok (.agg (List.replicate 21 Value.nilFunc).toArray) w:=by kernel_rfl
theorem bldRul0 (w:World):(Instr.build 128 #[(0,.func (.func 134) #[] #[]),(1,.func (.func 135) #[] #[]),(2,.func (.func 136) #[] #[]),(3,.func (.func 137) #[] #[]),(4,.func (.func 138) #[] #[]),(5,.func (.func 139) #[] #[]),(6,.func (.func 140) #[] #[])]).run prog w= .ok (.agg rul0.toArray) w:=run_build w _ _ _ (by kernel_rfl)
theorem bldRul1 (w:World):(Instr.build 128 #[(0,.func (.func 134) #[] #[]),(1,.func (.func 135) #[] #[]),(2,.func (.func 136) #[] #[]),(3,.func (.func 137) #[] #[]),(4,.func (.func 138) #[] #[]),(5,.func (.func 141) #[] #[]),(6,.func (.func 140) #[] #[])]).run prog w= .ok (.agg rul1.toArray) w:=run_build w _ _ _ (by kernel_rfl)
theorem bldRul2 (w:World):(Instr.build 128 #[(0,.func (.func 142) #[] #[]),(1,.func (.func 143) #[] #[]),(2,.func (.func 144) #[] #[]),(3,.func (.func 145) #[] #[]),(4,.func (.func 146) #[] #[]),(5,.func (.func 147) #[] #[]),(6,.func (.func 148) #[] #[])]).run prog w= .ok (.agg rul2.toArray) w:=run_build w _ _ _ (by kernel_rfl)
theorem bldRul (w:World):(Instr.build 181 #[(0,.agg rul0.toArray),(1,.agg rul1.toArray),(2,.agg rul2.toArray)]).run prog w= .ok (.agg rulL.toArray) w:=run_build w _ _ _ (by kernel_rfl)
section
attribute [local go_sem ↓] Go.wp_at_zero Go.wp_at_succ
theorem rulI (w:World):
    Cr 107 #[] w (.agg rulL.toArray):=by
  have hz:=zeroRul;have h0:=bldRul0;have h1:=bldRul1;have h2:=bldRul2;have h3:=bldRul;have hr:=results_mid (P:=prog) (fn:=Tryz.f107) (p:=0) (ty:=181) results107;have hth:(w.alloc (.cells (List.replicate 21 Value.nilFunc).toArray 181)).there w.heap.size 0 21:=there_new w _ _ 21 (by simp);go_enter func107,ntmps107;go_wp2_with (refine wpList_store_mid rfl 181 _ _ rfl w.heap.size 0 rulL.toArray rfl rfl (by simpa [rulL_len] using hth) (by rw [sizeRul];simp [rulL_len]) (all_oneCell_toArray rulL_one) ?_);refine bodyPost_ret (v:= .agg rulL.toArray) (hr _ _ w.heap.size 0 rulL _ rfl (World.rangeAt_setCells_same _ _ _ _ (by rw [rulL_len];exact hth)) underlying181 rfl (by rw [sizeRul,rulL_len])) rfl ⟨rfl,?_⟩;exact below_setCells ((Below.refl _ _).alloc (Nat.le_refl _) _) (Nat.le_refl _) _ _
end
theorem noInf (s:ByteArray)(w:World):
    Calls prog 134 #[.string s] w fun e w'=>e= .returned (.bool (decide (s.size=0)))∧w=w':=by
  by_cases h:s.size=0
  · obtain rfl:s=⟨#[]⟩:=by
      obtain⟨a⟩:=s;have:a=#[]:=Array.eq_empty_of_size_eq_zero h;rw [this]
    go_enter func134,ntmps134;go_wp2;go_ret;exact⟨rfl,rfl⟩
  · have h':s.toList.isEmpty=false:=by
      obtain⟨a⟩:=s;rw [ByteArray.toList_eq]
      cases ha:a.toList with
      |nil=>exact absurd (by have:=congrArg List.length ha;simpa [ByteArray.size] using this) h
      |cons x l=>rfl
    rw [decide_eq_false h];clear h;go_enter func134,ntmps134;go_wp2;go_ret;exact⟨rfl,rfl⟩
theorem shoInf (s:ByteArray)(w:World):
    Calls prog 142 #[.string s] w fun e w'=>e= .returned (.bool (decide (s.size≤60000)))∧w=w':=by
  by_cases h:(s.size:Int)≤60000
  · rw [decide_eq_true (by omega)];go_enter func142,ntmps142;go_wp2;go_ret;exact⟨rfl,rfl⟩
  · rw [decide_eq_false (by omega)];go_enter func142,ntmps142;go_wp2;go_ret;exact⟨rfl,rfl⟩
theorem sizePro:(prog.info? 130).map (·.size)=some 9:=by kernel_rfl
theorem bldPro (c s:ByteArray)(f0 f1 f2 f3 f4 f5 f6:FuncId)(w:World):(Instr.build 130 #[(0,.agg #[.string c,.string s]),(1,.agg #[.func (.func f0) #[] #[],.func (.func f1) #[] #[],.func (.func f2) #[] #[],.func (.func f3) #[] #[],.func (.func f4) #[] #[],.func (.func f5) #[] #[],.func (.func f6) #[] #[]])]).run prog w= .ok (.agg #[.string c,.string s,.func (.func f0) #[] #[],.func (.func f1) #[] #[],.func (.func f2) #[] #[],.func (.func f3) #[] #[],.func (.func f4) #[] #[],.func (.func f5) #[] #[],.func (.func f6) #[] #[]]) w:=run_build w _ _ _ (by kernel_rfl)
theorem pro_res {W:World}{b:Nat}{cs:Array Value}{fn:Func}{p u:Tmp}(h:fn.results=#[.cell p 130,.tmp u])(tmps:Array Value)(hp:tmps.getD p undef= .pointer (some ⟨b,0,none⟩))(hc:W.rangeAt b 0 cs.toList)(hz:cs.size=9:=by rfl):
    (results fn tmps).run prog W= .ok (.tuple #[.agg cs,tmps.getD u undef]) W:=by
  have hp':tmps[p]?.getD undef= .pointer (some ⟨b,0,none⟩):=by simpa using hp
  have hl:=run_loadVar_mid (P:=prog) W b 0 130 cs.toList _ hc underlying130 rfl (by rw [sizePro,Array.length_toList,hz]);simp [results,h,hp',asAddr,hl]
def zPro:Array Value:=#[.string ⟨#[]⟩,.string ⟨#[]⟩,.nilFunc,.nilFunc,.nilFunc,.nilFunc,.nilFunc,.nilFunc,.nilFunc]
theorem proI_no (k:Int)(c info:ByteArray)(a0 a1 a2 a3:Addr)(w:World)(hs:Sn w a0 a1 a2 a3)
    (C:∀w,Calls prog 75 #[.int .i64 k] w fun e w'=>e= .returned (.tuple #[.string c,.bool false])∧w=w'):
    Cr 71 #[.int .i64 k,.string info] w (.tuple #[.agg zPro,flt ⟨#[109,111,100,101]⟩ (sen a0)]):=by
  have hg0:0<w.heap.size:=World.block_lt_of_cell? w _ hs.c0;obtain⟨W2,hW2⟩:∃W2,W2=w.alloc (Obj.cells #[.string ⟨#[]⟩,.string ⟨#[]⟩,.nilFunc,.nilFunc,.nilFunc,.nilFunc,.nilFunc,.nilFunc,.nilFunc] 130):=⟨_,rfl⟩;have hr:Bk W2 130 w.heap.size #[.string ⟨#[]⟩,.string ⟨#[]⟩,.nilFunc,.nilFunc,.nilFunc,.nilFunc,.nilFunc,.nilFunc,.nilFunc]:=by rw [hW2];exact Bk.new _ _ _
  have hb:Bl w W2:=by rw [hW2];exact(Below.refl _ w).alloc (Nat.le_refl _) _
  go_enter func71,ntmps71;go_wp2_with fail;refine(C _).mono ?_;rintro e w1 ⟨rfl,rfl⟩;go_wp2;rw [←hW2];clear hW2 C;replace hs:=hs.keep hb;have g0:W2.drew.cell? ⟨0,0,none⟩=_:=hs.c0;have n0:0∉ [w.heap.size]:=fun h=>absurd (List.mem_singleton.1 h) (by omega)
  have l1:w.heap.size<W2.drew.heap.size:=hr.lt
  refine G.pool_list (W:=W2) [w.heap.size] [.val (.agg #[.string ⟨#[]⟩,.string ⟨#[]⟩,.nilFunc,.nilFunc,.nilFunc,.nilFunc,.nilFunc,.nilFunc,.nilFunc]),
      .val (sen a0),
      .val (.agg #[.string ⟨#[109,111,100,101]⟩,sen a0]),
      .val (.iface 136 (.agg #[.string ⟨#[109,111,100,101]⟩,sen a0])),
      .set (w.heap.size) (.cells #[.string ⟨#[]⟩,.string ⟨#[]⟩,.nilFunc,.nilFunc,.nilFunc,.nilFunc,.nilFunc,.nilFunc,.nilFunc] 130) (.cells #[.string ⟨#[]⟩,.string ⟨#[]⟩,.nilFunc,.nilFunc,.nilFunc,.nilFunc,.nilFunc,.nilFunc,.nilFunc] 130),
      .val (.iface 136 (.agg #[.string ⟨#[109,111,100,101]⟩,sen a0]))] [[],[],[17],[18],[4,16],[19]] (fun f=> [(some 16,.agg #[.string ⟨#[]⟩,.string ⟨#[]⟩,.nilFunc,.nilFunc,.nilFunc,.nilFunc,.nilFunc,.nilFunc,.nilFunc]),(some 17,sen a0),(some 18,.agg #[.string ⟨#[109,111,100,101]⟩,sen a0]),(some 19,.iface 136 (.agg #[.string ⟨#[109,111,100,101]⟩,sen a0])),(none,undef),(some 5,.iface 136 (.agg #[.string ⟨#[109,111,100,101]⟩,sen a0]))]) (by kernel_rfl) (by kernel_rfl) (by kernel_rfl) (by kernel_rfl) (fun _=>by kernel_rfl) (G.last_of [.cells #[.string ⟨#[]⟩,.string ⟨#[]⟩,.nilFunc,.nilFunc,.nilFunc,.nilFunc,.nilFunc,.nilFunc,.nilFunc] 130] (fun F R hm=>by simp at hm) (fun ob ob' k hm=>by simp at hm) (fun b ob ob' hm=>by simp at hm;simp [hm])) (fun b ob ob' hm=>by simp at hm;obtain⟨rfl,rfl,-⟩:=hm;exact hr) ?_ ?_
  · intro ix hix
    match ix,hix with
    |0,_=>exact G.obv [] rfl rfl (fun A w _ hB=>bu0_pro)
    |1,_=>exact G.obv [] rfl rfl (fun A w _ hB=>ld_err rfl (hB.cell g0 n0))
    |2,_=>exact G.obv [(17,sen a0)] rfl rfl (fun A w ⟨e0,_⟩ hB=>bu_flt rfl e0)
    |3,_=>exact G.obv [(18,.agg #[.string ⟨#[109,111,100,101]⟩,sen a0])] rfl rfl (fun A w ⟨e0,_⟩ hB=>mi_flt e0)
    |4,_=>exact G.ob_set (fun f=> [(4,.pointer (some ⟨w.heap.size,0,none⟩)),(16,.agg #[.string ⟨#[]⟩,.string ⟨#[]⟩,.nilFunc,.nilFunc,.nilFunc,.nilFunc,.nilFunc,.nilFunc,.nilFunc])]) rfl rfl rfl (by simp) l1 (fun j ob1 ob2 h=>by (rcases j with _|_|_|_|_|_|j)<;>simp [G.kindOf] at h⊢ <;>omega) (fun _=>by kernel_rfl) (fun f A w ⟨e0,e1,_⟩ hh hr=>pu_any e0 e1 hr rfl size_pro (by kernel_rfl))
    |5,_=>exact G.obv [(19,.iface 136 (.agg #[.string ⟨#[109,111,100,101]⟩,sen a0]))] rfl rfl (fun A w ⟨e0,_⟩ hB=>doV_assign e0)
    |ix+6,h=>exact absurd h (by simp)
  intro f W3 hS _ _ _ hset;have q1:Bk W3 130 w.heap.size zPro:=hset 4 _ _ _ rfl (by decide);have hb3:Bl w W3:=hS.under hb.drew (by simp<;>omega) hb.size;clear hset hS g0;simp only [puts,List.foldl,Act.put,List.setIfInBounds_toArray,List.set_cons_zero,List.set_cons_succ];go_wp2;exact bodyPost_ret (v:= .tuple #[.agg zPro,flt ⟨#[109,111,100,101]⟩ (sen a0)]) (bk_res2 (fn:=Tryz.f71) (p:=4) (u:=5) results71 _ rfl q1 underlying130 rfl sizePro) rfl ⟨rfl,hb3⟩
section
variable (k:Int)(c info:ByteArray)(RL:Array Value)(F0 F1 F2 F3 F4 F5 F6:FuncId)(a0 a1 a2 a3:Addr)(w:World)(hs:Sn w a0 a1 a2 a3)
    (C:∀w,Calls prog 75 #[.int .i64 k] w fun e w'=>e= .returned (.tuple #[.string c,.bool true])∧w=w')
    (R:Cc 107 #[] (.agg RL))
    (IX:∀w,(Instr.index 181 (.agg RL) (.int .i64 k)).run prog w= .ok (.agg #[.func (.func F0) #[] #[],.func (.func F1) #[] #[],.func (.func F2) #[] #[],.func (.func F3) #[] #[],.func (.func F4) #[] #[],.func (.func F5) #[] #[],.func (.func F6) #[] #[]]) w)
    (E0:∀(args:Array Value) (w:World),(callFunc F0 args).run prog w= .ok (.enter F0 args) w)
include hs C R IX E0
theorem proI_ok (AL:∀w,Calls prog F0 #[.string info] w fun e w'=>e= .returned (.bool true)∧w=w'):
    Cr 71 #[.int .i64 k,.string info] w (.tuple #[.agg #[.string c,.string info,.func (.func F0) #[] #[],.func (.func F1) #[] #[],.func (.func F2) #[] #[],.func (.func F3) #[] #[],.func (.func F4) #[] #[],.func (.func F5) #[] #[],.func (.func F6) #[] #[]],.nilIface]):=by
  have hg0:0<w.heap.size:=World.block_lt_of_cell? w _ hs.c0;clear hs hg0;have hB:=bldPro c info F0 F1 F2 F3 F4 F5 F6;have hr:=Bk.new w 130 #[.string ⟨#[]⟩,.string ⟨#[]⟩,.nilFunc,.nilFunc,.nilFunc,.nilFunc,.nilFunc,.nilFunc,.nilFunc];have hb:=balc w (Obj.cells #[.string ⟨#[]⟩,.string ⟨#[]⟩,.nilFunc,.nilFunc,.nilFunc,.nilFunc,.nilFunc,.nilFunc,.nilFunc] 130);go_enter func71,ntmps71;go_wp2_with fail;refine(C _).mono ?_;rintro e w1 ⟨rfl,rfl⟩;go_wp2_with fail;refine(R _).mono ?_;rintro e w1 ⟨rfl,b1⟩;have hal:=balc w1 (Obj.cells #[.string c,.string info,.func (.func F0) #[] #[],.func (.func F1) #[] #[],.func (.func F2) #[] #[],.func (.func F3) #[] #[],.func (.func F4) #[] #[],.func (.func F5) #[] #[],.func (.func F6) #[] #[]] 130);have hr2:=Bk.new w1 130 #[.string c,.string info,.func (.func F0) #[] #[],.func (.func F1) #[] #[],.func (.func F2) #[] #[],.func (.func F3) #[] #[],.func (.func F4) #[] #[],.func (.func F5) #[] #[],.func (.func F6) #[] #[]];replace hr:=(hr.keep b1).keep hal;replace hb:=hb.tr b1;replace hb:=hb.tr hal;clear C R b1 hal;have d2:=hr2.cell (k:=2) rfl;go_wp2_with fail;refine(AL _).mono ?_;rintro e w2 ⟨rfl,rfl⟩;clear AL d2;have d0:=hr2.cell (k:=0) rfl;have d1:=hr2.cell (k:=1) rfl;have d2:=hr2.cell (k:=2) rfl;have d3:=hr2.cell (k:=3) rfl;have d4:=hr2.cell (k:=4) rfl;have d5:=hr2.cell (k:=5) rfl;have d6:=hr2.cell (k:=6) rfl;have d7:=hr2.cell (k:=7) rfl;have d8:=hr2.cell (k:=8) rfl;have hth:=hr.there 9 (by decide);go_wp2_with (refine wpList_store_mid rfl 130 _ _ rfl w.heap.size 0 #[.string c,.string info,.func (.func F0) #[] #[],.func (.func F1) #[] #[],.func (.func F2) #[] #[],.func (.func F3) #[] #[],.func (.func F4) #[] #[],.func (.func F5) #[] #[],.func (.func F6) #[] #[]] rfl rfl hth sizePro (by kernel_rfl) ?_);refine bodyPost_ret (v:= .tuple #[.agg #[.string c,.string info,.func (.func F0) #[] #[],.func (.func F1) #[] #[],.func (.func F2) #[] #[],.func (.func F3) #[] #[],.func (.func F4) #[] #[],.func (.func F5) #[] #[],.func (.func F6) #[] #[]],.nilIface]) ?_ rfl ⟨rfl,below_setCells hb (Nat.le_refl _) _ _⟩;exact pro_res (fn:=Tryz.f71) (p:=4) (u:=5) results71 _ rfl (World.rangeAt_setCells_same _ _ _ _ hth)
theorem proI_bad (AL:∀w,Calls prog F0 #[.string info] w fun e w'=>e= .returned (.bool false)∧w=w'):
    Cr 71 #[.int .i64 k,.string info] w (.tuple #[.agg zPro,flt ⟨#[105,110,102,111]⟩ (sen a0)]):=by
  have hg0:0<w.heap.size:=World.block_lt_of_cell? w _ hs.c0;have hB:=bldPro c info F0 F1 F2 F3 F4 F5 F6;have hr:=Bk.new w 130 #[.string ⟨#[]⟩,.string ⟨#[]⟩,.nilFunc,.nilFunc,.nilFunc,.nilFunc,.nilFunc,.nilFunc,.nilFunc];have hb:=balc w (Obj.cells #[.string ⟨#[]⟩,.string ⟨#[]⟩,.nilFunc,.nilFunc,.nilFunc,.nilFunc,.nilFunc,.nilFunc,.nilFunc] 130);go_enter func71,ntmps71;go_wp2_with fail;refine(C _).mono ?_;rintro e w1 ⟨rfl,rfl⟩;go_wp2_with fail;refine(R _).mono ?_;rintro e w1 ⟨rfl,b1⟩;have hal:=balc w1 (Obj.cells #[.string c,.string info,.func (.func F0) #[] #[],.func (.func F1) #[] #[],.func (.func F2) #[] #[],.func (.func F3) #[] #[],.func (.func F4) #[] #[],.func (.func F5) #[] #[],.func (.func F6) #[] #[]] 130);have hr2:=Bk.new w1 130 #[.string c,.string info,.func (.func F0) #[] #[],.func (.func F1) #[] #[],.func (.func F2) #[] #[],.func (.func F3) #[] #[],.func (.func F4) #[] #[],.func (.func F5) #[] #[],.func (.func F6) #[] #[]];replace hr:=(hr.keep b1).keep hal;replace hb:=hb.tr b1;replace hb:=hb.tr hal;clear C R b1 hal;have d2:=hr2.cell (k:=2) rfl;go_wp2_with fail;refine(AL _).mono ?_;rintro e w2 ⟨rfl,rfl⟩;clear AL d2 hr2;go_wp2;generalize w1.alloc _=W2 at*;replace hs:=hs.keep hb;have g0:W2.drew.cell? ⟨0,0,none⟩=_:=hs.c0;have n0:0∉ [w.heap.size]:=fun h=>absurd (List.mem_singleton.1 h) (by omega)
  have l1:w.heap.size<W2.drew.heap.size:=hr.lt
  refine G.pool_list (W:=W2) [w.heap.size] [.val (.agg #[.string ⟨#[]⟩,.string ⟨#[]⟩,.nilFunc,.nilFunc,.nilFunc,.nilFunc,.nilFunc,.nilFunc,.nilFunc]),
      .val (sen a0),
      .val (.agg #[.string ⟨#[105,110,102,111]⟩,sen a0]),
      .val (.iface 136 (.agg #[.string ⟨#[105,110,102,111]⟩,sen a0])),
      .set (w.heap.size) (.cells #[.string ⟨#[]⟩,.string ⟨#[]⟩,.nilFunc,.nilFunc,.nilFunc,.nilFunc,.nilFunc,.nilFunc,.nilFunc] 130) (.cells #[.string ⟨#[]⟩,.string ⟨#[]⟩,.nilFunc,.nilFunc,.nilFunc,.nilFunc,.nilFunc,.nilFunc,.nilFunc] 130),
      .val (.iface 136 (.agg #[.string ⟨#[105,110,102,111]⟩,sen a0]))] [[],[],[34],[35],[4,33],[36]] (fun f=> [(some 33,.agg #[.string ⟨#[]⟩,.string ⟨#[]⟩,.nilFunc,.nilFunc,.nilFunc,.nilFunc,.nilFunc,.nilFunc,.nilFunc]),(some 34,sen a0),(some 35,.agg #[.string ⟨#[105,110,102,111]⟩,sen a0]),(some 36,.iface 136 (.agg #[.string ⟨#[105,110,102,111]⟩,sen a0])),(none,undef),(some 5,.iface 136 (.agg #[.string ⟨#[105,110,102,111]⟩,sen a0]))]) (by kernel_rfl) (by kernel_rfl) (by kernel_rfl) (by kernel_rfl) (fun _=>by kernel_rfl) (G.last_of [.cells #[.string ⟨#[]⟩,.string ⟨#[]⟩,.nilFunc,.nilFunc,.nilFunc,.nilFunc,.nilFunc,.nilFunc,.nilFunc] 130] (fun F R hm=>by simp at hm) (fun ob ob' k hm=>by simp at hm) (fun b ob ob' hm=>by simp at hm;simp [hm])) (fun b ob ob' hm=>by simp at hm;obtain⟨rfl,rfl,-⟩:=hm;exact hr) ?_ ?_
  · intro ix hix
    match ix,hix with
    |0,_=>exact G.obv [] rfl rfl (fun A w _ hB=>bu0_pro)
    |1,_=>exact G.obv [] rfl rfl (fun A w _ hB=>ld_err rfl (hB.cell g0 n0))
    |2,_=>exact G.obv [(34,sen a0)] rfl rfl (fun A w ⟨e0,_⟩ hB=>bu_flt rfl e0)
    |3,_=>exact G.obv [(35,.agg #[.string ⟨#[105,110,102,111]⟩,sen a0])] rfl rfl (fun A w ⟨e0,_⟩ hB=>mi_flt e0)
    |4,_=>exact G.ob_set (fun f=> [(4,.pointer (some ⟨w.heap.size,0,none⟩)),(33,.agg #[.string ⟨#[]⟩,.string ⟨#[]⟩,.nilFunc,.nilFunc,.nilFunc,.nilFunc,.nilFunc,.nilFunc,.nilFunc])]) rfl rfl rfl (by simp) l1 (fun j ob1 ob2 h=>by (rcases j with _|_|_|_|_|_|j)<;>simp [G.kindOf] at h⊢ <;>omega) (fun _=>by kernel_rfl) (fun f A w ⟨e0,e1,_⟩ hh hr=>pu_any e0 e1 hr rfl size_pro (by kernel_rfl))
    |5,_=>exact G.obv [(36,.iface 136 (.agg #[.string ⟨#[105,110,102,111]⟩,sen a0]))] rfl rfl (fun A w ⟨e0,_⟩ hB=>doV_assign e0)
    |ix+6,h=>exact absurd h (by simp)
  intro f W3 hS _ _ _ hset;have q1:Bk W3 130 w.heap.size zPro:=hset 4 _ _ _ rfl (by decide);have hb3:Bl w W3:=hS.under hb.drew (by simp<;>omega) hb.size;clear hset hS g0;simp only [puts,List.foldl,Act.put,List.setIfInBounds_toArray,List.set_cons_zero,List.set_cons_succ];go_wp2;exact bodyPost_ret (v:= .tuple #[.agg zPro,flt ⟨#[105,110,102,111]⟩ (sen a0)]) (bk_res2 (fn:=Tryz.f71) (p:=4) (u:=5) results71 _ rfl q1 underlying130 rfl sizePro) rfl ⟨rfl,hb3⟩
end
end
section
open M
theorem cpt_res {W:World}{b:Nat}{x y:Int}{c:Bool}{fn:Func}{p u:Tmp}(h:fn.results=#[.cell p 75,.tmp u])(tmps:Array Value)(hp:tmps.getD p undef= .pointer (some ⟨b,0,none⟩))(hc:K3 W 75 b x y c):
    (results fn tmps).run prog W= .ok (.tuple #[.agg #[int u64 x,int u64 y,.bool c],tmps.getD u undef]) W:=by
  have hp':tmps[p]?.getD undef= .pointer (some ⟨b,0,none⟩):=by simpa using hp
  simp [results,h,hp',asAddr,run_loadVar_mid W b 0 75 [int u64 x,int u64 y,.bool c] _ hc.range underlying75 rfl (by kernel_rfl)]
end
end Go.Proofs.YtmjniccfjffclaaGreatDoor
