import Derived.Test.YtmjniccfjffclaaGreatDoorMrg27
import Derived.Test.YtmjniccfjffclaaGreatDoorMrg25
set_option linter.unusedVariables false
set_option maxRecDepth 100000
set_option maxHeartbeats 16000000
namespace Go.Proofs.YtmjniccfjffclaaGreatDoor
open Go.Proofs.Tryz Go.RowKit
open Go.Value (int)
open Go.IntKind (u64)
section
open M
theorem facI_of (k z:Int)(b:Bool)(a0 a1 a2 a3:Addr)(w:World)(hs:Sn w a0 a1 a2 a3)(hk:b=true→z=k)
    (E:Cc 39 #[int u64 k,.agg #[]] (.tuple #[.agg #[int u64 z],.bool b])):
    Cr 72 #[int u64 k] w (.tuple #[.agg #[int u64 (if b=true∧ ¬ k=0 then k else 0)],if b=true∧ ¬ k=0 then .nilIface else sen a0]):=by
  have hr:RN (w.alloc (.cells #[int u64 0] 86)) w.heap.size 0:=heap_alloc_new w _;have hb:=balc w (Obj.cells #[int u64 0] 86);have hs1:=hs.keep hb;by_cases h:b=true∧ ¬ k=0
  · rw [if_pos h,if_pos h];obtain⟨rfl,h0⟩:=h;obtain rfl:=hk rfl;have h0':(z==0)=false:=by simpa using h0
    clear hk h0 hs1;go_enter func72,ntmps72;go_wp2_with fail;refine(E _).mono ?_;rintro e w1 ⟨rfl,b1⟩;have hal:=balc w1 (Obj.cells #[int u64 z] 86);have hr2:RN (w1.alloc (.cells #[int u64 z] 86)) w1.heap.size z:=heap_alloc_new w1 _;replace hr:=(hr.keep b1).keep hal;replace hb:=hb.tr b1;replace hb:=hb.tr hal;clear E b1 hal;have c0:=hr.cell;have c1:=hr2.cell;have cf:=hr.frz;go_wp2;exact bodyPost_ret (v:= .tuple #[.agg #[int u64 z],.nilIface]) (RN_res (fn:=Tryz.f72) (p:=2) (u:=3) results72 _ rfl (hr.set z)) rfl ⟨rfl,hb.setCell (p:=⟨w.heap.size,0,none⟩) (Nat.le_refl _) _⟩
  · rw [if_neg h,if_neg h];have hg0:0<w.heap.size:=World.block_lt_of_cell? w _ hs.c0
    cases b with
    | false=>
      clear h hk;go_enter func72,ntmps72;go_wp2_with fail;refine(E _).mono ?_;rintro e w1 ⟨rfl,b1⟩;obtain⟨W2,hW2⟩:∃W2,W2=w1.alloc (Obj.cells #[int u64 z] 86):=⟨_,rfl⟩;have hal:Bl w1 W2:=by rw [hW2];exact(Below.refl _ w1).alloc (Nat.le_refl _) _
      replace hr:=(hr.keep b1).keep hal;replace hs1:=(hs1.keep b1).keep hal;replace hb:=hb.tr b1;replace hb:=hb.tr hal;clear E b1 hal;go_wp2;rw [←hW2];clear hW2;have g0:W2.drew.cell? ⟨0,0,none⟩=_:=hs1.c0;have n0:0∉ [w.heap.size]:=fun h=>absurd (List.mem_singleton.1 h) (by omega)
      have l1:w.heap.size<W2.drew.heap.size:=hr.lt
      refine G.pool_list (W:=W2) [w.heap.size] [.val (.agg #[int u64 0]),
          .val (sen a0),
          .set (w.heap.size) (.cells #[int u64 0] 86) (.cells #[int u64 0] 86),
          .val (sen a0)] [[],[],[2,18],[19]] (fun f=> [(some 18,.agg #[int u64 0]),(some 19,sen a0),(none,undef),(some 3,sen a0)]) (by kernel_rfl) (by kernel_rfl) (by kernel_rfl) (by kernel_rfl) (fun _=>by kernel_rfl) (G.last_of [.cells #[int u64 0] 86] (fun F R hm=>by simp at hm) (fun ob ob' k hm=>by simp at hm) (fun b ob ob' hm=>by simp at hm;simp [hm])) (fun b ob ob' hm=>by simp at hm;obtain⟨rfl,rfl,-⟩:=hm;exact hr) ?_ ?_
      · intro ix hix
        match ix,hix with
        |0,_=>exact G.obv [] rfl rfl (fun A w _ hB=>bu0_nN)
        |1,_=>exact G.obv [] rfl rfl (fun A w _ hB=>ld_err rfl (hB.cell g0 n0))
        |2,_=>exact G.ob_set (fun f=> [(2,.pointer (some ⟨w.heap.size,0,none⟩)),(18,.agg #[int u64 0])]) rfl rfl rfl (by simp) l1 (fun j ob1 ob2 h=>by (rcases j with _|_|_|_|j)<;>simp [G.kindOf] at h⊢ <;>omega) (fun _=>by kernel_rfl) (fun f A w ⟨e0,e1,_⟩ hh hr=>pu_nN e0 e1 hr)
        |3,_=>exact G.obv [(19,sen a0)] rfl rfl (fun A w ⟨e0,_⟩ hB=>doV_assign e0)
        |ix+4,h=>exact absurd h (by simp)
      intro f W3 hS _ _ _ hset;have q1:RN W3 w.heap.size 0:=hset 2 _ _ _ rfl (by decide);have hb3:Bl w W3:=hS.under hb.drew (by simp<;>omega) hb.size;clear hset hS g0;simp only [puts,List.foldl,Act.put,List.setIfInBounds_toArray,List.set_cons_zero,List.set_cons_succ];go_wp2;exact bodyPost_ret (v:= .tuple #[.agg #[int u64 0],sen a0]) (RN_res (fn:=Tryz.f72) (p:=2) (u:=3) results72 _ rfl q1) rfl ⟨rfl,hb3⟩
    | true=>
      obtain rfl:=hk rfl;have h0:z=0:=by simpa using h
      have h0':(z==0)=true:=by simpa using h0
      clear h hk h0;go_enter func72,ntmps72;go_wp2_with fail;refine(E _).mono ?_;rintro e w1 ⟨rfl,b1⟩;obtain⟨W2,hW2⟩:∃W2,W2=w1.alloc (Obj.cells #[int u64 z] 86):=⟨_,rfl⟩;have hal:Bl w1 W2:=by rw [hW2];exact(Below.refl _ w1).alloc (Nat.le_refl _) _
      replace hr:=(hr.keep b1).keep hal;replace hs1:=(hs1.keep b1).keep hal;replace hb:=hb.tr b1;replace hb:=hb.tr hal;clear E b1 hal;go_wp2;rw [←hW2];clear hW2;have g0:W2.drew.cell? ⟨0,0,none⟩=_:=hs1.c0;have n0:0∉ [w.heap.size]:=fun h=>absurd (List.mem_singleton.1 h) (by omega)
      have l1:w.heap.size<W2.drew.heap.size:=hr.lt
      refine G.pool_list (W:=W2) [w.heap.size] [.val (.agg #[int u64 0]),
          .val (sen a0),
          .set (w.heap.size) (.cells #[int u64 0] 86) (.cells #[int u64 0] 86),
          .val (sen a0)] [[],[],[2,18],[19]] (fun f=> [(some 18,.agg #[int u64 0]),(some 19,sen a0),(none,undef),(some 3,sen a0)]) (by kernel_rfl) (by kernel_rfl) (by kernel_rfl) (by kernel_rfl) (fun _=>by kernel_rfl) (G.last_of [.cells #[int u64 0] 86] (fun F R hm=>by simp at hm) (fun ob ob' k hm=>by simp at hm) (fun b ob ob' hm=>by simp at hm;simp [hm])) (fun b ob ob' hm=>by simp at hm;obtain⟨rfl,rfl,-⟩:=hm;exact hr) ?_ ?_
      · intro ix hix
        match ix,hix with
        |0,_=>exact G.obv [] rfl rfl (fun A w _ hB=>bu0_nN)
        |1,_=>exact G.obv [] rfl rfl (fun A w _ hB=>ld_err rfl (hB.cell g0 n0))
        |2,_=>exact G.ob_set (fun f=> [(2,.pointer (some ⟨w.heap.size,0,none⟩)),(18,.agg #[int u64 0])]) rfl rfl rfl (by simp) l1 (fun j ob1 ob2 h=>by (rcases j with _|_|_|_|j)<;>simp [G.kindOf] at h⊢ <;>omega) (fun _=>by kernel_rfl) (fun f A w ⟨e0,e1,_⟩ hh hr=>pu_nN e0 e1 hr)
        |3,_=>exact G.obv [(19,sen a0)] rfl rfl (fun A w ⟨e0,_⟩ hB=>doV_assign e0)
        |ix+4,h=>exact absurd h (by simp)
      intro f W3 hS _ _ _ hset;have q1:RN W3 w.heap.size 0:=hset 2 _ _ _ rfl (by decide);have hb3:Bl w W3:=hS.under hb.drew (by simp<;>omega) hb.size;clear hset hS g0;simp only [puts,List.foldl,Act.put,List.setIfInBounds_toArray,List.set_cons_zero,List.set_cons_succ];go_wp2;exact bodyPost_ret (v:= .tuple #[.agg #[int u64 0],sen a0]) (RN_res (fn:=Tryz.f72) (p:=2) (u:=3) results72 _ rfl q1) rfl ⟨rfl,hb3⟩
theorem facI_any (k:Nat)(a0 a1 a2 a3:Addr)(w:World)(hs:Sn w a0 a1 a2 a3):
    Cr 72 #[int u64 k] w (.tuple #[.agg #[int u64 (if keyB k=true then (k:Int) else 0)],if keyB k=true then .nilIface else sen a0]):=by
  have h:=facI_of (k:Int) _ _ a0 a1 a2 a3 w hs (fun h=>if_pos (of_decide_eq_true h)) (fun w=>exN_any k w);have e:(decide (k<2305843010818082053)=true∧ ¬ (k:Int)=0)↔keyB k=true:=by rw [decide_eq_true_eq,keyB_iff];omega
  simp only [e] at h;exact h
end
theorem mthN (w:World):(method 432 84 (.agg #[]) "loop.example/s02095/impl.value").run prog w= .ok (230,.agg #[]) w:=by kernel_rfl
theorem vluN (w:World):
    Calls prog 230 #[.agg #[]] w fun e w'=>e= .returned (int u64 2305843010818082053)∧w'=w.alloc (.cells #[] 84):=by
  go_enter func230,ntmps230;go_wp2;go_ret;exact⟨rfl,rfl⟩
theorem fldN:Array.foldl (fun(cs:Array Value) (x:Value×Nat)=>cs.setIfInBounds x.snd x.fst) #[Value.int IntKind.u64 0] (#[]:Array Value).zipIdx 0 0=#[Value.int .u64 0]:=rfl
theorem celN:prog.cellsOf 86=1:=by kernel_rfl
theorem bytN:byteOfCell prog prog.depth 86 0=some 0:=by kernel_rfl
theorem prtN {W:World}{b:Nat}{cs:Array Value}(hW:W.heap[b]? =some (.cells cs 86)):(partAt ⟨b,0,none⟩ 0 0).run prog W= .ok ⟨b,0,none⟩ W:=by
  have h:(byteOf ⟨b,0,none⟩).run prog W= .ok 0 W:=by
    have hs:W.shape? b=some (86,cs.size):=by simp [World.shape?,hW]
    simp [byteOf,noView,viewAt,shape,program,Sem.run,hs,celN,bytN,go_sem]
  simp [partAt,h,go_sem]
theorem timN_any (a b:Nat)(w:World)(ha:a<2305843010818082053)(hb:b<2305843010818082053):
    Cr 171 #[.agg #[int u64 a],.agg #[int u64 b]] w (.agg #[int u64 (a*b%2305843010818082053:Nat)]):=by
  have hme:=mthN;have hf:=fldN;have M:=mul64_any a b (by omega) (by omega)
  have D:=fun w=>div_any (a*b/18446744073709551616) (a*b%18446744073709551616) 2305843010818082053 w (by
    rw [Nat.div_lt_iff_lt_mul (by decide)];have:a*b≤2305843010818082052*2305843010818082052:=Nat.mul_le_mul (by omega) (by omega)
    omega) (by decide) (Nat.mod_lt _ (by decide))
  have e:a*b/18446744073709551616*18446744073709551616+a*b%18446744073709551616=a*b:=by omega
  rw [e] at D;clear e;generalize a*b/18446744073709551616=hi at*;generalize a*b%18446744073709551616=lo at*;obtain⟨c,hc⟩:∃c,c=a*b%2305843010818082053:=⟨_,rfl⟩;rw [←hc] at D⊢;clear hc ha hb;obtain⟨X,hX⟩:∃X,X=((w.alloc (Obj.cells #[int u64 (a:Int)] 86)).alloc (Obj.cells #[int u64 (b:Int)] 86)).alloc (Obj.cells #[int u64 0] 86):=⟨_,rfl⟩
  have hX0:X.heap[w.heap.size]? =some (.cells #[int u64 (a:Int)] 86):=by
    rw [hX];exact(Below.heap_alloc _ _ _ (by simp;omega)).trans ((Below.heap_alloc _ _ _ (by simp)).trans (heap_alloc_new w _))
  have hp1:=prtN hX0;have hX1:(X.alloc (Obj.cells #[] 84)).heap[w.heap.size]? =some (.cells #[int u64 (a:Int)] 86):=(Below.heap_alloc _ _ _ (Array.getElem?_eq_some_iff.1 hX0).1).trans hX0;have hp2:=prtN hX1;have hp3:=prtN (W:=(X.alloc (Obj.cells #[] 84)).drew) hX1;rw [hX] at hp1 hp2 hp3;clear hX hX0 hX1;go_enter func171,ntmps171;go_wp2_with fail;refine(M _).mono ?_;rintro e w' ⟨rfl,rfl⟩;go_wp2_with fail;refine(vluN _).mono ?_;rintro e w' ⟨rfl,rfl⟩;go_wp2_with fail;refine(D _).mono ?_;rintro e w' ⟨⟨z,rfl⟩,rfl|rfl⟩
  · go_wp2;refine bodyPost_ret (v:= .agg #[int u64 c]) (by simp [results,results171,go_sem]) rfl ⟨rfl,?_⟩;exact((((Below.refl _ _).alloc (Nat.le_refl _) _).alloc (by simp) _).alloc (by simp;omega) _).alloc (by simp;omega) _
  · go_wp2;refine bodyPost_ret (v:= .agg #[int u64 c]) (by simp [results,results171,go_sem]) rfl ⟨rfl,?_⟩;exact(((((Below.refl _ _).alloc (Nat.le_refl _) _).alloc (by simp) _).alloc (by simp;omega) _).alloc (by simp;omega) _).drew
theorem mnN_lt (a b d c:Int)(w:World)(h:a<b)(hd:IntKind.u64.wrap (a-b)=d)(hc:IntKind.u64.wrap (d+2305843010818082053)=c):
    Cr 174 #[.agg #[int u64 a],.agg #[int u64 b]] w (.agg #[int u64 c]):=by
  have hme:=mthN;have hf:=fldN;obtain⟨X,hX⟩:∃X,X=((w.alloc (Obj.cells #[int u64 a] 86)).alloc (Obj.cells #[int u64 b] 86)).alloc (Obj.cells #[int u64 0] 86):=⟨_,rfl⟩
  have hX0:X.heap[w.heap.size]? =some (.cells #[int u64 a] 86):=by
    rw [hX];exact(Below.heap_alloc _ _ _ (by simp;omega)).trans ((Below.heap_alloc _ _ _ (by simp)).trans (heap_alloc_new w _))
  have hp1:=prtN hX0;have hX1:(X.alloc (Obj.cells #[] 84)).heap[w.heap.size]? =some (.cells #[int u64 a] 86):=(Below.heap_alloc _ _ _ (Array.getElem?_eq_some_iff.1 hX0).1).trans hX0;have hp2:=prtN hX1;rw [hX] at hp1 hp2;clear hX hX0 hX1;go_enter func174,ntmps174;go_wp2_with fail;refine(vluN _).mono ?_;rintro e w' ⟨rfl,rfl⟩;go_wp2;refine bodyPost_ret (v:= .agg #[int u64 c]) (by simp [results,results174,go_sem]) rfl ⟨rfl,?_⟩;exact((((Below.refl _ _).alloc (Nat.le_refl _) _).alloc (by simp) _).alloc (by simp;omega) _).alloc (by simp;omega) _
theorem mnN_ge (a b d:Int)(w:World)(h:b≤a)(hd:IntKind.u64.wrap (a-b)=d):
    Cr 174 #[.agg #[int u64 a],.agg #[int u64 b]] w (.agg #[int u64 d]):=by
  have hme:=mthN;have hf:=fldN;have hlt: ¬ a<b:=by omega
  clear h;obtain⟨X,hX⟩:∃X,X=((w.alloc (Obj.cells #[int u64 a] 86)).alloc (Obj.cells #[int u64 b] 86)).alloc (Obj.cells #[int u64 0] 86):=⟨_,rfl⟩
  have hX0:X.heap[w.heap.size]? =some (.cells #[int u64 a] 86):=by
    rw [hX];exact(Below.heap_alloc _ _ _ (by simp;omega)).trans ((Below.heap_alloc _ _ _ (by simp)).trans (heap_alloc_new w _))
  have hp1:=prtN hX0;rw [hX] at hp1;clear hX hX0;go_enter func174,ntmps174;go_wp2;refine bodyPost_ret (v:= .agg #[int u64 d]) (by simp [results,results174,go_sem]) rfl ⟨rfl,?_⟩;exact(((Below.refl _ _).alloc (Nat.le_refl _) _).alloc (by simp) _).alloc (by simp;omega) _
theorem mnN_any (a b:Nat)(w:World)(ha:a<2305843010818082053)(hb:b<2305843010818082053):
    Cr 174 #[.agg #[int u64 a],.agg #[int u64 b]] w (.agg #[int u64 ((a+(2305843010818082053-b)%2305843010818082053)%2305843010818082053:Nat)]):=by
  by_cases h:a<b
  · have e:((a+(2305843010818082053-b)%2305843010818082053)%2305843010818082053:Nat)=a+2305843010818082053-b:=by
      rw [Nat.mod_eq_of_lt (show 2305843010818082053-b<2305843010818082053 by omega),Nat.mod_eq_of_lt (by omega)];omega
    rw [e];refine mnN_lt a b ((a:Int)-b+18446744073709551616) _ w (by omega) ?_ ?_
    · rw [IntKind.wrap_u64];omega
    · rw [IntKind.wrap_u64];omega
  · have e:((a+(2305843010818082053-b)%2305843010818082053)%2305843010818082053:Nat)=a-b:=by
      by_cases hb0:b=0
      · subst hb0;rw [Nat.sub_zero,Nat.mod_self,Nat.add_zero,Nat.mod_eq_of_lt ha,Nat.sub_zero]
      · rw [Nat.mod_eq_of_lt (show 2305843010818082053-b<2305843010818082053 by omega)];have:a+(2305843010818082053-b)=(a-b)+2305843010818082053:=by omega
        rw [this,Nat.add_mod_right,Nat.mod_eq_of_lt (by omega)]
    rw [e];refine mnN_ge a b _ w (by omega) ?_;rw [IntKind.wrap_u64];omega
def ctxB (k:Nat):ByteArray:=⟨#[84,79,89,80,82,70,45]⟩++(⟨#[48,49,50]⟩:ByteArray).extract k (k+1)++⟨#[45,77,54,49]⟩
theorem tagB_ctx (word:ByteArray)(k:Nat):tagB word k=word++ctxB k:=by
  unfold tagB ctxB;rw [←ByteArray.append_assoc,←ByteArray.append_assoc]
theorem ctxB_size (k:Nat)(h:k<3):(ctxB k).size=12:=by
  rcases(show k=0∨k=1∨k=2 by omega) with rfl|rfl|rfl<;>rfl
theorem smlI (k:Nat)(w:World)(hk:k<3):
    Calls prog 185 #[.int .i64 k] w fun e w'=>e= .returned (.string ((⟨#[48,49,50]⟩:ByteArray).extract k (k+1)))∧w=w':=by
  rcases(show k=0∨k=1∨k=2 by omega) with rfl|rfl|rfl
  · go_enter func185,ntmps185;go_wp2;go_ret;exact⟨congrArg (fun s=>Ending.returned (Value.string s)) (by kernel_rfl),rfl⟩
  · go_enter func185,ntmps185;go_wp2;go_ret;exact⟨congrArg (fun s=>Ending.returned (Value.string s)) (by kernel_rfl),rfl⟩
  · go_enter func185,ntmps185;go_wp2;go_ret;exact⟨congrArg (fun s=>Ending.returned (Value.string s)) (by kernel_rfl),rfl⟩
theorem fmtI_of (k:Int)(s:ByteArray)(w:World)(h0:0≤k)(h1:k<100)
    (L:∀w,Calls prog 185 #[.int .i64 k] w fun e w'=>e= .returned (.string s)∧w=w'):
    Calls prog 175 #[.int .i64 k,.int .i64 10] w fun e w'=>e= .returned (.string s)∧w=w':=by
  go_enter func175,ntmps175;go_wp2_with fail;refine(L _).mono ?_;rintro e w1 ⟨rfl,rfl⟩;go_wp2;go_ret;exact⟨rfl,rfl⟩
theorem itoI_of (k:Int)(s:ByteArray)(w:World)
    (L:∀w,Calls prog 175 #[.int .i64 k,.int .i64 10] w fun e w'=>e= .returned (.string s)∧w=w'):
    Calls prog 150 #[.int .i64 k] w fun e w'=>e= .returned (.string s)∧w=w':=by
  go_enter func150,ntmps150;go_wp2_with fail;refine(L _).mono ?_;rintro e w1 ⟨rfl,rfl⟩;go_wp2;go_ret;exact⟨rfl,rfl⟩
theorem itoP_of (k:Int)(s:ByteArray)(w:World)
    (L:∀w,Calls prog 150 #[.int .i64 k] w fun e w'=>e= .returned (.string s)∧w=w'):
    Calls prog 109 #[.int .i64 k] w fun e w'=>e= .returned (.string s)∧w=w':=by
  go_enter func109,ntmps109;go_wp2_with fail;refine(L _).mono ?_;rintro e w1 ⟨rfl,rfl⟩;go_wp2;go_ret;exact⟨rfl,rfl⟩
theorem ctxI_yes (k:Nat)(w:World)(hk:k<3):
    Calls prog 75 #[.int .i64 k] w fun e w'=>e= .returned (.tuple #[.string (ctxB k),.bool true])∧w=w':=by
  have L:=fun w=>itoP_of k _ w (fun w=>itoI_of k _ w (fun w=>fmtI_of k _ w (by omega) (by omega) (fun w=>smlI k w hk)))
  have hs:((⟨#[48,49,50]⟩:ByteArray).extract k (k+1)).size=1:=by
    rcases(show k=0∨k=1∨k=2 by omega) with rfl|rfl|rfl<;>rfl
  unfold ctxB;generalize (⟨#[48,49,50]⟩:ByteArray).extract k (k+1)=D at*;have g1: ¬ (k:Int)<0:=by omega
  have g2: ¬ (3:Int)≤(k:Int):=by omega
  have q1: ¬ (9223372036854775807<(ByteArray.mk #[84,79,89,80,82,70,45]).size+D.size):=by rw [hs];decide
  have q2: ¬ (9223372036854775807<(ByteArray.mk #[84,79,89,80,82,70,45]++D).size+(ByteArray.mk #[45,77,54,49]).size):=by rw [ByteArray.size_append,hs];decide
  go_enter func75,ntmps75;go_wp2_with fail;refine(L _).mono ?_;rintro e w1 ⟨rfl,rfl⟩;clear L hk;go_wp2;go_ret2;exact⟨rfl,rfl⟩
theorem ctxI_no (k:Int)(w:World)(hk: ¬ (0≤k∧k≤2)):
    Calls prog 75 #[.int .i64 k] w fun e w'=>e= .returned (.tuple #[.string ⟨#[]⟩,.bool false])∧w=w':=by
  by_cases h0:k<0
  · clear hk;go_enter func75,ntmps75;go_wp2;go_ret2;exact⟨rfl,rfl⟩
  · have g2:(3:Int)≤k:=by omega
    clear hk;go_enter func75,ntmps75;go_wp2;go_ret2;exact⟨rfl,rfl⟩
theorem tagI_any (c word:ByteArray)(w:World)(h1:c.size≤1000)(h2:word.size≤1000):
    Cr 123 #[.string c,.string word] w (.string (word++c)):=by
  go_enter func123,ntmps123;go_wp2;go_ret;exact⟨rfl,Below.refl _ _⟩
section
open M
def T3 (W:World)(b:Nat)(x y z:Int):Prop:=W.heap[b]? =some (.cells #[int u64 x,int u64 y,int u64 z] 156)
section
variable {W W':World}{b:Nat}{x y z:Int}
theorem T3.c0 (h:T3 W b x y z):W.cell? ⟨b,0,none⟩=some (int u64 x):=by unfold T3 at h;simp [World.cell?,h]
theorem T3.c1 (h:T3 W b x y z):W.cell? ⟨b,1,none⟩=some (int u64 y):=by unfold T3 at h;simp [World.cell?,h]
theorem T3.c2 (h:T3 W b x y z):W.cell? ⟨b,2,none⟩=some (int u64 z):=by unfold T3 at h;simp [World.cell?,h]
theorem T3.frz (h:T3 W b x y z)(i:Nat):W.frozen? ⟨b,i,none⟩=false:=by unfold T3 at h;simp [World.frozen?,h]
theorem T3.lt (h:T3 W b x y z):b<W.heap.size:=(Array.getElem?_eq_some_iff.1 h).1
theorem T3.below {N:Nat}(h:T3 W b x y z)(hb:Below N W W')(hl:b<N):T3 W' b x y z:=(hb.block b hl).trans h
theorem T3.keep (h:T3 W b x y z)(hb:Bl W W'):T3 W' b x y z:=h.below hb h.lt
theorem T3.new (w:World)(x y z:Int):T3 (w.alloc (.cells #[int u64 x,int u64 y,int u64 z] 156)) w.heap.size x y z:=heap_alloc_new w _
theorem T3.alloc (h:T3 W b x y z)(o:Obj):T3 (W.alloc o) b x y z:=(Below.heap_alloc W o b h.lt).trans h
theorem T3.drew (h:T3 W b x y z):T3 W.drew b x y z:=h
theorem T3.at {b':Nat}(h:T3 W b x y z)(e:b=b'):T3 W b' x y z:=e▸h
theorem T3.range (h:T3 W b x y z):W.rangeAt b 0 [int u64 x,int u64 y,int u64 z]:=fun j v hj=>by
  match j,hj with
  |0,hj=>cases hj;exact h.c0
  |1,hj=>cases hj;exact h.c1
  |2,hj=>cases hj;exact h.c2
def setT (W:World)(b:Nat)(x y z:Int):World:=((W.setCell ⟨b,0,none⟩ (int u64 x)).setCell ⟨b,1,none⟩ (int u64 y)).setCell ⟨b,2,none⟩ (int u64 z)
theorem T3.set (h:T3 W b x y z)(x' y' z':Int):T3 (setT W b x' y' z') b x' y' z':=by
  unfold T3 setT at*;simp [World.setCell,Array.getElem?_modify,h]
theorem T3.other {b':Nat}(h:T3 W b x y z)(hne:b≠b')(x' y' z':Int):T3 (setT W b' x' y' z') b x y z:=by
  unfold T3 setT at*;rw [←h];simp [World.setCell,Array.getElem?_modify,Ne.symm hne]
theorem setT_below {N:Nat}{w:World}(h:Below N w W)(hb:N≤b):Below N w (setT W b x y z):=
  ((h.setCell (p:=⟨b,0,none⟩) hb _).setCell (p:=⟨b,1,none⟩) hb _).setCell (p:=⟨b,2,none⟩) hb _
theorem trip_res {fn:Func}{p:Tmp}(h:fn.results=#[.cell p 156])(tmps:Array Value)(hp:tmps.getD p undef= .pointer (some ⟨b,0,none⟩))(hc:T3 W b x y z):
    (results fn tmps).run prog W= .ok (.agg #[int u64 x,int u64 y,int u64 z]) W:=
  results_mid h tmps W b 0 [int u64 x,int u64 y,int u64 z] _ hp hc.range underlying156 rfl (by kernel_rfl)
end
section
variable {ev:Operand→Value}{w:World}{dst:Option Tmp}{ty:TypeId}{ps:String}{af:Array Edge}{gd:Option (Nat×Bool)}{x y:Operand}{b i:Nat}
theorem exec_idx {k:Nat}(hk:k<3)(hx:ev x= .pointer (some ⟨b,0,none⟩))(hy:ev (.const (.int .i64 (k:Int)))= .int .i64 (k:Int)):
    (execOp ev (Opr dst (.indexAddr 156 x (.const (.int .i64 (k:Int)))) ty ps af gd)).run prog w= .ok (.value (.pointer (some ⟨b,k,none⟩))) w:=by
  have h1:(0:Int)≤(k:Int):=by omega
  have h2:(k:Int)<3:=by omega
  simp [execOp,hx,hy,h2,go_sem]
theorem exec_idxT {k:Nat}(hk:k<3)(hx:ev x= .pointer (some ⟨b,0,none⟩))(hy:ev y= .int .i64 (k:Int)):
    (execOp ev (Opr dst (.indexAddr 156 x y) ty ps af gd)).run prog w= .ok (.value (.pointer (some ⟨b,k,none⟩))) w:=by
  have h2:(k:Int)<3:=by omega
  simp [execOp,hx,hy,h2,go_sem]
theorem exec_loadT {X Y Z:Int}(hx:ev x= .pointer (some ⟨b,0,none⟩))(h0:w.cell? ⟨b,0,none⟩=some (int u64 X))(h1:w.cell? ⟨b,1,none⟩=some (int u64 Y))(h2:w.cell? ⟨b,2,none⟩=some (int u64 Z)):
    (execOp ev (Opr dst (.load 156 x) ty ps af gd)).run prog w= .ok (.value (.agg #[int u64 X,int u64 Y,int u64 Z])) w:=by
  simp [execOp,hx,h0,h1,h2,go_sem]
theorem exec_storeT {X Y Z X0 Y0 Z0:Int}(hx:ev x= .pointer (some ⟨b,0,none⟩))(hy:ev y= .agg #[int u64 X,int u64 Y,int u64 Z])(hr:T3 w b X0 Y0 Z0):
    (execOp ev (Opr dst (.store 156 x y) ty ps af gd)).run prog w= .ok .skip (setT w b X Y Z):=by
  have h1:=hr.c0;have h2:=hr.c1;have h3:=hr.c2;have h4:=hr.frz;simp [execOp,hx,hy,h1,h2,h3,h4,go_sem,setT]
theorem exec_build3 {x3:Operand}{X Y Z:Int}(hx:ev x= .agg #[int u64 X])(hy:ev y= .agg #[int u64 Y])(hz:ev x3= .agg #[int u64 Z]):
    (execOp ev (Opr dst (.build 156 #[(0,x),(1,y),(2,x3)]) ty ps af gd)).run prog w= .ok (.value (.agg #[int u64 X,int u64 Y,int u64 Z])) w:=by
  simp [execOp,hx,hy,hz,go_sem]
theorem cf_crossed (args:Array Value)(w:World):(callFunc 153 args).run prog w= .ok (.enter 153 args) w:=by kernel_rfl
end
section
variable {A:Act}{w W0:World}{dst:Option Tmp}{ty:TypeId}{ps:String}{af:Array Edge}{gd:Option (Nat×Bool)}{x y x3 x4:Operand}{b i:Nat}
theorem do_loadT {X Y Z:Int}(hx:A.eval x= .pointer (some ⟨b,0,none⟩))(hr:T3 W0 b X Y Z)(hB:Bl W0 w):
    Does prog (Opr dst (.load 156 x) ty ps af gd) A w fun v' w'=>v'= .agg #[int u64 X,int u64 Y,int u64 Z]∧Bl w w':=
  does_value (exec_loadT hx (hr.keep hB).c0 (hr.keep hB).c1 (hr.keep hB).c2) ⟨rfl,Below.refl _ _⟩
theorem do_idx {k:Nat}(hk:k<3)(hx:A.eval x= .pointer (some ⟨b,0,none⟩)):
    Does prog (Opr dst (.indexAddr 156 x (.const (.int .i64 (k:Int)))) ty ps af gd) A w fun v' w'=>v'= .pointer (some ⟨b,k,none⟩)∧Bl w w':=
  by
  have h:=exec_idx (ev:=A.eval) (w:=w) (dst:=dst) (ty:=ty) (ps:=ps) (af:=af) (gd:=gd) hk hx rfl;exact does_value h ⟨rfl,Below.refl _ _⟩
theorem do_idxT {k:Nat}(hk:k<3)(hx:A.eval x= .pointer (some ⟨b,0,none⟩))(hy:A.eval y= .int .i64 (k:Int)):
    Does prog (Opr dst (.indexAddr 156 x y) ty ps af gd) A w fun v' w'=>v'= .pointer (some ⟨b,k,none⟩)∧Bl w w':=by
  have h:=exec_idxT (ev:=A.eval) (w:=w) (dst:=dst) (ty:=ty) (ps:=ps) (af:=af) (gd:=gd) hk hx hy;exact does_value h ⟨rfl,Below.refl _ _⟩
theorem do_build {X Y Z:Int}(hx:A.eval x= .agg #[int u64 X])(hy:A.eval y= .agg #[int u64 Y])(hz:A.eval x3= .agg #[int u64 Z]):
    Does prog (Opr dst (.build 156 #[(0,x),(1,y),(2,x3)]) ty ps af gd) A w fun v' w'=>v'= .agg #[int u64 X,int u64 Y,int u64 Z]∧Bl w w':=by
  have h:=exec_build3 (w:=w) (dst:=dst) (ty:=ty) (ps:=ps) (af:=af) (gd:=gd) hx hy hz;exact does_value h ⟨rfl,Below.refl _ _⟩
end
end
end Go.Proofs.YtmjniccfjffclaaGreatDoor
