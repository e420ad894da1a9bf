import Derived.Test.YtjmhmajfkdglnabGreatDoorMrg43
set_option linter.unusedVariables false
set_option maxRecDepth 100000
set_option maxHeartbeats 16000000
namespace Go.Proofs.YtjmhmajfkdglnabGreatDoor
open Go.Proofs.Tryz Go.RowKit
open Go.Value (int)
open Go.IntKind (u64)
section
open M
theorem fesI_len (a:Option Addr)(n cap:Nat)(a0 a1 a2 a3:Addr)(w:World)(hs:Sn w a0 a1 a2 a3)(hn:n<1∨200<n):
    Cr 73 #[.slice a n cap] w (.tuple #[.slice none 0 0,sen a0]):=by
  have g0:w.drew.cell? ⟨0,0,none⟩=_:=hs.c0;go_enter func73,ntmps73;by_cases h:n<1
  · obtain rfl:n=0:=by omega
    go_wp2
    refine G.pool_list (W:=w) [] [.val (sen a0),
        .val (.slice none 0 0),
        .val (sen a0)] [[],[],[17]] (fun f=> [(some 17,sen a0),(some 2,.slice none 0 0),(some 3,sen a0)]) (by kernel_rfl) (by kernel_rfl) (by kernel_rfl) (by kernel_rfl) (fun _=>by kernel_rfl) (G.last_of [] (fun F R hm=>by simp at hm) (fun ob ob' k hm=>by simp at hm) (fun b ob ob' hm=>by simp at hm)) (fun b ob ob' hm=>by simp at hm) ?_ ?_
    · intro ix hix
      match ix,hix with
      |0,_=>exact G.obv [] rfl rfl (fun A w _ hB=>ld_err rfl (hB.cell g0 (by simp)))
      |1,_=>exact G.obv [] rfl rfl (fun A w _ hB=>doV_assign rfl)
      |2,_=>exact G.obv [(17,sen a0)] rfl rfl (fun A w ⟨e0,_⟩ hB=>doV_assign e0)
      |ix+3,h=>exact absurd h (by simp)
    intro f W2 hS _ _ _ _;have hb:=(Below.refl _ w).drew.trans hS.below;clear hS g0;simp only [puts,List.foldl,Act.put,List.setIfInBounds_toArray,List.set_cons_zero,List.set_cons_succ];go_wp2;go_ret2;exact⟨rfl,hb⟩
  · have h1: ¬ (n:Int)<1:=by omega
    have h2:(200:Int)<(n:Int):=by omega
    clear h hn;go_wp2
    refine G.pool_list (W:=w) [] [.val (sen a0),
        .val (.slice none 0 0),
        .val (sen a0)] [[],[],[17]] (fun f=> [(some 17,sen a0),(some 2,.slice none 0 0),(some 3,sen a0)]) (by kernel_rfl) (by kernel_rfl) (by kernel_rfl) (by kernel_rfl) (fun _=>by kernel_rfl) (G.last_of [] (fun F R hm=>by simp at hm) (fun ob ob' k hm=>by simp at hm) (fun b ob ob' hm=>by simp at hm)) (fun b ob ob' hm=>by simp at hm) ?_ ?_
    · intro ix hix
      match ix,hix with
      |0,_=>exact G.obv [] rfl rfl (fun A w _ hB=>ld_err rfl (hB.cell g0 (by simp)))
      |1,_=>exact G.obv [] rfl rfl (fun A w _ hB=>doV_assign rfl)
      |2,_=>exact G.obv [(17,sen a0)] rfl rfl (fun A w ⟨e0,_⟩ hB=>doV_assign e0)
      |ix+3,h=>exact absurd h (by simp)
    intro f W2 hS _ _ _ _;have hb:=(Below.refl _ w).drew.trans hS.below;clear hS g0;simp only [puts,List.foldl,Act.put,List.setIfInBounds_toArray,List.set_cons_zero,List.set_cons_succ];go_wp2;go_ret2;exact⟨rfl,hb⟩
theorem fesI_any (ps:List Tri)(n g o cap:Nat)(a0 a1 a2 a3:Addr)(w:World)(hs:Sn w a0 a1 a2 a3)(hl:ps.length=n)(h1:1≤n)(hn:n≤200)(hp:Pts w g o ps):
    Calls prog 73 #[.slice (some ⟨g,o,none⟩) n cap] w fun e w'=>(∃v er,e= .returned (.tuple #[v,er])∧(ps.all elT=true→er= .nilIface∧w'.ownsRow w.heap.size 86 3 v n (cells3 (ps.map asT)))∧(ps.all elT=false→v= .slice none 0 0∧er=sen a0))∧Bl w w':=by
  obtain⟨R,hR⟩:∃R,Hid (R=ps.all elT):=⟨_,rfl⟩;rw [←hR.out];obtain⟨i0,hi,hz0,hz1,hz2⟩:=info_parts infoCP;obtain⟨CS,hCS⟩:∃CS,Hid (CS=fun j=>cells3 ((ps.take j).map asT)):=⟨_,rfl⟩
  have hst:Hid (∀j,j<n→∃t:Tri,ps[j]? =some t∧CS (j+1)=CS j++ [int u64 (px (asT t)),int u64 (py (asT t)),.bool (pb (asT t))]):=fun j hj=>by
    obtain⟨t,ht⟩:∃t,ps[j]? =some t:=⟨_,List.getElem?_eq_getElem (by omega)⟩;refine⟨t,ht,?_⟩;rw [hCS.out];simp only;rw [List.take_add_one,ht,List.map_append,cells3_app];rfl
  have hC0:CS 0= []:=by rw [hCS.out];rfl
  have hCn:Hid (CS n=cells3 (ps.map asT)):=by simp only [Hid];rw [hCS.out,←hl];simp
  have hl':Hid (ps.length=n):=hl;have k1: ¬ (n:Int)<1:=by omega
  have k2: ¬ (200:Int)<(n:Int):=by omega
  clear hCS hl;go_enter func73,ntmps73;go_wp2;clear k1 k2
  go_loopw [4,20] (fun ov iv wr=>∃j:Nat,j≤n∧iv= .int .i64 (j:Int)∧wr.ownsRow w.heap.size 86 3 ov j (CS j)∧Hid (∀i,i<j→∃t,ps[i]? =some t∧elT t=true)∧Bl w wr) (fun _ i _=>n-(intOf i).toNat)
  case atStart=>exact ⟨0,by omega,rfl,by rw [hC0];exact World.ownsRow_nil _ _ _ _,fun i hi=>by omega,Below.refl _ _⟩
  case round=>
    clear hC0;obtain⟨j,hj,rfl,hown,hall,hbl⟩:=hrel;have hsz:=hbl.size;by_cases hlt:j<n
    · have hli:(j:Int)<(n:Int):=by omega
      obtain⟨t,ht,hnx⟩:=hst.out j hlt;have pp:=hp.below hbl hp.lt;have c0:=pp.c0 j t ht;have c1:=pp.c1 j t ht;have c2:=pp.c2 j t ht;have F:=fun w' (hb:Bl w w')=>eleI_any t a0 a1 a2 a3 w' (hs.keep hb)
      have hmt:t∈ps:=List.mem_of_getElem? ht
      have hRt:Hid (elT t=false→R=false):=fun h=>by
        rw [hR.out];exact List.all_eq_false.2 ⟨t,hmt,by rw [h];decide⟩
      have hnxt:Hid (elT t=true→∀i,i<j+1→∃t,ps[i]? =some t∧elT t=true):=fun h i hi=>by
        by_cases hik:i=j
        · subst hik;exact⟨t,ht,h⟩
        · exact hall.out i (by omega)
      obtain⟨tx,ty,tc⟩:=t;dsimp only at c0 c1 c2 F;clear ht pp hmt hall;generalize elT (tx,ty,tc)=ot at*;generalize asT (tx,ty,tc)=q at*;unfold sen at*;go_wp2_with fail;have hal:=(hbl.alloc hbl.size (Obj.cells #[int u64 (tx:Int),int u64 (ty:Int),.bool tc] 25));refine(F _ hal).mono ?_;clear hal;rintro e w1 ⟨rfl,b1⟩
      cases ot with
      | false=>
        have hr:=hRt.out (by trivial);subst hr
        have hB1:Bl wr w1:=by
          have h1:=(balc wr (Obj.cells #[int u64 (tx:Int),int u64 (ty:Int),.bool tc] 25));exact h1.tr b1
        replace hbl:=hbl.tr hB1;replace hbl:=hbl.alloc hbl.size (Obj.cells #[int u64 0,int u64 0,.bool true] 86);clear hRt hnxt hown F c0 c1 c2 b1 hB1;go_wp2;go_ret2
        first|exact ⟨rfl,hbl⟩|exact ⟨⟨rfl,rfl⟩,hbl⟩
      | true=>
        have hB1:Bl wr (w1.alloc (Obj.cells #[int u64 (px q),int u64 (py q),.bool (pb q)] 86)):=by
          have h1:=(balc wr (Obj.cells #[int u64 (tx:Int),int u64 (ty:Int),.bool tc] 25));have h2:=h1.tr b1;exact h2.alloc h2.size _
        replace hown:=below_own3 hown hB1;replace hbl:=hbl.tr hB1;have hsz1:w.heap.size≤w1.heap.size+1:=by have:=hbl.size;simpa using this
        have hn2:Hid (∀i,i<j+1→∃t,ps[i]? =some t∧elT t=true):=hnxt.out (by trivial);clear hRt hnxt F c0 c1 c2 b1 hB1
        go_wp2_with (first
          |(at_builtin;refine wpList_append_ow rfl _ _ 87 rfl w.heap.size 86 i0 (.agg #[int u64 0,int u64 0,.bool false]) 3 24 underlying87 hi hz0 hz1 hz2 rfl (by decide) _ j (CS j) rfl (hown.alloc _) ⟨w1.heap.size+1,0,none⟩ 1 1 [int u64 (px q),int u64 (py q),.bool (pb q)] rfl rfl (World.news_of_block (cs:=#[int u64 (px q),int u64 (py q),.bool (pb q)]) (by have:=heap_alloc_new (w1.alloc (Obj.cells #[int u64 (px q),int u64 (py q),.bool (pb q)] 86)) (Obj.cells #[int u64 (px q),int u64 (py q),.bool (pb q)] 86);simpa using this)) (by simp [Value.oneCell']) (by decide) (by unfold maxLen;omega) (by omega) (by simp;omega) ?_;intro g2 cap2 w2 hown2 hgr2 hg2)
          |go_in)
        have R1:w2.ownsRow w.heap.size 86 3 (.slice (some ⟨g2,0,none⟩) (j+1) cap2) (j+1) (CS (j+1)):=by rw [hnx];exact hown2
        have R2:Bl w w2:=(hbl.alloc hbl.size _).grown hgr2 (by simp;omega) (fun r hr=>(hown.lt r hr).1);clear hown hown2 hgr2 hbl;go_wp2;go_roundw
        case rel=>
          first
            |exact ⟨j+1,by omega,by go_num,R1,hn2,R2⟩
            |((repeat apply Exists.intro);exact⟨⟨j+1,by omega,by go_num,R1,hn2,R2⟩,rfl⟩)
        case measure=>simp [intOf];omega
    · obtain rfl:j=n:=by omega
      have hr:R=true:=by
        rw [hR.out,List.all_eq_true];intro t ht;obtain⟨i,hi⟩:=List.getElem?_of_mem ht;obtain⟨t',h',h''⟩:=hall.out i (by have:=(List.getElem?_eq_some_iff.1 hi).1;have:=hl'.out;omega);rw [hi] at h';cases h';exact h''
      subst hr;rw [hCn.out] at hown;clear hall hR hst hCn hl';go_wp2;go_ret2;exact⟨⟨_,_,rfl,rfl,hown⟩,hbl⟩
theorem eveI_of (Φ:Value→World→Prop)(mode key r s c' s':Int)(info cx:ByteArray)(g n cap:Nat)(cs L:List Pt)(F0 F1 F2 F3 F4 F5 F6:FuncId)(T:TypeId)(z:Value)(a0 a1 a2 a3:Addr)(w:World)(hs:Sn w a0 a1 a2 a3)(hcf:∀(args:Array Value) (w:World),(callFunc F1 args).run prog w= .ok (.enter F1 args) w)
    (H:((∀w',Φ (.tuple #[.agg #[.slice none 0 0,int u64 0,int u64 0],.iface T z]) w')∧(Cb w 67 #[.int .i64 mode,.string info] (.tuple #[.agg #[.string ⟨#[]⟩,.string ⟨#[]⟩,.nilFunc,.nilFunc,.nilFunc,.nilFunc,.nilFunc,.nilFunc,.nilFunc],.iface T z])))∨
      ((Cb w 67 #[.int .i64 mode,.string info] (.tuple #[.agg #[.string cx,.string info,.func (.func F0) #[] #[],.func (.func F1) #[] #[],.func (.func F2) #[] #[],.func (.func F3) #[] #[],.func (.func F4) #[] #[],.func (.func F5) #[] #[],.func (.func F6) #[] #[]],.nilIface]))∧(((∀w',Φ (.tuple #[.agg #[.slice none 0 0,int u64 0,int u64 0],flt ⟨#[107,101,121]⟩ (sen a0)]) w')∧(Cb w 69 #[int u64 key] (.tuple #[.agg #[int u64 0],sen a0])))∨
      ((Cb w 69 #[int u64 key] (.tuple #[.agg #[int u64 key],.nilIface]))∧(((∀w',Φ (.tuple #[.agg #[.slice none 0 0,int u64 0,int u64 0],flt ⟨#[101,108,101,109,101,110,116,115]⟩ (sen a0)]) w')∧(Cb w 73 #[.slice (some ⟨g,0,none⟩) n cap] (.tuple #[.slice none 0 0,sen a0])))∨
      ((∀w',Bl w w'→Calls prog 73 #[.slice (some ⟨g,0,none⟩) n cap] w' fun e w''=>∃g1 k1,e= .returned (.tuple #[.slice (some ⟨g1,0,none⟩) n k1,.nilIface])∧Cps w'' g1 cs∧Bl w' w'')∧(((∀w',Φ (.tuple #[.agg #[.slice none 0 0,int u64 0,int u64 0],flt ⟨#[114]⟩ (sen a0)]) w')∧(Cc 50 #[int u64 r,.agg #[]] (.tuple #[.agg #[int u64 0],.bool false])))∨
      ((Cc 50 #[int u64 r,.agg #[]] (.tuple #[.agg #[int u64 r],.bool true]))∧(((∀w',Φ (.tuple #[.agg #[.slice none 0 0,int u64 0,int u64 0],flt ⟨#[107,101,121,32,97,110,100,32,105,110,102,111]⟩ (sen a2)]) w')∧(Cb w F1 #[.agg #[.string cx,.string info],.agg #[int u64 key]] (.tuple #[.agg #[int u64 s],sen a2])))∨
      ((Cb w F1 #[.agg #[.string cx,.string info],.agg #[int u64 key]] (.tuple #[.agg #[int u64 s],.nilIface]))∧((∀w' v,w'.ownsRow w.heap.size 25 3 v n (cells3 L)→Φ (.tuple #[.agg #[v,int u64 c',int u64 s'],.nilIface]) w')∧(∀w' g1 k1,Bl w w'→Cps w' g1 cs→Calls prog 74 #[.agg #[.string cx,.string info,.func (.func F0) #[] #[],.func (.func F1) #[] #[],.func (.func F2) #[] #[],.func (.func F3) #[] #[],.func (.func F4) #[] #[],.func (.func F5) #[] #[],.func (.func F6) #[] #[]],.agg #[int u64 s],.slice (some ⟨g1,0,none⟩) n k1,.agg #[int u64 r]] w' fun e w''=>∃v,e= .returned (.agg #[v,int u64 c',int u64 s'])∧w''.ownsRow w.heap.size 25 3 v n (cells3 L)∧Bl w' w'')))))))))))):
    Calls prog 40 #[.int .i64 mode,int u64 key,.string info,.slice (some ⟨g,0,none⟩) n cap,int u64 r] w fun e w'=>∃V,e= .returned V∧Φ V w'∧Bl w w':=by
  unfold flt sen at*;have rA:=Bk.new w 41 #[.slice none 0 0,int u64 0,int u64 0];have hb:=balc w (Obj.cells #[.slice none 0 0,int u64 0,int u64 0] 41);go_enter func40,ntmps40;go_wp2_with fail;rcases H with ⟨hV,FP⟩|⟨FP,H⟩
  · refine(FP _ hb).mono ?_;rintro e w1 ⟨rfl,b1⟩;replace rA:=rA.keep b1;replace hb:=hb.tr b1;have hal:=balc w1 (Obj.cells #[.string ⟨#[]⟩,.string ⟨#[]⟩,.nilFunc,.nilFunc,.nilFunc,.nilFunc,.nilFunc,.nilFunc,.nilFunc] 125);replace rA:=rA.keep hal;replace hb:=hb.tr hal;clear hal;clear FP b1;have hth:=rA.there 3 (by simp);have mk1:=True.intro;go_wp2_with (clear mk1;refine wpList_store_mid rfl 41 _ _ rfl w.heap.size 0 #[.slice none 0 0,int u64 0,int u64 0] rfl rfl hth sizeEvd (by kernel_rfl) ?_);exact bodyPost_ret (v:= .tuple #[.agg #[.slice none 0 0,int u64 0,int u64 0],.iface T z]) (bk_res2 (fn:=Tryz.f40) (p:=10) (u:=11) results40 _ rfl (rA.sets _ rfl) underlying41 rfl sizeEvd) rfl ⟨_,rfl,hV _,below_setCells hb (by omega) _ _⟩
  refine(FP _ hb).mono ?_;rintro e w1 ⟨rfl,b1⟩;have hal:=balc w1 (Obj.cells #[.string cx,.string info,.func (.func F0) #[] #[],.func (.func F1) #[] #[],.func (.func F2) #[] #[],.func (.func F3) #[] #[],.func (.func F4) #[] #[],.func (.func F5) #[] #[],.func (.func F6) #[] #[]] 125);have r12:=Bk.new w1 125 #[.string cx,.string info,.func (.func F0) #[] #[],.func (.func F1) #[] #[],.func (.func F2) #[] #[],.func (.func F3) #[] #[],.func (.func F4) #[] #[],.func (.func F5) #[] #[],.func (.func F6) #[] #[]];replace rA:=(rA.keep b1).keep hal;replace hb:=hb.tr b1;replace hb:=hb.tr hal;clear FP b1 hal;go_wp2_with fail;rcases H with ⟨hV,FF⟩|⟨FF,H⟩
  · refine(FF _ hb).mono ?_;rintro e w2 ⟨rfl,b1⟩;replace rA:=rA.keep b1;replace hb:=hb.tr b1;have hal:=balc w2 (Obj.cells #[int u64 0] 97);replace rA:=rA.keep hal;replace hb:=hb.tr hal;clear hal;clear FF b1;have hth:=rA.there 3 (by simp);have mk1:=True.intro;go_wp2_with (clear mk1;refine wpList_store_mid rfl 41 _ _ rfl w.heap.size 0 #[.slice none 0 0,int u64 0,int u64 0] rfl rfl hth sizeEvd (by kernel_rfl) ?_);exact bodyPost_ret (v:= .tuple #[.agg #[.slice none 0 0,int u64 0,int u64 0],flt ⟨#[107,101,121]⟩ (sen a0)]) (bk_res2 (fn:=Tryz.f40) (p:=10) (u:=11) results40 _ rfl (rA.sets _ rfl) underlying41 rfl sizeEvd) rfl ⟨_,rfl,hV _,below_setCells hb (by omega) _ _⟩
  refine(FF _ hb).mono ?_;rintro e w2 ⟨rfl,b1⟩;have hal:=balc w2 (Obj.cells #[int u64 key] 97);have r14:=Bk.new w2 97 #[int u64 key];replace rA:=(rA.keep b1).keep hal;replace r12:=(r12.keep b1).keep hal;replace hb:=hb.tr b1;replace hb:=hb.tr hal;clear FF b1 hal;go_wp2_with fail;rcases H with ⟨hV,FE⟩|⟨FE,H⟩
  · refine(FE _ hb).mono ?_;rintro e w3 ⟨rfl,b1⟩;replace rA:=rA.keep b1;replace hb:=hb.tr b1;clear FE b1;have hth:=rA.there 3 (by simp);have mk1:=True.intro;go_wp2_with (clear mk1;refine wpList_store_mid rfl 41 _ _ rfl w.heap.size 0 #[.slice none 0 0,int u64 0,int u64 0] rfl rfl hth sizeEvd (by kernel_rfl) ?_);exact bodyPost_ret (v:= .tuple #[.agg #[.slice none 0 0,int u64 0,int u64 0],flt ⟨#[101,108,101,109,101,110,116,115]⟩ (sen a0)]) (bk_res2 (fn:=Tryz.f40) (p:=10) (u:=11) results40 _ rfl (rA.sets _ rfl) underlying41 rfl sizeEvd) rfl ⟨_,rfl,hV _,below_setCells hb (by omega) _ _⟩
  refine(FE _ hb).mono ?_;rintro e w3 ⟨g1,k1,rfl,hC,b1⟩;replace rA:=rA.keep b1;replace r12:=r12.keep b1;replace r14:=r14.keep b1;replace hb:=hb.tr b1;clear FE b1;go_wp2_with fail;rcases H with ⟨hV,EX⟩|⟨EX,H⟩
  · refine(EX _).mono ?_;rintro e w4 ⟨rfl,b1⟩;replace rA:=rA.keep b1;replace hb:=hb.tr b1;have hal:=balc w4 (Obj.cells #[int u64 0] 97);replace rA:=rA.keep hal;replace hb:=hb.tr hal;clear hal;clear EX b1;go_wp2;generalize w4.alloc _=W4 at*;have g0:W4.drew.cell? ⟨0,0,none⟩=_:=(hs.keep hb).c0;have n0:0∉ [w.heap.size]:=fun h=>absurd (List.mem_singleton.1 h) (Nat.ne_of_lt (World.block_lt_of_cell? w _ hs.c0))
    have l1:w.heap.size<W4.drew.heap.size:=rA.lt
    refine G.pool_list (W:=W4) [w.heap.size] [.val (.agg #[.slice none 0 0,int u64 0,int u64 0]),
        .val (.iface 297 (.pointer (some a0))),
        .val (.agg #[.string ⟨#[114]⟩,.iface 297 (.pointer (some a0))]),
        .val (.iface 131 (.agg #[.string ⟨#[114]⟩,.iface 297 (.pointer (some a0))])),
        .set (w.heap.size) (.cells #[.slice none 0 0,int u64 0,int u64 0] 41) (.cells #[.slice none 0 0,int u64 0,int u64 0] 41),
        .val (.iface 131 (.agg #[.string ⟨#[114]⟩,.iface 297 (.pointer (some a0))]))] [[],[],[60],[61],[10,59],[62]] (fun f=> [(some 59,.agg #[.slice none 0 0,int u64 0,int u64 0]),(some 60,.iface 297 (.pointer (some a0))),(some 61,.agg #[.string ⟨#[114]⟩,.iface 297 (.pointer (some a0))]),(some 62,.iface 131 (.agg #[.string ⟨#[114]⟩,.iface 297 (.pointer (some a0))])),(none,undef),(some 11,.iface 131 (.agg #[.string ⟨#[114]⟩,.iface 297 (.pointer (some a0))]))]) (by kernel_rfl) (by kernel_rfl) (by kernel_rfl) (by kernel_rfl) (fun _=>by kernel_rfl) (G.last_of [.cells #[.slice none 0 0,int u64 0,int u64 0] 41] (fun F R hm=>by simp at hm) (fun ob ob' k hm=>by simp at hm) (fun b ob ob' hm=>by simp at hm;simp [hm])) (fun b ob ob' hm=>by simp at hm;obtain⟨rfl,rfl,-⟩:=hm;exact rA) ?_ ?_
    · intro ix hix
      match ix,hix with
      |0,_=>exact G.obv [] rfl rfl (fun A w _ hB=>bu0_evd)
      |1,_=>exact G.obv [] rfl rfl (fun A w _ hB=>ld_err rfl (hB.cell g0 n0))
      |2,_=>exact G.obv [(60,.iface 297 (.pointer (some a0)))] rfl rfl (fun A w ⟨e0,_⟩ hB=>bu_flt rfl e0)
      |3,_=>exact G.obv [(61,.agg #[.string ⟨#[114]⟩,.iface 297 (.pointer (some a0))])] rfl rfl (fun A w ⟨e0,_⟩ hB=>mi_flt e0)
      |4,_=>exact G.ob_set (fun f=> [(10,.pointer (some ⟨w.heap.size,0,none⟩)),(59,.agg #[.slice none 0 0,int u64 0,int u64 0])]) rfl rfl rfl (by simp) l1 (fun j ob1 ob2 h=>by (rcases j with _|_|_|_|_|_|j)<;>simp [G.kindOf] at h⊢ <;>omega) (fun _=>by kernel_rfl) (fun f A w ⟨e0,e1,_⟩ hh hr=>pu_any e0 e1 hr rfl size_evd (by kernel_rfl))
      |5,_=>exact G.obv [(62,.iface 131 (.agg #[.string ⟨#[114]⟩,.iface 297 (.pointer (some a0))]))] rfl rfl (fun A w ⟨e0,_⟩ hB=>doV_assign e0)
      |ix+6,h=>exact absurd h (by simp)
    intro f W5 hS _ _ _ hset;have q1:Bk W5 41 w.heap.size #[.slice none 0 0,int u64 0,int u64 0]:=hset 4 _ _ _ rfl (by decide);have hb5:Bl w W5:=hS.under hb.drew (by intro b h;rw [List.mem_singleton.1 h];omega) hb.size;clear hset hS g0;simp only [puts,List.foldl,Act.put,List.setIfInBounds_toArray,List.set_cons_zero,List.set_cons_succ];go_wp2;exact bodyPost_ret (v:= .tuple #[.agg #[.slice none 0 0,int u64 0,int u64 0],flt ⟨#[114]⟩ (sen a0)]) (bk_res2 (fn:=Tryz.f40) (p:=10) (u:=11) results40 _ rfl q1 underlying41 rfl sizeEvd) rfl ⟨_,rfl,hV _,hb5⟩
  refine(EX _).mono ?_;rintro e w4 ⟨rfl,b1⟩;have hal:=balc w4 (Obj.cells #[int u64 r] 97);have r16:=Bk.new w4 97 #[int u64 r];replace rA:=(rA.keep b1).keep hal;replace r12:=(r12.keep b1).keep hal;replace r14:=(r14.keep b1).keep hal;replace hC:=(hC.keep b1).keep hal;replace hb:=hb.tr b1;replace hb:=hb.tr hal;clear EX b1 hal;have r12c0:=r12.cell (k:=0) rfl;have r12c1:=r12.cell (k:=1) rfl;have r12c3:=r12.cell (k:=3) rfl;have r14c0:=r14.cell (k:=0) rfl;go_wp2_with fail;rcases H with ⟨hV,SE⟩|⟨SE,H⟩
  · refine(SE _ hb).mono ?_;rintro e w5 ⟨rfl,b1⟩;replace rA:=rA.keep b1;replace hb:=hb.tr b1;have hal:=balc w5 (Obj.cells #[int u64 s] 97);replace rA:=rA.keep hal;replace hb:=hb.tr hal;clear hal;clear SE b1 r12c0 r12c1 r12c3 r14c0;have hth:=rA.there 3 (by simp);have mk1:=True.intro;go_wp2_with (clear mk1;refine wpList_store_mid rfl 41 _ _ rfl w.heap.size 0 #[.slice none 0 0,int u64 0,int u64 0] rfl rfl hth sizeEvd (by kernel_rfl) ?_);exact bodyPost_ret (v:= .tuple #[.agg #[.slice none 0 0,int u64 0,int u64 0],flt ⟨#[107,101,121,32,97,110,100,32,105,110,102,111]⟩ (sen a2)]) (bk_res2 (fn:=Tryz.f40) (p:=10) (u:=11) results40 _ rfl (rA.sets _ rfl) underlying41 rfl sizeEvd) rfl ⟨_,rfl,hV _,below_setCells hb (by omega) _ _⟩
  refine(SE _ hb).mono ?_;rintro e w5 ⟨rfl,b1⟩;have hal:=balc w5 (Obj.cells #[int u64 s] 97);have r18:=Bk.new w5 97 #[int u64 s];replace rA:=(rA.keep b1).keep hal;replace r12:=(r12.keep b1).keep hal;replace r16:=(r16.keep b1).keep hal;replace hC:=(hC.keep b1).keep hal;replace hb:=hb.tr b1;replace hb:=hb.tr hal;clear SE b1 hal r12c0 r12c1 r12c3 r14c0 r14;obtain⟨hV,VE⟩:=H;have r12c0:=r12.cell (k:=0) rfl;have r12c1:=r12.cell (k:=1) rfl;have r12c2:=r12.cell (k:=2) rfl;have r12c3:=r12.cell (k:=3) rfl;have r12c4:=r12.cell (k:=4) rfl;have r12c5:=r12.cell (k:=5) rfl;have r12c6:=r12.cell (k:=6) rfl;have r12c7:=r12.cell (k:=7) rfl;have r12c8:=r12.cell (k:=8) rfl;have r16c0:=r16.cell (k:=0) rfl;have r18c0:=r18.cell (k:=0) rfl;go_wp2_with fail;refine(VE _ g1 k1 hb hC).mono ?_;rintro e w6 ⟨v,rfl,hown,b1⟩;replace rA:=rA.keep b1;replace hb:=hb.tr b1;clear VE b1 hC r12 r16 r18 r12c0 r12c1 r12c2 r12c3 r12c4 r12c5 r12c6 r12c7 r12c8 r16c0 r18c0;have hth:=rA.there 3 (by simp);have mk1:=True.intro;go_wp2_with (clear mk1;refine wpList_store_mid rfl 41 _ _ rfl w.heap.size 0 #[v,int u64 c',int u64 s'] rfl rfl hth sizeEvd (onev hown _ _) ?_);exact bodyPost_ret (v:= .tuple #[.agg #[v,int u64 c',int u64 s'],.nilIface]) (bk_res2 (fn:=Tryz.f40) (p:=10) (u:=11) results40 _ rfl (rA.sets _ rfl) underlying41 rfl sizeEvd) rfl ⟨_,rfl,hV _ _ (own_sets hown (own_ne_bk hown rA (by decide)) 0 _),below_setCells hb (by omega) _ _⟩
theorem ansE_ok (a:Option Addr)(n k:Nat)(c s:Int)(w:World):
    Cr 39 #[.agg #[.slice a n k,int u64 c,int u64 s],.nilIface] w (.tuple #[.agg #[.slice a n k,int u64 c,int u64 s],.int .i64 0]):=by
  obtain⟨X,hX⟩:∃X,X=(w.alloc (Obj.cells #[.slice a n k,int u64 c,int u64 s] 41)).alloc (Obj.cells #[.slice none 0 0,int u64 0,int u64 0] 41):=⟨_,rfl⟩;have r2:Bk X 41 w.heap.size #[.slice a n k,int u64 c,int u64 s]:=by rw [hX];exact(Bk.new _ _ _).alloc _
  have r4:Bk X 41 (w.heap.size+1) #[.slice none 0 0,int u64 0,int u64 0]:=by rw [hX];exact(Bk.new _ _ _).at (by simp)
  have hb:Bl w X:=by rw [hX];exact((Below.refl _ w).alloc (Nat.le_refl _) _).alloc (by simp) _
  rw [hX] at r2 r4 hb;clear hX;have z0:=r2.cell (k:=0) rfl;have z1:=r2.cell (k:=1) rfl;have z2:=r2.cell (k:=2) rfl;have hth:=r4.there 3 (by simp);have mk1:=True.intro;go_enter func39,ntmps39;go_wp2_with (clear mk1;refine wpList_store_mid rfl 41 _ _ rfl (w.heap.size+1) 0 #[.slice a n k,int u64 c,int u64 s] rfl rfl hth sizeEvd (by kernel_rfl) ?_);exact bodyPost_ret (v:= .tuple #[.agg #[.slice a n k,int u64 c,int u64 s],.int .i64 0]) (bk_res2 (fn:=Tryz.f39) (p:=4) (u:=5) results39 _ rfl (r4.sets _ rfl) underlying41 rfl sizeEvd) rfl ⟨rfl,below_setCells hb (by omega) _ _⟩
theorem ansE_err (cd:Int)(v:Value)(a0 a1 a2 a3:Addr)(w:World)(hs:Sn w a0 a1 a2 a3)(hv:Er a0 a1 a2 a3 v cd):
    Cr 39 #[.agg #[.slice none 0 0,int u64 0,int u64 0],v] w (.tuple #[.agg #[.slice none 0 0,int u64 0,int u64 0],.int .i64 cd]):=by
  obtain⟨⟨T,x,rfl⟩,C⟩:=hv;obtain⟨X,hX⟩:∃X,X=((w.alloc (Obj.cells #[.slice none 0 0,int u64 0,int u64 0] 41)).alloc (Obj.cells #[.slice none 0 0,int u64 0,int u64 0] 41)).alloc (Obj.cells #[.slice none 0 0,int u64 0,int u64 0] 41):=⟨_,rfl⟩;have r4:Bk X 41 (w.heap.size+1) #[.slice none 0 0,int u64 0,int u64 0]:=by rw [hX];exact((Bk.new _ _ _).at (by simp)).alloc _
  have r6:Bk X 41 (w.heap.size+1+1) #[.slice none 0 0,int u64 0,int u64 0]:=by rw [hX];exact(Bk.new _ _ _).at (by simp)
  have hb:Bl w X:=by rw [hX];exact(((Below.refl _ w).alloc (Nat.le_refl _) _).alloc (by simp) _).alloc (by simp;omega) _
  go_enter func39,ntmps39;go_wp2;rw [←hX];clear hX;have d0:X.drew.cell? ⟨w.heap.size+1+1,0,none⟩=_:=r6.cell (k:=0) rfl;have d1:X.drew.cell? ⟨w.heap.size+1+1,1,none⟩=_:=r6.cell (k:=1) rfl;have d2:X.drew.cell? ⟨w.heap.size+1+1,2,none⟩=_:=r6.cell (k:=2) rfl;have n0:w.heap.size+1+1∉ [w.heap.size+1]:=fun h=>absurd (List.mem_singleton.1 h) (by omega)
  have l1:w.heap.size+1<X.drew.heap.size:=r4.lt;have C':∀w',G.Sides [w.heap.size+1] X.drew w'→Cr 66 #[.iface T x] w' (.int .i64 cd):=fun w' h=>C w' (hs.keep (h.under hb.drew (by intro b hm;rw [List.mem_singleton.1 hm];omega) hb.size))
  refine G.pool_list (W:=X) [w.heap.size+1] [.val (.agg #[.slice none 0 0,int u64 0,int u64 0]),
      .val (.iface T x),
      .val (.int .i64 cd),
      .set (w.heap.size+1) (.cells #[.slice none 0 0,int u64 0,int u64 0] 41) (.cells #[.slice none 0 0,int u64 0,int u64 0] 41),
      .val (.int .i64 cd)] [[6],[1],[11],[4,10],[12]] (fun f=> [(some 10,.agg #[.slice none 0 0,int u64 0,int u64 0]),(some 11,.iface T x),(some 12,.int .i64 cd),(none,undef),(some 5,.int .i64 cd)]) (by kernel_rfl) (by kernel_rfl) (by kernel_rfl) (by kernel_rfl) (fun _=>by kernel_rfl) (G.last_of [.cells #[.slice none 0 0,int u64 0,int u64 0] 41] (fun F R hm=>by simp at hm) (fun ob ob' k hm=>by simp at hm) (fun b ob ob' hm=>by simp at hm;simp [hm])) (fun b ob ob' hm=>by simp at hm;obtain⟨rfl,rfl,-⟩:=hm;exact r4) ?_ ?_
  · intro ix hix
    match ix,hix with
    |0,_=>exact G.obv [(6,.pointer (some ⟨w.heap.size+1+1,0,none⟩))] rfl rfl (fun A w ⟨e0,_⟩ hB=>ld_evd e0 (hB.cell d0 n0) (hB.cell d1 n0) (hB.cell d2 n0))
    |1,_=>exact G.obv [(1,.iface T x)] rfl rfl (fun A w ⟨e0,_⟩ hB=>doV_move e0)
    |2,_=>exact G.obv [(11,.iface T x)] rfl rfl (fun A w ⟨e0,_⟩ hB=>cl1 cf_impl_codeOf e0 (C' w hB))
    |3,_=>exact G.ob_set (fun f=> [(4,.pointer (some ⟨w.heap.size+1,0,none⟩)),(10,.agg #[.slice none 0 0,int u64 0,int u64 0])]) rfl rfl rfl (by simp) l1 (fun j ob1 ob2 h=>by (rcases j with _|_|_|_|_|j)<;>simp [G.kindOf] at h⊢ <;>omega) (fun _=>by kernel_rfl) (fun f A w ⟨e0,e1,_⟩ hh hr=>pu_any e0 e1 hr rfl size_evd (by kernel_rfl))
    |4,_=>exact G.obv [(12,.int .i64 cd)] rfl rfl (fun A w ⟨e0,_⟩ hB=>doV_assign e0)
    |ix+5,h=>exact absurd h (by simp)
  intro f W3 hS _ _ _ hset;have q1:Bk W3 41 (w.heap.size+1) #[.slice none 0 0,int u64 0,int u64 0]:=hset 3 _ _ _ rfl (by decide);have hb3:Bl w W3:=hS.under hb.drew (by intro b h;rw [List.mem_singleton.1 h];omega) hb.size;clear hset hS d0 d1 d2;simp only [puts,List.foldl,Act.put,List.setIfInBounds_toArray,List.set_cons_zero,List.set_cons_succ];go_wp2;exact bodyPost_ret (v:= .tuple #[.agg #[.slice none 0 0,int u64 0,int u64 0],.int .i64 cd]) (bk_res2 (fn:=Tryz.f39) (p:=4) (u:=5) results39 _ rfl q1 underlying41 rfl sizeEvd) rfl ⟨rfl,hb3⟩
theorem evlE_of (Ψ:Value→World→Prop)(mode key r c s cd:Int)(info:ByteArray)(g n cap m:Nat)(L:List Pt)(er:Value)(w:World)
    (hst:∀v w' w'',Ψ v w'→Bl w' w''→Ψ v w'')(hO:∀v w',Ψ v w'→w'.ownsRow w.heap.size 25 3 v m (cells3 L))
    (BI:∀w',Bl w w'→Calls prog 40 #[.int .i64 mode,int u64 key,.string info,.slice (some ⟨g,0,none⟩) n cap,int u64 r] w' fun e w''=>∃V,e= .returned V∧(∃v,V= .tuple #[.agg #[v,int u64 c,int u64 s],er]∧Ψ v w'')∧Bl w' w'')
    (AN:∀w' v,Bl w w'→Ψ v w'→Cr 39 #[.agg #[v,int u64 c,int u64 s],er] w' (.tuple #[.agg #[v,int u64 c,int u64 s],.int .i64 cd])):
    Calls prog 13 #[.int .i64 mode,int u64 key,.string info,.slice (some ⟨g,0,none⟩) n cap,int u64 r] w fun e w'=>∃v,e= .returned (.tuple #[.agg #[v,int u64 c,int u64 s],.int .i64 cd])∧w'.ownsRow w.heap.size 25 3 v m (cells3 L)∧Bl w w'∧∃w2,Ψ v w2:=by
  have rA:=Bk.new w 41 #[.slice none 0 0,int u64 0,int u64 0];have hb:=balc w (Obj.cells #[.slice none 0 0,int u64 0,int u64 0] 41);go_enter func13,ntmps13;go_wp2_with fail;refine(BI _ hb).mono ?_;rintro e w1 ⟨V,rfl,⟨v,rfl,hψ⟩,b1⟩;replace rA:=rA.keep b1;replace hb:=hb.tr b1;clear BI b1;go_wp2_with fail;refine(AN _ v hb hψ).mono ?_;rintro e w2 ⟨rfl,b1⟩;replace rA:=rA.keep b1;have hψ2:=hst v _ _ hψ b1;have hown:=hO v w2 hψ2;replace hb:=hb.tr b1;clear AN b1 hψ hst hO;have hth:=rA.there 3 (by simp);have mk1:=True.intro;go_wp2_with (clear mk1;refine wpList_store_mid rfl 41 _ _ rfl w.heap.size 0 #[v,int u64 c,int u64 s] rfl rfl hth sizeEvd (onev hown _ _) ?_);exact bodyPost_ret (v:= .tuple #[.agg #[v,int u64 c,int u64 s],.int .i64 cd]) (bk_res2 (fn:=Tryz.f13) (p:=10) (u:=11) results13 _ rfl (rA.sets _ rfl) underlying41 rfl sizeEvd) rfl ⟨v,rfl,own_sets hown (own_ne_bk hown rA (by decide)) 0 _,below_setCells hb (by omega) _ _,w2,hψ2⟩
def zEvn:Array Value:=#[int u64 0,int u64 0,.bool false,int u64 0,int u64 0]
theorem bldEvn (x y a b:Int)(c:Bool)(w:World):(Instr.build 141 #[(0,.agg #[int u64 x,int u64 y,.bool c]),(1,.agg #[int u64 a]),(2,.agg #[int u64 b])]).run prog w= .ok (.agg #[int u64 x,int u64 y,.bool c,int u64 a,int u64 b]) w:=run_build w _ _ _ (by kernel_rfl)
section
variable (pc ps:Int)(a0 a1 a2 a3:Addr)(w:World)(hs:Sn w a0 a1 a2 a3)
include hs
theorem evlI_n (a:Option Addr)(n cap:Nat)(hn:((n:Int) !=1)=true):
    Cr 75 #[.agg #[.slice a n cap,int u64 pc,int u64 ps]] w (.tuple #[.agg zEvn,flt ⟨#[101,108,101,109,101,110,116,115]⟩ (sen a0)]):=by
  have hg0:0<w.heap.size:=World.block_lt_of_cell? w _ hs.c0;obtain⟨X,hX⟩:∃X,X=(w.alloc (Obj.cells #[.slice a n cap,int u64 pc,int u64 ps] 41)).alloc (Obj.cells #[int u64 0,int u64 0,.bool false,int u64 0,int u64 0] 141):=⟨_,rfl⟩;have r1:Bk X 41 w.heap.size #[.slice a n cap,int u64 pc,int u64 ps]:=by rw [hX];exact(Bk.new _ _ _).alloc _
  have hr:Bk X 141 (w.heap.size+1) #[int u64 0,int u64 0,.bool false,int u64 0,int u64 0]:=by rw [hX];exact(Bk.new _ _ _).at (by simp)
  have hb:Bl w X:=by rw [hX];exact((Below.refl _ w).alloc (Nat.le_refl _) _).alloc (by simp) _
  have c0:=r1.cell (k:=0) rfl;rw [hX] at c0;go_enter func75,ntmps75;go_wp2;rw [←hX];clear hX c0;have g0:X.drew.cell? ⟨0,0,none⟩=_:=(hs.keep hb).c0;have n0:0∉ [w.heap.size+1]:=fun h=>absurd (List.mem_singleton.1 h) (by omega)
  have l1:w.heap.size+1<X.drew.heap.size:=hr.lt
  refine G.pool_list (W:=X) [w.heap.size+1] [.val (.agg #[int u64 0,int u64 0,.bool false,int u64 0,int u64 0]),
      .val (sen a0),
      .val (.agg #[.string ⟨#[101,108,101,109,101,110,116,115]⟩,sen a0]),
      .val (.iface 131 (.agg #[.string ⟨#[101,108,101,109,101,110,116,115]⟩,sen a0])),
      .set (w.heap.size+1) (.cells #[int u64 0,int u64 0,.bool false,int u64 0,int u64 0] 141) (.cells #[int u64 0,int u64 0,.bool false,int u64 0,int u64 0] 141),
      .val (.iface 131 (.agg #[.string ⟨#[101,108,101,109,101,110,116,115]⟩,sen a0]))] [[],[],[15],[16],[2,14],[17]] (fun f=> [(some 14,.agg #[int u64 0,int u64 0,.bool false,int u64 0,int u64 0]),(some 15,sen a0),(some 16,.agg #[.string ⟨#[101,108,101,109,101,110,116,115]⟩,sen a0]),(some 17,.iface 131 (.agg #[.string ⟨#[101,108,101,109,101,110,116,115]⟩,sen a0])),(none,undef),(some 3,.iface 131 (.agg #[.string ⟨#[101,108,101,109,101,110,116,115]⟩,sen a0]))]) (by kernel_rfl) (by kernel_rfl) (by kernel_rfl) (by kernel_rfl) (fun _=>by kernel_rfl) (G.last_of [.cells #[int u64 0,int u64 0,.bool false,int u64 0,int u64 0] 141] (fun F R hm=>by simp at hm) (fun ob ob' k hm=>by simp at hm) (fun b ob ob' hm=>by simp at hm;simp [hm])) (fun b ob ob' hm=>by simp at hm;obtain⟨rfl,rfl,-⟩:=hm;exact hr) ?_ ?_
  · intro ix hix
    match ix,hix with
    |0,_=>exact G.obv [] rfl rfl (fun A w _ hB=>bu0_evn)
    |1,_=>exact G.obv [] rfl rfl (fun A w _ hB=>ld_err rfl (hB.cell g0 n0))
    |2,_=>exact G.obv [(15,sen a0)] rfl rfl (fun A w ⟨e0,_⟩ hB=>bu_flt rfl e0)
    |3,_=>exact G.obv [(16,.agg #[.string ⟨#[101,108,101,109,101,110,116,115]⟩,sen a0])] rfl rfl (fun A w ⟨e0,_⟩ hB=>mi_flt e0)
    |4,_=>exact G.ob_set (fun f=> [(2,.pointer (some ⟨w.heap.size+1,0,none⟩)),(14,.agg #[int u64 0,int u64 0,.bool false,int u64 0,int u64 0])]) rfl rfl rfl (by simp) l1 (fun j ob1 ob2 h=>by (rcases j with _|_|_|_|_|_|j)<;>simp [G.kindOf] at h⊢ <;>omega) (fun _=>by kernel_rfl) (fun f A w ⟨e0,e1,_⟩ hh hr=>pu_any e0 e1 hr rfl size_evn (by kernel_rfl))
    |5,_=>exact G.obv [(17,.iface 131 (.agg #[.string ⟨#[101,108,101,109,101,110,116,115]⟩,sen a0]))] rfl rfl (fun A w ⟨e0,_⟩ hB=>doV_assign e0)
    |ix+6,h=>exact absurd h (by simp)
  intro f W3 hS _ _ _ hset;have q1:Bk W3 141 (w.heap.size+1) zEvn:=hset 4 _ _ _ rfl (by decide);have hb3:Bl w W3:=hS.under hb.drew (by intro b h;rw [List.mem_singleton.1 h];omega) hb.size;clear hset hS g0;simp only [puts,List.foldl,Act.put,List.setIfInBounds_toArray,List.set_cons_zero,List.set_cons_succ];go_wp2;exact bodyPost_ret (v:= .tuple #[.agg zEvn,flt ⟨#[101,108,101,109,101,110,116,115]⟩ (sen a0)]) (bk_res2 (fn:=Tryz.f75) (p:=2) (u:=3) results75 _ rfl q1 underlying141 rfl size_evn) rfl ⟨rfl,hb3⟩
variable (g o cap:Nat)(x y:Int)(c:Bool)(e0:w.cell? ⟨g,o,none⟩=some (int u64 x))(e1:w.cell? ⟨g,o+1,none⟩=some (int u64 y))(e2:w.cell? ⟨g,o+2,none⟩=some (.bool c))
include e0 e1 e2
omit hs in
theorem evlI_e
    (EL:Cb w 68 #[.agg #[int u64 x,int u64 y,.bool c]] (.tuple #[.agg #[int u64 0,int u64 0,.bool true],sen a0])):
    Cr 75 #[.agg #[.slice (some ⟨g,o,none⟩) 1 cap,int u64 pc,int u64 ps]] w (.tuple #[.agg zEvn,flt ⟨#[101,108,101,109,101,110,116]⟩ (sen a0)]):=by
  unfold flt sen at*;obtain⟨X,hX⟩:∃X,X=(w.alloc (Obj.cells #[.slice (some ⟨g,o,none⟩) 1 cap,int u64 pc,int u64 ps] 41)).alloc (Obj.cells #[int u64 0,int u64 0,.bool false,int u64 0,int u64 0] 141):=⟨_,rfl⟩;have r1:Bk X 41 w.heap.size #[.slice (some ⟨g,o,none⟩) 1 cap,int u64 pc,int u64 ps]:=by rw [hX];exact(Bk.new _ _ _).alloc _
  have hr:Bk X 141 (w.heap.size+1) #[int u64 0,int u64 0,.bool false,int u64 0,int u64 0]:=by rw [hX];exact(Bk.new _ _ _).at (by simp)
  have hb:Bl w X:=by rw [hX];exact((Below.refl _ w).alloc (Nat.le_refl _) _).alloc (by simp) _
  have c0:=r1.cell (k:=0) rfl;have d0:=(hb.cell (p:=⟨g,o,none⟩) (World.block_lt_of_cell? w _ e0)).trans e0;have d1:=(hb.cell (p:=⟨g,o+1,none⟩) (World.block_lt_of_cell? w _ e1)).trans e1;have d2:=(hb.cell (p:=⟨g,o+2,none⟩) (World.block_lt_of_cell? w _ e2)).trans e2;rw [hX] at c0 d0 d1 d2 hb hr;clear hX r1 e0 e1 e2;go_enter func75,ntmps75;go_wp2_with fail;refine(EL _ hb).mono ?_;rintro e w1 ⟨rfl,b1⟩;have hal:=balc w1 (Obj.cells #[int u64 0,int u64 0,.bool true] 86);replace hr:=(hr.keep b1).keep hal;replace hb:=hb.tr b1;replace hb:=hb.tr hal;clear EL b1 hal c0 d0 d1 d2;have hth:=hr.there 5 (by decide);go_wp2_with (refine wpList_store_mid rfl 141 _ _ rfl (w.heap.size+1) 0 zEvn rfl rfl hth size_evn (by kernel_rfl) ?_);exact bodyPost_ret (v:= .tuple #[.agg zEvn,flt ⟨#[101,108,101,109,101,110,116]⟩ (sen a0)]) (bk_res2 (fn:=Tryz.f75) (p:=2) (u:=3) results75 _ rfl (hr.sets _ rfl) underlying141 rfl size_evn) rfl ⟨rfl,below_setCells hb (by omega) _ _⟩
variable (q:Pt)
    (EL:Cb w 68 #[.agg #[int u64 x,int u64 y,.bool c]] (.tuple #[.agg #[int u64 (px q),int u64 (py q),.bool (pb q)],.nilIface]))
include EL
theorem evlI_x (zc zs:Int)(o1 o2:Bool)
    (XC:Cc 50 #[int u64 pc,.agg #[]] (.tuple #[.agg #[int u64 zc],.bool o1]))
    (XS:Cc 50 #[int u64 ps,.agg #[]] (.tuple #[.agg #[int u64 zs],.bool o2])):
    Cr 75 #[.agg #[.slice (some ⟨g,o,none⟩) 1 cap,int u64 pc,int u64 ps]] w (if (o1&&o2)=true then .tuple #[.agg #[int u64 (px q),int u64 (py q),.bool (pb q),int u64 zc,int u64 zs],.nilIface] else .tuple #[.agg zEvn,flt ⟨#[112,114,111,111,102]⟩ (sen a0)]):=by
  obtain⟨V,hV⟩:∃V:Value,Hid (V=(if (o1&&o2)=true then .tuple #[.agg #[int u64 (px q),int u64 (py q),.bool (pb q),int u64 zc,int u64 zs],.nilIface] else .tuple #[.agg zEvn,flt ⟨#[112,114,111,111,102]⟩ (sen a0)])):=⟨_,rfl⟩;rw [←hV.out];have hg0:0<w.heap.size:=World.block_lt_of_cell? w _ hs.c0;have hB:=bldEvn (px q) (py q) zc zs (pb q);obtain⟨X,hX⟩:∃X,X=(w.alloc (Obj.cells #[.slice (some ⟨g,o,none⟩) 1 cap,int u64 pc,int u64 ps] 41)).alloc (Obj.cells #[int u64 0,int u64 0,.bool false,int u64 0,int u64 0] 141):=⟨_,rfl⟩;have r1:Bk X 41 w.heap.size #[.slice (some ⟨g,o,none⟩) 1 cap,int u64 pc,int u64 ps]:=by rw [hX];exact(Bk.new _ _ _).alloc _
  have hr:Bk X 141 (w.heap.size+1) #[int u64 0,int u64 0,.bool false,int u64 0,int u64 0]:=by rw [hX];exact(Bk.new _ _ _).at (by simp)
  have hb:Bl w X:=by rw [hX];exact((Below.refl _ w).alloc (Nat.le_refl _) _).alloc (by simp) _
  have c0:=r1.cell (k:=0) rfl;have d0:=(hb.cell (p:=⟨g,o,none⟩) (World.block_lt_of_cell? w _ e0)).trans e0;have d1:=(hb.cell (p:=⟨g,o+1,none⟩) (World.block_lt_of_cell? w _ e1)).trans e1;have d2:=(hb.cell (p:=⟨g,o+2,none⟩) (World.block_lt_of_cell? w _ e2)).trans e2;rw [hX] at c0 d0 d1 d2 hb hr r1;clear hX e0 e1 e2;go_enter func75,ntmps75;go_wp2_with fail;refine(EL _ hb).mono ?_;rintro e w1 ⟨rfl,b1⟩;have hal:=balc w1 (Obj.cells #[int u64 (px q),int u64 (py q),.bool (pb q)] 86);have r4:=Bk.new w1 86 #[int u64 (px q),int u64 (py q),.bool (pb q)];replace hr:=(hr.keep b1).keep hal;replace r1:=(r1.keep b1).keep hal;replace hb:=hb.tr b1;replace hb:=hb.tr hal;clear EL b1 hal c0 d0 d1 d2;have c1:=r1.cell (k:=1) rfl;go_wp2_with fail;refine(XC _).mono ?_;rintro e w2 ⟨rfl,b1⟩;have hal:=balc w2 (Obj.cells #[int u64 zc] 97);have r6:=Bk.new w2 97 #[int u64 zc];replace hr:=(hr.keep b1).keep hal;replace r1:=(r1.keep b1).keep hal;replace r4:=(r4.keep b1).keep hal;replace hb:=hb.tr b1;replace hb:=hb.tr hal;clear XC b1 hal c1;have c1:=r1.cell (k:=2) rfl;go_wp2_with fail;refine(XS _).mono ?_;rintro e w3 ⟨rfl,b1⟩;obtain⟨W4,hW4⟩:∃W4,W4=w3.alloc (Obj.cells #[int u64 zs] 97):=⟨_,rfl⟩;have hal:Bl w3 W4:=by rw [hW4];exact(Below.refl _ w3).alloc (Nat.le_refl _) _
  have r8:Bk W4 97 w3.heap.size #[int u64 zs]:=by rw [hW4];exact Bk.new _ _ _
  replace hr:=(hr.keep b1).keep hal;replace r4:=(r4.keep b1).keep hal;replace r6:=(r6.keep b1).keep hal;replace hb:=hb.tr b1;replace hb:=hb.tr hal;clear XS b1 hal c1 r1;by_cases h1:(o1&&o2)=true
  · have hV':Hid (V= .tuple #[.agg #[int u64 (px q),int u64 (py q),.bool (pb q),int u64 zc,int u64 zs],.nilIface]):=by unfold Hid;rw [hV.out,if_pos h1]
    obtain⟨rfl,rfl⟩:o1=true∧o2=true:=by simpa using h1
    clear h1;have q0:=r4.cell (k:=0) rfl;have q1:=r4.cell (k:=1) rfl;have q2:=r4.cell (k:=2) rfl;have q3:=r6.cell (k:=0) rfl;have q4:=r8.cell (k:=0) rfl;have hth:=hr.there 5 (by decide);rw [hW4] at q0 q1 q2 q3 q4 hth hr hb;go_wp2_with (refine wpList_store_mid rfl 141 _ _ rfl (w.heap.size+1) 0 #[int u64 (px q),int u64 (py q),.bool (pb q),int u64 zc,int u64 zs] rfl rfl hth size_evn (by kernel_rfl) ?_);exact bodyPost_ret (v:= .tuple #[.agg #[int u64 (px q),int u64 (py q),.bool (pb q),int u64 zc,int u64 zs],.nilIface]) (bk_res2 (fn:=Tryz.f75) (p:=2) (u:=3) results75 _ rfl (hr.sets _ rfl) underlying141 rfl size_evn) rfl ⟨by rw [hV'.out],below_setCells hb (by omega) _ _⟩
  · have hV':Hid (V= .tuple #[.agg zEvn,flt ⟨#[112,114,111,111,102]⟩ (sen a0)]):=by unfold Hid;rw [hV.out,if_neg h1]
    have fin:∀A:Act,True:=fun _=>trivial
    clear fin
    cases o1 with
    | false=>
      clear h1;go_wp2;rw [←hW4];clear hW4;have g0:W4.drew.cell? ⟨0,0,none⟩=_:=(hs.keep hb).c0;have n0:0∉ [w.heap.size+1]:=fun h=>absurd (List.mem_singleton.1 h) (by omega)
      have l1:w.heap.size+1<W4.drew.heap.size:=hr.lt
      refine G.pool_list (W:=W4) [w.heap.size+1] [.val (.agg #[int u64 0,int u64 0,.bool false,int u64 0,int u64 0]),
          .val (sen a0),
          .val (.agg #[.string ⟨#[112,114,111,111,102]⟩,sen a0]),
          .val (.iface 131 (.agg #[.string ⟨#[112,114,111,111,102]⟩,sen a0])),
          .set (w.heap.size+1) (.cells #[int u64 0,int u64 0,.bool false,int u64 0,int u64 0] 141) (.cells #[int u64 0,int u64 0,.bool false,int u64 0,int u64 0] 141),
          .val (.iface 131 (.agg #[.string ⟨#[112,114,111,111,102]⟩,sen a0]))] [[],[],[55],[56],[2,54],[57]] (fun f=> [(some 54,.agg #[int u64 0,int u64 0,.bool false,int u64 0,int u64 0]),(some 55,sen a0),(some 56,.agg #[.string ⟨#[112,114,111,111,102]⟩,sen a0]),(some 57,.iface 131 (.agg #[.string ⟨#[112,114,111,111,102]⟩,sen a0])),(none,undef),(some 3,.iface 131 (.agg #[.string ⟨#[112,114,111,111,102]⟩,sen a0]))]) (by kernel_rfl) (by kernel_rfl) (by kernel_rfl) (by kernel_rfl) (fun _=>by kernel_rfl) (G.last_of [.cells #[int u64 0,int u64 0,.bool false,int u64 0,int u64 0] 141] (fun F R hm=>by simp at hm) (fun ob ob' k hm=>by simp at hm) (fun b ob ob' hm=>by simp at hm;simp [hm])) (fun b ob ob' hm=>by simp at hm;obtain⟨rfl,rfl,-⟩:=hm;exact hr) ?_ ?_
      · intro ix hix
        match ix,hix with
        |0,_=>exact G.obv [] rfl rfl (fun A w _ hB=>bu0_evn)
        |1,_=>exact G.obv [] rfl rfl (fun A w _ hB=>ld_err rfl (hB.cell g0 n0))
        |2,_=>exact G.obv [(55,sen a0)] rfl rfl (fun A w ⟨e0,_⟩ hB=>bu_flt rfl e0)
        |3,_=>exact G.obv [(56,.agg #[.string ⟨#[112,114,111,111,102]⟩,sen a0])] rfl rfl (fun A w ⟨e0,_⟩ hB=>mi_flt e0)
        |4,_=>exact G.ob_set (fun f=> [(2,.pointer (some ⟨w.heap.size+1,0,none⟩)),(54,.agg #[int u64 0,int u64 0,.bool false,int u64 0,int u64 0])]) rfl rfl rfl (by simp) l1 (fun j ob1 ob2 h=>by (rcases j with _|_|_|_|_|_|j)<;>simp [G.kindOf] at h⊢ <;>omega) (fun _=>by kernel_rfl) (fun f A w ⟨e0,e1,_⟩ hh hr=>pu_any e0 e1 hr rfl size_evn (by kernel_rfl))
        |5,_=>exact G.obv [(57,.iface 131 (.agg #[.string ⟨#[112,114,111,111,102]⟩,sen a0]))] rfl rfl (fun A w ⟨e0,_⟩ hB=>doV_assign e0)
        |ix+6,h=>exact absurd h (by simp)
      intro f W5 hS _ _ _ hset;have q1:Bk W5 141 (w.heap.size+1) zEvn:=hset 4 _ _ _ rfl (by decide);have hb3:Bl w W5:=hS.under hb.drew (by intro b h;rw [List.mem_singleton.1 h];omega) hb.size;clear hset hS g0;simp only [puts,List.foldl,Act.put,List.setIfInBounds_toArray,List.set_cons_zero,List.set_cons_succ];go_wp2;exact bodyPost_ret (v:= .tuple #[.agg zEvn,flt ⟨#[112,114,111,111,102]⟩ (sen a0)]) (bk_res2 (fn:=Tryz.f75) (p:=2) (u:=3) results75 _ rfl q1 underlying141 rfl size_evn) rfl ⟨by rw [hV'.out],hb3⟩
    | true=>
      obtain rfl:o2=false:=by simpa using h1
      clear h1;go_wp2;rw [←hW4];clear hW4;have g0:W4.drew.cell? ⟨0,0,none⟩=_:=(hs.keep hb).c0;have n0:0∉ [w.heap.size+1]:=fun h=>absurd (List.mem_singleton.1 h) (by omega)
      have l1:w.heap.size+1<W4.drew.heap.size:=hr.lt
      refine G.pool_list (W:=W4) [w.heap.size+1] [.val (.agg #[int u64 0,int u64 0,.bool false,int u64 0,int u64 0]),
          .val (sen a0),
          .val (.agg #[.string ⟨#[112,114,111,111,102]⟩,sen a0]),
          .val (.iface 131 (.agg #[.string ⟨#[112,114,111,111,102]⟩,sen a0])),
          .set (w.heap.size+1) (.cells #[int u64 0,int u64 0,.bool false,int u64 0,int u64 0] 141) (.cells #[int u64 0,int u64 0,.bool false,int u64 0,int u64 0] 141),
          .val (.iface 131 (.agg #[.string ⟨#[112,114,111,111,102]⟩,sen a0]))] [[],[],[55],[56],[2,54],[57]] (fun f=> [(some 54,.agg #[int u64 0,int u64 0,.bool false,int u64 0,int u64 0]),(some 55,sen a0),(some 56,.agg #[.string ⟨#[112,114,111,111,102]⟩,sen a0]),(some 57,.iface 131 (.agg #[.string ⟨#[112,114,111,111,102]⟩,sen a0])),(none,undef),(some 3,.iface 131 (.agg #[.string ⟨#[112,114,111,111,102]⟩,sen a0]))]) (by kernel_rfl) (by kernel_rfl) (by kernel_rfl) (by kernel_rfl) (fun _=>by kernel_rfl) (G.last_of [.cells #[int u64 0,int u64 0,.bool false,int u64 0,int u64 0] 141] (fun F R hm=>by simp at hm) (fun ob ob' k hm=>by simp at hm) (fun b ob ob' hm=>by simp at hm;simp [hm])) (fun b ob ob' hm=>by simp at hm;obtain⟨rfl,rfl,-⟩:=hm;exact hr) ?_ ?_
      · intro ix hix
        match ix,hix with
        |0,_=>exact G.obv [] rfl rfl (fun A w _ hB=>bu0_evn)
        |1,_=>exact G.obv [] rfl rfl (fun A w _ hB=>ld_err rfl (hB.cell g0 n0))
        |2,_=>exact G.obv [(55,sen a0)] rfl rfl (fun A w ⟨e0,_⟩ hB=>bu_flt rfl e0)
        |3,_=>exact G.obv [(56,.agg #[.string ⟨#[112,114,111,111,102]⟩,sen a0])] rfl rfl (fun A w ⟨e0,_⟩ hB=>mi_flt e0)
        |4,_=>exact G.ob_set (fun f=> [(2,.pointer (some ⟨w.heap.size+1,0,none⟩)),(54,.agg #[int u64 0,int u64 0,.bool false,int u64 0,int u64 0])]) rfl rfl rfl (by simp) l1 (fun j ob1 ob2 h=>by (rcases j with _|_|_|_|_|_|j)<;>simp [G.kindOf] at h⊢ <;>omega) (fun _=>by kernel_rfl) (fun f A w ⟨e0,e1,_⟩ hh hr=>pu_any e0 e1 hr rfl size_evn (by kernel_rfl))
        |5,_=>exact G.obv [(57,.iface 131 (.agg #[.string ⟨#[112,114,111,111,102]⟩,sen a0]))] rfl rfl (fun A w ⟨e0,_⟩ hB=>doV_assign e0)
        |ix+6,h=>exact absurd h (by simp)
      intro f W5 hS _ _ _ hset;have q1:Bk W5 141 (w.heap.size+1) zEvn:=hset 4 _ _ _ rfl (by decide);have hb3:Bl w W5:=hS.under hb.drew (by intro b h;rw [List.mem_singleton.1 h];omega) hb.size;clear hset hS g0;simp only [puts,List.foldl,Act.put,List.setIfInBounds_toArray,List.set_cons_zero,List.set_cons_succ];go_wp2;exact bodyPost_ret (v:= .tuple #[.agg zEvn,flt ⟨#[112,114,111,111,102]⟩ (sen a0)]) (bk_res2 (fn:=Tryz.f75) (p:=2) (u:=3) results75 _ rfl q1 underlying141 rfl size_evn) rfl ⟨by rw [hV'.out],hb3⟩
end
theorem bspI (w:World):Cr 52 #[] w (.agg #[int u64 (px gG),int u64 (py gG),.bool (pb gG)]):=by
  have h:Cr 52 #[] w (.agg #[int u64 1,int u64 509478702933351334,.bool false]):=by
    go_enter func52,ntmps52;go_wp2;refine bodyPost_ret (v:= .agg #[int u64 1,int u64 509478702933351334,.bool false]) (by simp [results,results52,go_sem]) rfl ⟨rfl,(Below.refl _ w).alloc (Nat.le_refl _) _⟩
  exact h
theorem ntwI (cx info:ByteArray)(x y:Int)(c:Bool)(w:World):
    Cr 137 #[.agg #[.string cx,.string info],.agg #[int u64 x,int u64 y,.bool c]] w (.tuple #[.agg #[int u64 0,int u64 0,.bool true],.nilIface]):=by
  obtain⟨X,hX⟩:∃X,X=((w.alloc (Obj.cells #[.string cx,.string info] 114)).alloc (Obj.cells #[int u64 x,int u64 y,.bool c] 86)).alloc (Obj.cells #[int u64 0,int u64 0,.bool false] 86):=⟨_,rfl⟩;have hr:K3 X 86 (w.heap.size+1+1) 0 0 false:=by rw [hX];exact(K3.new _ _ _ _ _).at (by simp)
  have hb:Bl w X:=by rw [hX];exact(((Below.refl _ w).alloc (Nat.le_refl _) _).alloc (by simp) _).alloc (by simp;omega) _
  rw [hX] at hr hb;clear hX;go_enter func137,ntmps137;go_wp2_with fail;refine(zpP _).mono ?_;rintro e w1 ⟨rfl,b1⟩;replace hr:=hr.keep b1;replace hb:=hb.tr b1;clear b1;have c0:=hr.c0;have c1:=hr.c1;have c2:=hr.c2;have cf:=hr.frz;go_wp2;exact bodyPost_ret (v:= .tuple #[.agg #[int u64 0,int u64 0,.bool true],.nilIface]) (cpt_res (fn:=Tryz.f137) (p:=4) (u:=5) results137 _ rfl (hr.set 0 0 true)) rfl ⟨rfl,set3_below hb (by omega)⟩
theorem patI_of (cx info:ByteArray)(k:Int)(q u s:Pt)(a0 a1 a2 a3:Addr)(w:World)(hs:Sn w a0 a1 a2 a3)
    (TW:Cb w 168 #[.agg #[.string cx,.string info]] (.agg #[int u64 k]))
    (TM:Cc 71 #[.agg #[int u64 (px gG),int u64 (py gG),.bool (pb gG)],int u64 k] (.agg #[int u64 (px u),int u64 (py u),.bool (pb u)]))
    (PL:Cc 91 #[.agg #[int u64 (px u),int u64 (py u),.bool (pb u)],.agg #[int u64 (px q),int u64 (py q),.bool (pb q)]] (.agg #[int u64 (px s),int u64 (py s),.bool (pb s)])):
    Cr 145 #[.agg #[.string cx,.string info],.agg #[int u64 (px q),int u64 (py q),.bool (pb q)]] w (.tuple #[.agg #[int u64 (px s),int u64 (py s),.bool (pb s)],if pb s=true then sen a2 else .nilIface]):=by
  obtain⟨V,hV⟩:∃V,Hid (V=(if pb s=true then sen a2 else Value.nilIface)):=⟨_,rfl⟩;rw [←hV.out];have hg0:2<w.heap.size:=World.block_lt_of_cell? w _ hs.c2;obtain⟨X,hX⟩:∃X,X=((w.alloc (Obj.cells #[.string cx,.string info] 114)).alloc (Obj.cells #[int u64 (px q),int u64 (py q),.bool (pb q)] 86)).alloc (Obj.cells #[int u64 0,int u64 0,.bool false] 86):=⟨_,rfl⟩;have r0:Bk X 114 w.heap.size #[.string cx,.string info]:=by rw [hX];exact((Bk.new _ _ _).alloc _).alloc _
  have r1:K3 X 86 (w.heap.size+1) (px q) (py q) (pb q):=by rw [hX];exact((K3.new _ _ _ _ _).at (by simp)).alloc _
  have hr:K3 X 86 (w.heap.size+1+1) 0 0 false:=by rw [hX];exact(K3.new _ _ _ _ _).at (by simp)
  have hb:Bl w X:=by rw [hX];exact(((Below.refl _ w).alloc (Nat.le_refl _) _).alloc (by simp) _).alloc (by simp;omega) _
  go_enter func145,ntmps145;go_wp2;rw [←hX];clear hX;have s0:X.drew.cell? ⟨w.heap.size,0,none⟩=_:=r0.cell (k:=0) rfl;have s1:X.drew.cell? ⟨w.heap.size,1,none⟩=_:=r0.cell (k:=1) rfl;have k0:X.drew.cell? ⟨w.heap.size+1,0,none⟩=_:=r1.c0;have k1:X.drew.cell? ⟨w.heap.size+1,1,none⟩=_:=r1.c1;have k2:X.drew.cell? ⟨w.heap.size+1,2,none⟩=_:=r1.c2;have TW':∀w',Below X.drew.heap.size X.drew w'→_:=fun w' h=>TW w' (hb.drew.trans (h.mono hb.size))
  refine G.pool_list (W:=X) [] [.val (.agg #[int u64 (px gG),int u64 (py gG),.bool (pb gG)]),
      .val (.agg #[.string cx,.string info]),
      .val (.agg #[int u64 k]),
      .val (int u64 k),
      .val (.agg #[int u64 (px u),int u64 (py u),.bool (pb u)]),
      .val (.agg #[int u64 (px q),int u64 (py q),.bool (pb q)]),
      .val (.agg #[int u64 (px s),int u64 (py s),.bool (pb s)]),
      .new (.cells #[int u64 0,int u64 0,.bool false] 86) (.cells #[int u64 (px s),int u64 (py s),.bool (pb s)] 86) 8,
      .put 7] [[],[2],[8],[9],[7,10],[3],[11,12],[],[6,13]] (fun f=> [(some 7,.agg #[int u64 (px gG),int u64 (py gG),.bool (pb gG)]),(some 8,.agg #[.string cx,.string info]),(some 9,.agg #[int u64 k]),(some 10,int u64 k),(some 11,.agg #[int u64 (px u),int u64 (py u),.bool (pb u)]),(some 12,.agg #[int u64 (px q),int u64 (py q),.bool (pb q)]),(some 13,.agg #[int u64 (px s),int u64 (py s),.bool (pb s)]),(some 6,.pointer (some ⟨f 7,0,none⟩)),(none,undef)]) (by kernel_rfl) (by kernel_rfl) (by kernel_rfl) (by kernel_rfl) (fun _=>by kernel_rfl) (G.last_of [.cells #[int u64 0,int u64 0,.bool false] 86] (fun F R hm=>by simp at hm) (fun ob ob' k hm=>by simp at hm;simp [hm]) (fun b ob ob' hm=>by simp at hm)) (fun b ob ob' hm=>by simp at hm) ?_ ?_
  · intro ix hix
    match ix,hix with
    |0,_=>exact G.obv [] rfl rfl (fun A w _ hB=>cl0 cf_impl_basePoint (bspI w))
    |1,_=>exact G.obv [(2,.pointer (some ⟨w.heap.size,0,none⟩))] rfl rfl (fun A w ⟨e0,_⟩ hB=>ld_set e0 (hB.cell s0 (by simp)) (hB.cell s1 (by simp)))
    |2,_=>exact G.obv [(8,.agg #[.string cx,.string info])] rfl rfl (fun A w ⟨e0,_⟩ hB=>cl1 cf_impl_setting_tweak e0 (TW' w hB.below))
    |3,_=>exact G.obv [(9,.agg #[int u64 k])] rfl rfl (fun A w ⟨e0,_⟩ hB=>fl_nN1 e0)
    |4,_=>exact G.obv [(7,.agg #[int u64 (px gG),int u64 (py gG),.bool (pb gG)]),(10,int u64 k)] rfl rfl (fun A w ⟨e0,e1,_⟩ hB=>cl2 cf_impl_curvePoint_times e0 e1 (TM w))
    |5,_=>exact G.obv [(3,.pointer (some ⟨w.heap.size+1,0,none⟩))] rfl rfl (fun A w ⟨e0,_⟩ hB=>ld_cp e0 (hB.cell k0 (by simp)) (hB.cell k1 (by simp)) (hB.cell k2 (by simp)))
    |6,_=>exact G.obv [(11,.agg #[int u64 (px u),int u64 (py u),.bool (pb u)]),(12,.agg #[int u64 (px q),int u64 (py q),.bool (pb q)])] rfl rfl (fun A w ⟨e0,e1,_⟩ hB=>cl2 cf_impl_curvePoint_plus e0 e1 (PL w))
    |7,_=>exact G.ob_new rfl rfl (fun A w=>al_cp)
    |8,_=>exact G.ob_put 6 (fun f=> [(6,.pointer (some ⟨f 7,0,none⟩)),(13,.agg #[int u64 (px s),int u64 (py s),.bool (pb s)])]) rfl rfl rfl (by decide) (by kernel_rfl) rfl (fun _=>by kernel_rfl) (fun f A w ⟨e0,e1,_⟩ hr=>pu_cp e0 e1 hr)
    |ix+9,h=>exact absurd h (by simp)
  intro f W3 hS hnew _ _ _;have b3:Bl X W3:=(Below.refl _ X).drew.trans hS.below;have r6:K3 W3 86 (f 7) (px s) (py s) (pb s):=(hnew 7 _ _ _ rfl (by decide)).2;generalize f 7=B6 at*;replace hr:=hr.keep b3;replace hb:=hb.tr b3;replace hs:=hs.keep hb;clear hS hnew b3 s0 s1 k0 k1 k2 r0 r1 TW TW' TM PL;simp only [puts,List.foldl,Act.put,List.setIfInBounds_toArray,List.set_cons_zero,List.set_cons_succ];go_wp2;have m0:W3.drew.cell? ⟨B6,0,none⟩=_:=r6.c0;have m1:W3.drew.cell? ⟨B6,1,none⟩=_:=r6.c1;have m2:W3.drew.cell? ⟨B6,2,none⟩=_:=r6.c2
  refine G.pool_list (W:=W3) [] [.val (.agg #[int u64 (px s),int u64 (py s),.bool (pb s)]),
      .val (.agg #[int u64 0,int u64 0,.bool true]),
      .val (.bool (pb s))] [[6],[],[14,15]] (fun f=> [(some 14,.agg #[int u64 (px s),int u64 (py s),.bool (pb s)]),(some 15,.agg #[int u64 0,int u64 0,.bool true]),(some 16,.bool (pb s))]) (by kernel_rfl) (by kernel_rfl) (by kernel_rfl) (by kernel_rfl) (fun _=>by kernel_rfl) (G.last_of [] (fun F R hm=>by simp at hm) (fun ob ob' k hm=>by simp at hm) (fun b ob ob' hm=>by simp at hm)) (fun b ob ob' hm=>by simp at hm) ?_ ?_
  · intro ix hix
    match ix,hix with
    |0,_=>exact G.obv [(6,.pointer (some ⟨B6,0,none⟩))] rfl rfl (fun A w ⟨e0,_⟩ hB=>ld_cp e0 (hB.cell m0 (by simp)) (hB.cell m1 (by simp)) (hB.cell m2 (by simp)))
    |1,_=>exact G.obv [] rfl rfl (fun A w _ hB=>cl0 cf_impl_zeroPoint (zpP w))
    |2,_=>exact G.obv [(14,.agg #[int u64 (px s),int u64 (py s),.bool (pb s)]),(15,.agg #[int u64 0,int u64 0,.bool true])] rfl rfl (fun A w ⟨e0,e1,_⟩ hB=>eq_cpz e0 e1)
    |ix+3,h=>exact absurd h (by simp)
  intro f W4 hS _ _ _ _;have b3:Bl W3 W4:=(Below.refl _ W3).drew.trans hS.below;replace hr:=hr.keep b3;replace r6:=r6.keep b3;replace hs:=hs.keep b3;replace hb:=hb.tr b3;clear hS b3 m0 m1 m2;simp only [puts,List.foldl,Act.put,List.setIfInBounds_toArray,List.set_cons_zero,List.set_cons_succ]
  cases hz:pb s with
  | true=>
    have hp0:px s=0∧py s=0:=by
      have:=(pb_none s).1 hz;subst this;exact⟨rfl,rfl⟩
    go_wp2;have g2:W4.drew.cell? ⟨2,0,none⟩=_:=hs.c2;have n0:2∉ [w.heap.size+1+1]:=fun h=>absurd (List.mem_singleton.1 h) (by omega)
    have l1:w.heap.size+1+1<W4.drew.heap.size:=hr.lt
    refine G.pool_list (W:=W4) [w.heap.size+1+1] [.val (.agg #[int u64 0,int u64 0,.bool true]),
        .val (sen a2),
        .set (w.heap.size+1+1) (.cells #[int u64 0,int u64 0,.bool false] 86) (.cells #[int u64 0,int u64 0,.bool true] 86),
        .val (sen a2)] [[],[],[4,17],[18]] (fun f=> [(some 17,.agg #[int u64 0,int u64 0,.bool true]),(some 18,sen a2),(none,undef),(some 5,sen a2)]) (by kernel_rfl) (by kernel_rfl) (by kernel_rfl) (by kernel_rfl) (fun _=>by kernel_rfl) (G.last_of [.cells #[int u64 0,int u64 0,.bool false] 86] (fun F R hm=>by simp at hm) (fun ob ob' k hm=>by simp at hm) (fun b ob ob' hm=>by simp at hm;simp [hm])) (fun b ob ob' hm=>by simp at hm;obtain⟨rfl,rfl,-⟩:=hm;exact hr) ?_ ?_
    · intro ix hix
      match ix,hix with
      |0,_=>exact G.obv [] rfl rfl (fun A w _ hB=>cl0 cf_impl_zeroPoint (zpP w))
      |1,_=>exact G.obv [] rfl rfl (fun A w _ hB=>ld_err rfl (hB.cell g2 n0))
      |2,_=>exact G.ob_set (fun f=> [(4,.pointer (some ⟨w.heap.size+1+1,0,none⟩)),(17,.agg #[int u64 0,int u64 0,.bool true])]) rfl rfl rfl (by simp) l1 (fun j ob1 ob2 h=>by (rcases j with _|_|_|_|j)<;>simp [G.kindOf] at h⊢ <;>omega) (fun _=>by kernel_rfl) (fun f A w ⟨e0,e1,_⟩ hh hr=>pu_cp e0 e1 hr)
      |3,_=>exact G.obv [(18,sen a2)] rfl rfl (fun A w ⟨e0,_⟩ hB=>doV_assign e0)
      |ix+4,h=>exact absurd h (by simp)
    intro f W5 hS _ _ _ hset;have q1:K3 W5 86 (w.heap.size+1+1) 0 0 true:=hset 2 _ _ _ rfl (by decide);have hb3:Bl w W5:=hS.under hb.drew (by intro b h;rw [List.mem_singleton.1 h];omega) hb.size;clear hset hS g2;simp only [puts,List.foldl,Act.put,List.setIfInBounds_toArray,List.set_cons_zero,List.set_cons_succ];go_wp2;exact bodyPost_ret (v:= .tuple #[.agg #[int u64 0,int u64 0,.bool true],sen a2]) (cpt_res (fn:=Tryz.f145) (p:=4) (u:=5) results145 _ rfl q1) rfl ⟨by rw [hV.out,hz,hp0.1,hp0.2,if_pos rfl],hb3⟩
  | false=>
    rw [hz] at r6;have c0:=hr.c0;have c1:=hr.c1;have c2:=hr.c2;have cf:=hr.frz;have k0:=r6.c0;have k1:=r6.c1;have k2:=r6.c2;go_wp2;exact bodyPost_ret (v:= .tuple #[.agg #[int u64 (px s),int u64 (py s),.bool false],.nilIface]) (cpt_res (fn:=Tryz.f145) (p:=4) (u:=5) results145 _ rfl (hr.set (px s) (py s) false)) rfl ⟨by rw [hV.out,hz,if_neg (by decide)],set3_below hb (by omega)⟩
end
end Go.Proofs.YtjmhmajfkdglnabGreatDoor
