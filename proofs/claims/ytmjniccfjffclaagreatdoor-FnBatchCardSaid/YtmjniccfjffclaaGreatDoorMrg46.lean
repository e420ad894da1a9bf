import Derived.Test.YtmjniccfjffclaaGreatDoorMrg45
set_option linter.unusedVariables false
set_option maxRecDepth 100000
set_option maxHeartbeats 16000000
namespace Go.Proofs.YtmjniccfjffclaaGreatDoor
open Go.Proofs.Tryz Go.RowKit
open Go.Value (int)
open Go.IntKind (u64)
section
variable {A:Act}{w:World}{dst:Option Tmp}{ty:TypeId}{ps:String}{af:Array Edge}{gd:Option (Nat×Bool)}{x y:Operand}{b i:Nat}
theorem al_bat:Does prog (Opr dst (.alloc 78) ty ps af gd) A w fun v w'=>v= .pointer (some ⟨w.heap.size,0,none⟩)∧w'=w.alloc (.cells #[.string ⟨#[]⟩,int u64 0,int u64 0,.bool false,.slice none 0 0,.slice none 0 0] 78):=by
  have h:(execOp A.eval (Opr dst (.alloc 78) ty ps af gd)).run prog w= .ok (.value (.pointer (some ⟨w.heap.size,0,none⟩))) (w.alloc (.cells #[.string ⟨#[]⟩,int u64 0,int u64 0,.bool false,.slice none 0 0,.slice none 0 0] 78)):=by simp [execOp,go_sem]
  exact does_value h ⟨rfl,rfl⟩
theorem size_bat:(prog.info? 78).map (·.size)=some 6:=by kernel_rfl
theorem pu_bat {cx:ByteArray}{x1 y1:Int}{c1:Bool}{s1 s2:Option Addr}{n1 k1 n2 k2:Nat}(hx:A.eval x= .pointer (some ⟨b,0,none⟩))(hy:A.eval y= .agg #[.string cx,int u64 x1,int u64 y1,.bool c1,.slice s1 n1 k1,.slice s2 n2 k2])(hr:w.heap[b]? =some (.cells #[.string ⟨#[]⟩,int u64 0,int u64 0,.bool false,.slice none 0 0,.slice none 0 0] 78)):
    Does prog (Opr dst (.store 78 x y) ty ps af gd) A w fun _ w'=>Turned b (.cells #[.string cx,int u64 x1,int u64 y1,.bool c1,.slice s1 n1 k1,.slice s2 n2 k2] 78) w w':=pu_any hx hy hr rfl size_bat (by kernel_rfl)
theorem bu0_evd:Does prog (Opr dst (.build 30 #[]) ty ps af gd) A w fun v' w'=>v'= .agg #[.slice none 0 0,int u64 0,int u64 0]∧Bl w w':=dv (by generalize A.eval=ev at*;simp [execOp,go_sem])
theorem size_evd:(prog.info? 30).map (·.size)=some 3:=by kernel_rfl
end
theorem cf_impl_batch_prove (args:Array Value)(w:World):(callFunc 149 args).run prog w= .ok (.enter 149 args) w:=by kernel_rfl
section
open M
theorem fesI_len (a:Option Addr)(n cap:Nat)(a0 a1 a2 a3:Addr)(w:World)(hs:Sn w a0 a1 a2 a3)(hn:n<1∨200<n):
    Cr 73 #[.slice a n cap] w (.tuple #[.slice none 0 0,sen a0]):=by
  have g0:w.drew.cell? ⟨0,0,none⟩=_:=hs.c0;go_enter func73,ntmps73;by_cases h:n<1
  · obtain rfl:n=0:=by omega
    go_wp2
    refine G.pool_list (W:=w) [] [.val (sen a0),
        .val (.slice none 0 0),
        .val (sen a0)] [[],[],[17]] (fun f=> [(some 17,sen a0),(some 2,.slice none 0 0),(some 3,sen a0)]) (by kernel_rfl) (by kernel_rfl) (by kernel_rfl) (by kernel_rfl) (fun _=>by kernel_rfl) (G.last_of [] (fun F R hm=>by simp at hm) (fun ob ob' k hm=>by simp at hm) (fun b ob ob' hm=>by simp at hm)) (fun b ob ob' hm=>by simp at hm) ?_ ?_
    · intro ix hix
      match ix,hix with
      |0,_=>exact G.obv [] rfl rfl (fun A w _ hB=>ld_err rfl (hB.cell g0 (by simp)))
      |1,_=>exact G.obv [] rfl rfl (fun A w _ hB=>doV_assign rfl)
      |2,_=>exact G.obv [(17,sen a0)] rfl rfl (fun A w ⟨e0,_⟩ hB=>doV_assign e0)
      |ix+3,h=>exact absurd h (by simp)
    intro f W2 hS _ _ _ _;have hb:=(Below.refl _ w).drew.trans hS.below;clear hS g0;simp only [puts,List.foldl,Act.put,List.setIfInBounds_toArray,List.set_cons_zero,List.set_cons_succ];go_wp2;go_ret2;exact⟨rfl,hb⟩
  · have h1: ¬ (n:Int)<1:=by omega
    have h2:(200:Int)<(n:Int):=by omega
    clear h hn;go_wp2
    refine G.pool_list (W:=w) [] [.val (sen a0),
        .val (.slice none 0 0),
        .val (sen a0)] [[],[],[17]] (fun f=> [(some 17,sen a0),(some 2,.slice none 0 0),(some 3,sen a0)]) (by kernel_rfl) (by kernel_rfl) (by kernel_rfl) (by kernel_rfl) (fun _=>by kernel_rfl) (G.last_of [] (fun F R hm=>by simp at hm) (fun ob ob' k hm=>by simp at hm) (fun b ob ob' hm=>by simp at hm)) (fun b ob ob' hm=>by simp at hm) ?_ ?_
    · intro ix hix
      match ix,hix with
      |0,_=>exact G.obv [] rfl rfl (fun A w _ hB=>ld_err rfl (hB.cell g0 (by simp)))
      |1,_=>exact G.obv [] rfl rfl (fun A w _ hB=>doV_assign rfl)
      |2,_=>exact G.obv [(17,sen a0)] rfl rfl (fun A w ⟨e0,_⟩ hB=>doV_assign e0)
      |ix+3,h=>exact absurd h (by simp)
    intro f W2 hS _ _ _ _;have hb:=(Below.refl _ w).drew.trans hS.below;clear hS g0;simp only [puts,List.foldl,Act.put,List.setIfInBounds_toArray,List.set_cons_zero,List.set_cons_succ];go_wp2;go_ret2;exact⟨rfl,hb⟩
theorem fesI_any (ps:List Tri)(n g o cap:Nat)(a0 a1 a2 a3:Addr)(w:World)(hs:Sn w a0 a1 a2 a3)(hl:ps.length=n)(h1:1≤n)(hn:n≤200)(hp:Pts w g o ps):
    Calls prog 73 #[.slice (some ⟨g,o,none⟩) n cap] w fun e w'=>(∃v er,e= .returned (.tuple #[v,er])∧(ps.all elT=true→er= .nilIface∧w'.ownsRow w.heap.size 75 3 v n (cells3 (ps.map asT)))∧(ps.all elT=false→v= .slice none 0 0∧er=sen a0))∧Bl w w':=by
  obtain⟨R,hR⟩:∃R,Hid (R=ps.all elT):=⟨_,rfl⟩;rw [←hR.out];obtain⟨i0,hi,hz0,hz1,hz2⟩:=info_parts infoCP;obtain⟨CS,hCS⟩:∃CS,Hid (CS=fun j=>cells3 ((ps.take j).map asT)):=⟨_,rfl⟩
  have hst:Hid (∀j,j<n→∃t:Tri,ps[j]? =some t∧CS (j+1)=CS j++ [int u64 (px (asT t)),int u64 (py (asT t)),.bool (pb (asT t))]):=fun j hj=>by
    obtain⟨t,ht⟩:∃t,ps[j]? =some t:=⟨_,List.getElem?_eq_getElem (by omega)⟩;refine⟨t,ht,?_⟩;rw [hCS.out];simp only;rw [List.take_add_one,ht,List.map_append,cells3_app];rfl
  have hC0:CS 0= []:=by rw [hCS.out];rfl
  have hCn:Hid (CS n=cells3 (ps.map asT)):=by simp only [Hid];rw [hCS.out,←hl];simp
  have hl':Hid (ps.length=n):=hl;have k1: ¬ (n:Int)<1:=by omega
  have k2: ¬ (200:Int)<(n:Int):=by omega
  clear hCS hl;go_enter func73,ntmps73;go_wp2;clear k1 k2
  go_loopw [4,20] (fun ov iv wr=>∃j:Nat,j≤n∧iv= .int .i64 (j:Int)∧wr.ownsRow w.heap.size 75 3 ov j (CS j)∧Hid (∀i,i<j→∃t,ps[i]? =some t∧elT t=true)∧Bl w wr) (fun _ i _=>n-(intOf i).toNat)
  case atStart=>exact ⟨0,by omega,rfl,by rw [hC0];exact World.ownsRow_nil _ _ _ _,fun i hi=>by omega,Below.refl _ _⟩
  case round=>
    clear hC0;obtain⟨j,hj,rfl,hown,hall,hbl⟩:=hrel;have hsz:=hbl.size;by_cases hlt:j<n
    · have hli:(j:Int)<(n:Int):=by omega
      obtain⟨t,ht,hnx⟩:=hst.out j hlt;have pp:=hp.below hbl hp.lt;have c0:=pp.c0 j t ht;have c1:=pp.c1 j t ht;have c2:=pp.c2 j t ht;have F:=fun w' (hb:Bl w w')=>eleI_any t a0 a1 a2 a3 w' (hs.keep hb)
      have hmt:t∈ps:=List.mem_of_getElem? ht
      have hRt:Hid (elT t=false→R=false):=fun h=>by
        rw [hR.out];exact List.all_eq_false.2 ⟨t,hmt,by rw [h];decide⟩
      have hnxt:Hid (elT t=true→∀i,i<j+1→∃t,ps[i]? =some t∧elT t=true):=fun h i hi=>by
        by_cases hik:i=j
        · subst hik;exact⟨t,ht,h⟩
        · exact hall.out i (by omega)
      obtain⟨tx,ty,tc⟩:=t;dsimp only at c0 c1 c2 F;clear ht pp hmt hall;generalize elT (tx,ty,tc)=ot at*;generalize asT (tx,ty,tc)=q at*;unfold sen at*;go_wp2_with fail;have hal:=(hbl.alloc hbl.size (Obj.cells #[int u64 (tx:Int),int u64 (ty:Int),.bool tc] 34));refine(F _ hal).mono ?_;clear hal;rintro e w1 ⟨rfl,b1⟩
      cases ot with
      | false=>
        have hr:=hRt.out (by trivial);subst hr
        have hB1:Bl wr w1:=by
          have h1:=(balc wr (Obj.cells #[int u64 (tx:Int),int u64 (ty:Int),.bool tc] 34));exact h1.tr b1
        replace hbl:=hbl.tr hB1;replace hbl:=hbl.alloc hbl.size (Obj.cells #[int u64 0,int u64 0,.bool true] 75);clear hRt hnxt hown F c0 c1 c2 b1 hB1;go_wp2;go_ret2
        first|exact ⟨rfl,hbl⟩|exact ⟨⟨rfl,rfl⟩,hbl⟩
      | true=>
        have hB1:Bl wr (w1.alloc (Obj.cells #[int u64 (px q),int u64 (py q),.bool (pb q)] 75)):=by
          have h1:=(balc wr (Obj.cells #[int u64 (tx:Int),int u64 (ty:Int),.bool tc] 34));have h2:=h1.tr b1;exact h2.alloc h2.size _
        replace hown:=below_own3 hown hB1;replace hbl:=hbl.tr hB1;have hsz1:w.heap.size≤w1.heap.size+1:=by have:=hbl.size;simpa using this
        have hn2:Hid (∀i,i<j+1→∃t,ps[i]? =some t∧elT t=true):=hnxt.out (by trivial);clear hRt hnxt F c0 c1 c2 b1 hB1
        go_wp2_with (first
          |(at_builtin;refine wpList_append_ow rfl _ _ 76 rfl w.heap.size 75 i0 (.agg #[int u64 0,int u64 0,.bool false]) 3 24 underlying76 hi hz0 hz1 hz2 rfl (by decide) _ j (CS j) rfl (hown.alloc _) ⟨w1.heap.size+1,0,none⟩ 1 1 [int u64 (px q),int u64 (py q),.bool (pb q)] rfl rfl (World.news_of_block (cs:=#[int u64 (px q),int u64 (py q),.bool (pb q)]) (by have:=heap_alloc_new (w1.alloc (Obj.cells #[int u64 (px q),int u64 (py q),.bool (pb q)] 75)) (Obj.cells #[int u64 (px q),int u64 (py q),.bool (pb q)] 75);simpa using this)) (by simp [Value.oneCell']) (by decide) (by unfold maxLen;omega) (by omega) (by simp;omega) ?_;intro g2 cap2 w2 hown2 hgr2 hg2)
          |go_in)
        have R1:w2.ownsRow w.heap.size 75 3 (.slice (some ⟨g2,0,none⟩) (j+1) cap2) (j+1) (CS (j+1)):=by rw [hnx];exact hown2
        have R2:Bl w w2:=(hbl.alloc hbl.size _).grown hgr2 (by simp;omega) (fun r hr=>(hown.lt r hr).1);clear hown hown2 hgr2 hbl;go_wp2;go_roundw
        case rel=>
          first
            |exact ⟨j+1,by omega,by go_num,R1,hn2,R2⟩
            |((repeat apply Exists.intro);exact⟨⟨j+1,by omega,by go_num,R1,hn2,R2⟩,rfl⟩)
        case measure=>simp [intOf];omega
    · obtain rfl:j=n:=by omega
      have hr:R=true:=by
        rw [hR.out,List.all_eq_true];intro t ht;obtain⟨i,hi⟩:=List.getElem?_of_mem ht;obtain⟨t',h',h''⟩:=hall.out i (by have:=(List.getElem?_eq_some_iff.1 hi).1;have:=hl'.out;omega);rw [hi] at h';cases h';exact h''
      subst hr;rw [hCn.out] at hown;clear hall hR hst hCn hl';go_wp2;go_ret2;exact⟨⟨_,_,rfl,rfl,hown⟩,hbl⟩
theorem eveI_of (Φ:Value→World→Prop)(mode key r s c' s':Int)(info cx:ByteArray)(g n cap:Nat)(cs L:List Pt)(F0 F1 F2 F3 F4 F5 F6:FuncId)(T:TypeId)(z:Value)(a0 a1 a2 a3:Addr)(w:World)(hs:Sn w a0 a1 a2 a3)(hcf:∀(args:Array Value) (w:World),(callFunc F1 args).run prog w= .ok (.enter F1 args) w)
    (H:((∀w',Φ (.tuple #[.agg #[.slice none 0 0,int u64 0,int u64 0],.iface T z]) w')∧(Cb w 71 #[.int .i64 mode,.string info] (.tuple #[.agg #[.string ⟨#[]⟩,.string ⟨#[]⟩,.nilFunc,.nilFunc,.nilFunc,.nilFunc,.nilFunc,.nilFunc,.nilFunc],.iface T z])))∨
      ((Cb w 71 #[.int .i64 mode,.string info] (.tuple #[.agg #[.string cx,.string info,.func (.func F0) #[] #[],.func (.func F1) #[] #[],.func (.func F2) #[] #[],.func (.func F3) #[] #[],.func (.func F4) #[] #[],.func (.func F5) #[] #[],.func (.func F6) #[] #[]],.nilIface]))∧(((∀w',Φ (.tuple #[.agg #[.slice none 0 0,int u64 0,int u64 0],flt ⟨#[107,101,121]⟩ (sen a0)]) w')∧(Cb w 72 #[int u64 key] (.tuple #[.agg #[int u64 0],sen a0])))∨
      ((Cb w 72 #[int u64 key] (.tuple #[.agg #[int u64 key],.nilIface]))∧(((∀w',Φ (.tuple #[.agg #[.slice none 0 0,int u64 0,int u64 0],flt ⟨#[101,108,101,109,101,110,116,115]⟩ (sen a0)]) w')∧(Cb w 73 #[.slice (some ⟨g,0,none⟩) n cap] (.tuple #[.slice none 0 0,sen a0])))∨
      ((∀w',Bl w w'→Calls prog 73 #[.slice (some ⟨g,0,none⟩) n cap] w' fun e w''=>∃g1 k1,e= .returned (.tuple #[.slice (some ⟨g1,0,none⟩) n k1,.nilIface])∧Cps w'' g1 cs∧Bl w' w'')∧(((∀w',Φ (.tuple #[.agg #[.slice none 0 0,int u64 0,int u64 0],flt ⟨#[114]⟩ (sen a0)]) w')∧(Cc 39 #[int u64 r,.agg #[]] (.tuple #[.agg #[int u64 0],.bool false])))∨
      ((Cc 39 #[int u64 r,.agg #[]] (.tuple #[.agg #[int u64 r],.bool true]))∧(((∀w',Φ (.tuple #[.agg #[.slice none 0 0,int u64 0,int u64 0],flt ⟨#[107,101,121,32,97,110,100,32,105,110,102,111]⟩ (sen a2)]) w')∧(Cb w F1 #[.agg #[.string cx,.string info],.agg #[int u64 key]] (.tuple #[.agg #[int u64 s],sen a2])))∨
      ((Cb w F1 #[.agg #[.string cx,.string info],.agg #[int u64 key]] (.tuple #[.agg #[int u64 s],.nilIface]))∧((∀w' v,w'.ownsRow w.heap.size 34 3 v n (cells3 L)→Φ (.tuple #[.agg #[v,int u64 c',int u64 s'],.nilIface]) w')∧(∀w' g1 k1,Bl w w'→Cps w' g1 cs→Calls prog 74 #[.agg #[.string cx,.string info,.func (.func F0) #[] #[],.func (.func F1) #[] #[],.func (.func F2) #[] #[],.func (.func F3) #[] #[],.func (.func F4) #[] #[],.func (.func F5) #[] #[],.func (.func F6) #[] #[]],.agg #[int u64 s],.slice (some ⟨g1,0,none⟩) n k1,.agg #[int u64 r]] w' fun e w''=>∃v,e= .returned (.agg #[v,int u64 c',int u64 s'])∧w''.ownsRow w.heap.size 34 3 v n (cells3 L)∧Bl w' w'')))))))))))):
    Calls prog 36 #[.int .i64 mode,int u64 key,.string info,.slice (some ⟨g,0,none⟩) n cap,int u64 r] w fun e w'=>∃V,e= .returned V∧Φ V w'∧Bl w w':=by
  unfold flt sen at*;have rA:=Bk.new w 30 #[.slice none 0 0,int u64 0,int u64 0];have hb:=balc w (Obj.cells #[.slice none 0 0,int u64 0,int u64 0] 30);go_enter func36,ntmps36;go_wp2_with fail;rcases H with ⟨hV,FP⟩|⟨FP,H⟩
  · refine(FP _ hb).mono ?_;rintro e w1 ⟨rfl,b1⟩;replace rA:=rA.keep b1;replace hb:=hb.tr b1;have hal:=balc w1 (Obj.cells #[.string ⟨#[]⟩,.string ⟨#[]⟩,.nilFunc,.nilFunc,.nilFunc,.nilFunc,.nilFunc,.nilFunc,.nilFunc] 130);replace rA:=rA.keep hal;replace hb:=hb.tr hal;clear hal;clear FP b1;have hth:=rA.there 3 (by simp);have mk1:=True.intro;go_wp2_with (clear mk1;refine wpList_store_mid rfl 30 _ _ rfl w.heap.size 0 #[.slice none 0 0,int u64 0,int u64 0] rfl rfl hth sizeEvd (by kernel_rfl) ?_);exact bodyPost_ret (v:= .tuple #[.agg #[.slice none 0 0,int u64 0,int u64 0],.iface T z]) (bk_res2 (fn:=Tryz.f36) (p:=10) (u:=11) results36 _ rfl (rA.sets _ rfl) underlying30 rfl sizeEvd) rfl ⟨_,rfl,hV _,below_setCells hb (by omega) _ _⟩
  refine(FP _ hb).mono ?_;rintro e w1 ⟨rfl,b1⟩;have hal:=balc w1 (Obj.cells #[.string cx,.string info,.func (.func F0) #[] #[],.func (.func F1) #[] #[],.func (.func F2) #[] #[],.func (.func F3) #[] #[],.func (.func F4) #[] #[],.func (.func F5) #[] #[],.func (.func F6) #[] #[]] 130);have r12:=Bk.new w1 130 #[.string cx,.string info,.func (.func F0) #[] #[],.func (.func F1) #[] #[],.func (.func F2) #[] #[],.func (.func F3) #[] #[],.func (.func F4) #[] #[],.func (.func F5) #[] #[],.func (.func F6) #[] #[]];replace rA:=(rA.keep b1).keep hal;replace hb:=hb.tr b1;replace hb:=hb.tr hal;clear FP b1 hal;go_wp2_with fail;rcases H with ⟨hV,FF⟩|⟨FF,H⟩
  · refine(FF _ hb).mono ?_;rintro e w2 ⟨rfl,b1⟩;replace rA:=rA.keep b1;replace hb:=hb.tr b1;have hal:=balc w2 (Obj.cells #[int u64 0] 86);replace rA:=rA.keep hal;replace hb:=hb.tr hal;clear hal;clear FF b1;have hth:=rA.there 3 (by simp);have mk1:=True.intro;go_wp2_with (clear mk1;refine wpList_store_mid rfl 30 _ _ rfl w.heap.size 0 #[.slice none 0 0,int u64 0,int u64 0] rfl rfl hth sizeEvd (by kernel_rfl) ?_);exact bodyPost_ret (v:= .tuple #[.agg #[.slice none 0 0,int u64 0,int u64 0],flt ⟨#[107,101,121]⟩ (sen a0)]) (bk_res2 (fn:=Tryz.f36) (p:=10) (u:=11) results36 _ rfl (rA.sets _ rfl) underlying30 rfl sizeEvd) rfl ⟨_,rfl,hV _,below_setCells hb (by omega) _ _⟩
  refine(FF _ hb).mono ?_;rintro e w2 ⟨rfl,b1⟩;have hal:=balc w2 (Obj.cells #[int u64 key] 86);have r14:=Bk.new w2 86 #[int u64 key];replace rA:=(rA.keep b1).keep hal;replace r12:=(r12.keep b1).keep hal;replace hb:=hb.tr b1;replace hb:=hb.tr hal;clear FF b1 hal;go_wp2_with fail;rcases H with ⟨hV,FE⟩|⟨FE,H⟩
  · refine(FE _ hb).mono ?_;rintro e w3 ⟨rfl,b1⟩;replace rA:=rA.keep b1;replace hb:=hb.tr b1;clear FE b1;have hth:=rA.there 3 (by simp);have mk1:=True.intro;go_wp2_with (clear mk1;refine wpList_store_mid rfl 30 _ _ rfl w.heap.size 0 #[.slice none 0 0,int u64 0,int u64 0] rfl rfl hth sizeEvd (by kernel_rfl) ?_);exact bodyPost_ret (v:= .tuple #[.agg #[.slice none 0 0,int u64 0,int u64 0],flt ⟨#[101,108,101,109,101,110,116,115]⟩ (sen a0)]) (bk_res2 (fn:=Tryz.f36) (p:=10) (u:=11) results36 _ rfl (rA.sets _ rfl) underlying30 rfl sizeEvd) rfl ⟨_,rfl,hV _,below_setCells hb (by omega) _ _⟩
  refine(FE _ hb).mono ?_;rintro e w3 ⟨g1,k1,rfl,hC,b1⟩;replace rA:=rA.keep b1;replace r12:=r12.keep b1;replace r14:=r14.keep b1;replace hb:=hb.tr b1;clear FE b1;go_wp2_with fail;rcases H with ⟨hV,EX⟩|⟨EX,H⟩
  · refine(EX _).mono ?_;rintro e w4 ⟨rfl,b1⟩;replace rA:=rA.keep b1;replace hb:=hb.tr b1;have hal:=balc w4 (Obj.cells #[int u64 0] 86);replace rA:=rA.keep hal;replace hb:=hb.tr hal;clear hal;clear EX b1;go_wp2;generalize w4.alloc _=W4 at*;have g0:W4.drew.cell? ⟨0,0,none⟩=_:=(hs.keep hb).c0;have n0:0∉ [w.heap.size]:=fun h=>absurd (List.mem_singleton.1 h) (Nat.ne_of_lt (World.block_lt_of_cell? w _ hs.c0))
    have l1:w.heap.size<W4.drew.heap.size:=rA.lt
    refine G.pool_list (W:=W4) [w.heap.size] [.val (.agg #[.slice none 0 0,int u64 0,int u64 0]),
        .val (.iface 299 (.pointer (some a0))),
        .val (.agg #[.string ⟨#[114]⟩,.iface 299 (.pointer (some a0))]),
        .val (.iface 136 (.agg #[.string ⟨#[114]⟩,.iface 299 (.pointer (some a0))])),
        .set (w.heap.size) (.cells #[.slice none 0 0,int u64 0,int u64 0] 30) (.cells #[.slice none 0 0,int u64 0,int u64 0] 30),
        .val (.iface 136 (.agg #[.string ⟨#[114]⟩,.iface 299 (.pointer (some a0))]))] [[],[],[60],[61],[10,59],[62]] (fun f=> [(some 59,.agg #[.slice none 0 0,int u64 0,int u64 0]),(some 60,.iface 299 (.pointer (some a0))),(some 61,.agg #[.string ⟨#[114]⟩,.iface 299 (.pointer (some a0))]),(some 62,.iface 136 (.agg #[.string ⟨#[114]⟩,.iface 299 (.pointer (some a0))])),(none,undef),(some 11,.iface 136 (.agg #[.string ⟨#[114]⟩,.iface 299 (.pointer (some a0))]))]) (by kernel_rfl) (by kernel_rfl) (by kernel_rfl) (by kernel_rfl) (fun _=>by kernel_rfl) (G.last_of [.cells #[.slice none 0 0,int u64 0,int u64 0] 30] (fun F R hm=>by simp at hm) (fun ob ob' k hm=>by simp at hm) (fun b ob ob' hm=>by simp at hm;simp [hm])) (fun b ob ob' hm=>by simp at hm;obtain⟨rfl,rfl,-⟩:=hm;exact rA) ?_ ?_
    · intro ix hix
      match ix,hix with
      |0,_=>exact G.obv [] rfl rfl (fun A w _ hB=>bu0_evd)
      |1,_=>exact G.obv [] rfl rfl (fun A w _ hB=>ld_err rfl (hB.cell g0 n0))
      |2,_=>exact G.obv [(60,.iface 299 (.pointer (some a0)))] rfl rfl (fun A w ⟨e0,_⟩ hB=>bu_flt rfl e0)
      |3,_=>exact G.obv [(61,.agg #[.string ⟨#[114]⟩,.iface 299 (.pointer (some a0))])] rfl rfl (fun A w ⟨e0,_⟩ hB=>mi_flt e0)
      |4,_=>exact G.ob_set (fun f=> [(10,.pointer (some ⟨w.heap.size,0,none⟩)),(59,.agg #[.slice none 0 0,int u64 0,int u64 0])]) rfl rfl rfl (by simp) l1 (fun j ob1 ob2 h=>by (rcases j with _|_|_|_|_|_|j)<;>simp [G.kindOf] at h⊢ <;>omega) (fun _=>by kernel_rfl) (fun f A w ⟨e0,e1,_⟩ hh hr=>pu_any e0 e1 hr rfl size_evd (by kernel_rfl))
      |5,_=>exact G.obv [(62,.iface 136 (.agg #[.string ⟨#[114]⟩,.iface 299 (.pointer (some a0))]))] rfl rfl (fun A w ⟨e0,_⟩ hB=>doV_assign e0)
      |ix+6,h=>exact absurd h (by simp)
    intro f W5 hS _ _ _ hset;have q1:Bk W5 30 w.heap.size #[.slice none 0 0,int u64 0,int u64 0]:=hset 4 _ _ _ rfl (by decide);have hb5:Bl w W5:=hS.under hb.drew (by intro b h;rw [List.mem_singleton.1 h];omega) hb.size;clear hset hS g0;simp only [puts,List.foldl,Act.put,List.setIfInBounds_toArray,List.set_cons_zero,List.set_cons_succ];go_wp2;exact bodyPost_ret (v:= .tuple #[.agg #[.slice none 0 0,int u64 0,int u64 0],flt ⟨#[114]⟩ (sen a0)]) (bk_res2 (fn:=Tryz.f36) (p:=10) (u:=11) results36 _ rfl q1 underlying30 rfl sizeEvd) rfl ⟨_,rfl,hV _,hb5⟩
  refine(EX _).mono ?_;rintro e w4 ⟨rfl,b1⟩;have hal:=balc w4 (Obj.cells #[int u64 r] 86);have r16:=Bk.new w4 86 #[int u64 r];replace rA:=(rA.keep b1).keep hal;replace r12:=(r12.keep b1).keep hal;replace r14:=(r14.keep b1).keep hal;replace hC:=(hC.keep b1).keep hal;replace hb:=hb.tr b1;replace hb:=hb.tr hal;clear EX b1 hal;have r12c0:=r12.cell (k:=0) rfl;have r12c1:=r12.cell (k:=1) rfl;have r12c3:=r12.cell (k:=3) rfl;have r14c0:=r14.cell (k:=0) rfl;go_wp2_with fail;rcases H with ⟨hV,SE⟩|⟨SE,H⟩
  · refine(SE _ hb).mono ?_;rintro e w5 ⟨rfl,b1⟩;replace rA:=rA.keep b1;replace hb:=hb.tr b1;have hal:=balc w5 (Obj.cells #[int u64 s] 86);replace rA:=rA.keep hal;replace hb:=hb.tr hal;clear hal;clear SE b1 r12c0 r12c1 r12c3 r14c0;have hth:=rA.there 3 (by simp);have mk1:=True.intro;go_wp2_with (clear mk1;refine wpList_store_mid rfl 30 _ _ rfl w.heap.size 0 #[.slice none 0 0,int u64 0,int u64 0] rfl rfl hth sizeEvd (by kernel_rfl) ?_);exact bodyPost_ret (v:= .tuple #[.agg #[.slice none 0 0,int u64 0,int u64 0],flt ⟨#[107,101,121,32,97,110,100,32,105,110,102,111]⟩ (sen a2)]) (bk_res2 (fn:=Tryz.f36) (p:=10) (u:=11) results36 _ rfl (rA.sets _ rfl) underlying30 rfl sizeEvd) rfl ⟨_,rfl,hV _,below_setCells hb (by omega) _ _⟩
  refine(SE _ hb).mono ?_;rintro e w5 ⟨rfl,b1⟩;have hal:=balc w5 (Obj.cells #[int u64 s] 86);have r18:=Bk.new w5 86 #[int u64 s];replace rA:=(rA.keep b1).keep hal;replace r12:=(r12.keep b1).keep hal;replace r16:=(r16.keep b1).keep hal;replace hC:=(hC.keep b1).keep hal;replace hb:=hb.tr b1;replace hb:=hb.tr hal;clear SE b1 hal r12c0 r12c1 r12c3 r14c0 r14;obtain⟨hV,VE⟩:=H;have r12c0:=r12.cell (k:=0) rfl;have r12c1:=r12.cell (k:=1) rfl;have r12c2:=r12.cell (k:=2) rfl;have r12c3:=r12.cell (k:=3) rfl;have r12c4:=r12.cell (k:=4) rfl;have r12c5:=r12.cell (k:=5) rfl;have r12c6:=r12.cell (k:=6) rfl;have r12c7:=r12.cell (k:=7) rfl;have r12c8:=r12.cell (k:=8) rfl;have r16c0:=r16.cell (k:=0) rfl;have r18c0:=r18.cell (k:=0) rfl;go_wp2_with fail;refine(VE _ g1 k1 hb hC).mono ?_;rintro e w6 ⟨v,rfl,hown,b1⟩;replace rA:=rA.keep b1;replace hb:=hb.tr b1;clear VE b1 hC r12 r16 r18 r12c0 r12c1 r12c2 r12c3 r12c4 r12c5 r12c6 r12c7 r12c8 r16c0 r18c0;have hth:=rA.there 3 (by simp);have mk1:=True.intro;go_wp2_with (clear mk1;refine wpList_store_mid rfl 30 _ _ rfl w.heap.size 0 #[v,int u64 c',int u64 s'] rfl rfl hth sizeEvd (onev hown _ _) ?_);exact bodyPost_ret (v:= .tuple #[.agg #[v,int u64 c',int u64 s'],.nilIface]) (bk_res2 (fn:=Tryz.f36) (p:=10) (u:=11) results36 _ rfl (rA.sets _ rfl) underlying30 rfl sizeEvd) rfl ⟨_,rfl,hV _ _ (own_sets hown (own_ne_bk hown rA (by decide)) 0 _),below_setCells hb (by omega) _ _⟩
theorem ansE_ok (a:Option Addr)(n k:Nat)(c s:Int)(w:World):
    Cr 35 #[.agg #[.slice a n k,int u64 c,int u64 s],.nilIface] w (.tuple #[.agg #[.slice a n k,int u64 c,int u64 s],.int .i64 0]):=by
  obtain⟨X,hX⟩:∃X,X=(w.alloc (Obj.cells #[.slice a n k,int u64 c,int u64 s] 30)).alloc (Obj.cells #[.slice none 0 0,int u64 0,int u64 0] 30):=⟨_,rfl⟩;have r2:Bk X 30 w.heap.size #[.slice a n k,int u64 c,int u64 s]:=by rw [hX];exact(Bk.new _ _ _).alloc _
  have r4:Bk X 30 (w.heap.size+1) #[.slice none 0 0,int u64 0,int u64 0]:=by rw [hX];exact(Bk.new _ _ _).at (by simp)
  have hb:Bl w X:=by rw [hX];exact((Below.refl _ w).alloc (Nat.le_refl _) _).alloc (by simp) _
  rw [hX] at r2 r4 hb;clear hX;have z0:=r2.cell (k:=0) rfl;have z1:=r2.cell (k:=1) rfl;have z2:=r2.cell (k:=2) rfl;have hth:=r4.there 3 (by simp);have mk1:=True.intro;go_enter func35,ntmps35;go_wp2_with (clear mk1;refine wpList_store_mid rfl 30 _ _ rfl (w.heap.size+1) 0 #[.slice a n k,int u64 c,int u64 s] rfl rfl hth sizeEvd (by kernel_rfl) ?_);exact bodyPost_ret (v:= .tuple #[.agg #[.slice a n k,int u64 c,int u64 s],.int .i64 0]) (bk_res2 (fn:=Tryz.f35) (p:=4) (u:=5) results35 _ rfl (r4.sets _ rfl) underlying30 rfl sizeEvd) rfl ⟨rfl,below_setCells hb (by omega) _ _⟩
theorem ansE_err (cd:Int)(v:Value)(a0 a1 a2 a3:Addr)(w:World)(hs:Sn w a0 a1 a2 a3)(hv:Er a0 a1 a2 a3 v cd):
    Cr 35 #[.agg #[.slice none 0 0,int u64 0,int u64 0],v] w (.tuple #[.agg #[.slice none 0 0,int u64 0,int u64 0],.int .i64 cd]):=by
  obtain⟨⟨T,x,rfl⟩,C⟩:=hv;obtain⟨X,hX⟩:∃X,X=((w.alloc (Obj.cells #[.slice none 0 0,int u64 0,int u64 0] 30)).alloc (Obj.cells #[.slice none 0 0,int u64 0,int u64 0] 30)).alloc (Obj.cells #[.slice none 0 0,int u64 0,int u64 0] 30):=⟨_,rfl⟩;have r4:Bk X 30 (w.heap.size+1) #[.slice none 0 0,int u64 0,int u64 0]:=by rw [hX];exact((Bk.new _ _ _).at (by simp)).alloc _
  have r6:Bk X 30 (w.heap.size+1+1) #[.slice none 0 0,int u64 0,int u64 0]:=by rw [hX];exact(Bk.new _ _ _).at (by simp)
  have hb:Bl w X:=by rw [hX];exact(((Below.refl _ w).alloc (Nat.le_refl _) _).alloc (by simp) _).alloc (by simp;omega) _
  go_enter func35,ntmps35;go_wp2;rw [←hX];clear hX;have d0:X.drew.cell? ⟨w.heap.size+1+1,0,none⟩=_:=r6.cell (k:=0) rfl;have d1:X.drew.cell? ⟨w.heap.size+1+1,1,none⟩=_:=r6.cell (k:=1) rfl;have d2:X.drew.cell? ⟨w.heap.size+1+1,2,none⟩=_:=r6.cell (k:=2) rfl;have n0:w.heap.size+1+1∉ [w.heap.size+1]:=fun h=>absurd (List.mem_singleton.1 h) (by omega)
  have l1:w.heap.size+1<X.drew.heap.size:=r4.lt;have C':∀w',G.Sides [w.heap.size+1] X.drew w'→Cr 70 #[.iface T x] w' (.int .i64 cd):=fun w' h=>C w' (hs.keep (h.under hb.drew (by intro b hm;rw [List.mem_singleton.1 hm];omega) hb.size))
  refine G.pool_list (W:=X) [w.heap.size+1] [.val (.agg #[.slice none 0 0,int u64 0,int u64 0]),
      .val (.iface T x),
      .val (.int .i64 cd),
      .set (w.heap.size+1) (.cells #[.slice none 0 0,int u64 0,int u64 0] 30) (.cells #[.slice none 0 0,int u64 0,int u64 0] 30),
      .val (.int .i64 cd)] [[6],[1],[11],[4,10],[12]] (fun f=> [(some 10,.agg #[.slice none 0 0,int u64 0,int u64 0]),(some 11,.iface T x),(some 12,.int .i64 cd),(none,undef),(some 5,.int .i64 cd)]) (by kernel_rfl) (by kernel_rfl) (by kernel_rfl) (by kernel_rfl) (fun _=>by kernel_rfl) (G.last_of [.cells #[.slice none 0 0,int u64 0,int u64 0] 30] (fun F R hm=>by simp at hm) (fun ob ob' k hm=>by simp at hm) (fun b ob ob' hm=>by simp at hm;simp [hm])) (fun b ob ob' hm=>by simp at hm;obtain⟨rfl,rfl,-⟩:=hm;exact r4) ?_ ?_
  · intro ix hix
    match ix,hix with
    |0,_=>exact G.obv [(6,.pointer (some ⟨w.heap.size+1+1,0,none⟩))] rfl rfl (fun A w ⟨e0,_⟩ hB=>ld_evd e0 (hB.cell d0 n0) (hB.cell d1 n0) (hB.cell d2 n0))
    |1,_=>exact G.obv [(1,.iface T x)] rfl rfl (fun A w ⟨e0,_⟩ hB=>doV_move e0)
    |2,_=>exact G.obv [(11,.iface T x)] rfl rfl (fun A w ⟨e0,_⟩ hB=>cl1 cf_impl_codeOf e0 (C' w hB))
    |3,_=>exact G.ob_set (fun f=> [(4,.pointer (some ⟨w.heap.size+1,0,none⟩)),(10,.agg #[.slice none 0 0,int u64 0,int u64 0])]) rfl rfl rfl (by simp) l1 (fun j ob1 ob2 h=>by (rcases j with _|_|_|_|_|j)<;>simp [G.kindOf] at h⊢ <;>omega) (fun _=>by kernel_rfl) (fun f A w ⟨e0,e1,_⟩ hh hr=>pu_any e0 e1 hr rfl size_evd (by kernel_rfl))
    |4,_=>exact G.obv [(12,.int .i64 cd)] rfl rfl (fun A w ⟨e0,_⟩ hB=>doV_assign e0)
    |ix+5,h=>exact absurd h (by simp)
  intro f W3 hS _ _ _ hset;have q1:Bk W3 30 (w.heap.size+1) #[.slice none 0 0,int u64 0,int u64 0]:=hset 3 _ _ _ rfl (by decide);have hb3:Bl w W3:=hS.under hb.drew (by intro b h;rw [List.mem_singleton.1 h];omega) hb.size;clear hset hS d0 d1 d2;simp only [puts,List.foldl,Act.put,List.setIfInBounds_toArray,List.set_cons_zero,List.set_cons_succ];go_wp2;exact bodyPost_ret (v:= .tuple #[.agg #[.slice none 0 0,int u64 0,int u64 0],.int .i64 cd]) (bk_res2 (fn:=Tryz.f35) (p:=4) (u:=5) results35 _ rfl q1 underlying30 rfl sizeEvd) rfl ⟨rfl,hb3⟩
theorem evlE_of (Ψ:Value→World→Prop)(mode key r c s cd:Int)(info:ByteArray)(g n cap m:Nat)(L:List Pt)(er:Value)(w:World)
    (hst:∀v w' w'',Ψ v w'→Bl w' w''→Ψ v w'')(hO:∀v w',Ψ v w'→w'.ownsRow w.heap.size 34 3 v m (cells3 L))
    (BI:∀w',Bl w w'→Calls prog 36 #[.int .i64 mode,int u64 key,.string info,.slice (some ⟨g,0,none⟩) n cap,int u64 r] w' fun e w''=>∃V,e= .returned V∧(∃v,V= .tuple #[.agg #[v,int u64 c,int u64 s],er]∧Ψ v w'')∧Bl w' w'')
    (AN:∀w' v,Bl w w'→Ψ v w'→Cr 35 #[.agg #[v,int u64 c,int u64 s],er] w' (.tuple #[.agg #[v,int u64 c,int u64 s],.int .i64 cd])):
    Calls prog 8 #[.int .i64 mode,int u64 key,.string info,.slice (some ⟨g,0,none⟩) n cap,int u64 r] w fun e w'=>∃v,e= .returned (.tuple #[.agg #[v,int u64 c,int u64 s],.int .i64 cd])∧w'.ownsRow w.heap.size 34 3 v m (cells3 L)∧Bl w w'∧∃w2,Ψ v w2:=by
  have rA:=Bk.new w 30 #[.slice none 0 0,int u64 0,int u64 0];have hb:=balc w (Obj.cells #[.slice none 0 0,int u64 0,int u64 0] 30);go_enter func8,ntmps8;go_wp2_with fail;refine(BI _ hb).mono ?_;rintro e w1 ⟨V,rfl,⟨v,rfl,hψ⟩,b1⟩;replace rA:=rA.keep b1;replace hb:=hb.tr b1;clear BI b1;go_wp2_with fail;refine(AN _ v hb hψ).mono ?_;rintro e w2 ⟨rfl,b1⟩;replace rA:=rA.keep b1;have hψ2:=hst v _ _ hψ b1;have hown:=hO v w2 hψ2;replace hb:=hb.tr b1;clear AN b1 hψ hst hO;have hth:=rA.there 3 (by simp);have mk1:=True.intro;go_wp2_with (clear mk1;refine wpList_store_mid rfl 30 _ _ rfl w.heap.size 0 #[v,int u64 c,int u64 s] rfl rfl hth sizeEvd (onev hown _ _) ?_);exact bodyPost_ret (v:= .tuple #[.agg #[v,int u64 c,int u64 s],.int .i64 cd]) (bk_res2 (fn:=Tryz.f8) (p:=10) (u:=11) results8 _ rfl (rA.sets _ rfl) underlying30 rfl sizeEvd) rfl ⟨v,rfl,own_sets hown (own_ne_bk hown rA (by decide)) 0 _,below_setCells hb (by omega) _ _,w2,hψ2⟩
end
end Go.Proofs.YtmjniccfjffclaaGreatDoor
