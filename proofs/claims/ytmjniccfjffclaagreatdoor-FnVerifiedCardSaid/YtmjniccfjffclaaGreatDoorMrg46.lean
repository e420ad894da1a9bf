import Derived.Test.YtmjniccfjffclaaGreatDoorMrg35
import Derived.Test.YtmjniccfjffclaaGreatDoorMrg44
set_option linter.unusedVariables false
set_option maxRecDepth 100000
set_option maxHeartbeats 16000000
namespace Go.Proofs.YtmjniccfjffclaaGreatDoor
open Go.Proofs.Tryz Go.RowKit
open Go.Value (int)
open Go.IntKind (u64)
section
variable {A:Act}{w:World}{dst:Option Tmp}{ty:TypeId}{ps:String}{af:Array Edge}{gd:Option (Nat×Bool)}{x y:Operand}{b i:Nat}
theorem fa_evn0 (hx:A.eval x= .pointer (some ⟨b,i,none⟩)):
    Does prog (Opr dst (.fieldAddr 169 x 0) ty ps af gd) A w fun v' w'=>v'= .pointer (some ⟨b,i,none⟩)∧Bl w w':=dv (by generalize A.eval=ev at*;simp [execOp,hx,go_sem])
theorem fa_evn1 (hx:A.eval x= .pointer (some ⟨b,i,none⟩)):
    Does prog (Opr dst (.fieldAddr 169 x 1) ty ps af gd) A w fun v' w'=>v'= .pointer (some ⟨b,i+3,none⟩)∧Bl w w':=dv (by generalize A.eval=ev at*;simp [execOp,hx,go_sem])
theorem fa_evn2 (hx:A.eval x= .pointer (some ⟨b,i,none⟩)):
    Does prog (Opr dst (.fieldAddr 169 x 2) ty ps af gd) A w fun v' w'=>v'= .pointer (some ⟨b,i+4,none⟩)∧Bl w w':=dv (by generalize A.eval=ev at*;simp [execOp,hx,go_sem])
theorem bu0_evn:Does prog (Opr dst (.build 169 #[]) ty ps af gd) A w fun v' w'=>v'= .agg #[int u64 0,int u64 0,.bool false,int u64 0,int u64 0]∧Bl w w':=dv (by generalize A.eval=ev at*;simp [execOp,go_sem])
theorem size_evn:(prog.info? 169).map (·.size)=some 5:=by kernel_rfl
theorem ne_ptF (hx:A.eval x= .agg #[int u64 0,int u64 0,.bool true])(hy:A.eval y= .agg #[int u64 0,int u64 0,.bool true]):
    Does prog (Opr dst (.binOp .neq 34 x y 34) ty ps af gd) A w fun v' w'=>v'= .bool false∧Bl w w':=dv (by generalize A.eval=ev at*;simp [execOp,hx,hy,go_sem])
theorem ne_ptT {a c:Int}{d:Bool}(h: ¬ (a=0∧c=0∧d=true))(hx:A.eval x= .agg #[int u64 a,int u64 c,.bool d])(hy:A.eval y= .agg #[int u64 0,int u64 0,.bool true]):
    Does prog (Opr dst (.binOp .neq 34 x y 34) ty ps af gd) A w fun v' w'=>v'= .bool true∧Bl w w':=by
  have h' :(execOp A.eval (Opr dst (.binOp .neq 34 x y 34) ty ps af gd)).run prog w= .ok (.value (.bool true)) w:=by
    generalize A.eval=ev at*;by_cases h1:a=0
    · by_cases h2:c=0
      · have h3:d=false:=by cases d with
          |false=>rfl
          |true=>exact absurd ⟨h1,h2,rfl⟩ h
        subst h1 h2 h3;simp [execOp,hx,hy,go_sem]
      · subst h1;simp [execOp,hx,hy,h2,go_sem]
    · simp [execOp,hx,hy,h1,go_sem]
  exact does_value h' ⟨rfl,Below.refl _ _⟩
end
theorem cf_impl_batch_accepts (args:Array Value)(w:World):(callFunc 40 args).run prog w= .ok (.enter 40 args) w:=by kernel_rfl
theorem cf_impl_number_impl_primeN_inverse (args:Array Value)(w:World):(callFunc 99 args).run prog w= .ok (.enter 99 args) w:=by kernel_rfl
section
open M
def zEvn:Array Value:=#[int u64 0,int u64 0,.bool false,int u64 0,int u64 0]
theorem bldEvn (x y a b:Int)(c:Bool)(w:World):(Instr.build 169 #[(0,.agg #[int u64 x,int u64 y,.bool c]),(1,.agg #[int u64 a]),(2,.agg #[int u64 b])]).run prog w= .ok (.agg #[int u64 x,int u64 y,.bool c,int u64 a,int u64 b]) w:=run_build w _ _ _ (by kernel_rfl)
section
variable (pc ps:Int)(a0 a1 a2 a3:Addr)(w:World)(hs:Sn w a0 a1 a2 a3)
include hs
theorem evlI_n (a:Option Addr)(n cap:Nat)(hn:((n:Int) !=1)=true):
    Cr 97 #[.agg #[.slice a n cap,int u64 pc,int u64 ps]] w (.tuple #[.agg zEvn,flt ⟨#[101,108,101,109,101,110,116,115]⟩ (sen a0)]):=by
  have hg0:0<w.heap.size:=World.block_lt_of_cell? w _ hs.c0;obtain⟨X,hX⟩:∃X,X=(w.alloc (Obj.cells #[.slice a n cap,int u64 pc,int u64 ps] 30)).alloc (Obj.cells #[int u64 0,int u64 0,.bool false,int u64 0,int u64 0] 169):=⟨_,rfl⟩;have r1:Bk X 30 w.heap.size #[.slice a n cap,int u64 pc,int u64 ps]:=by rw [hX];exact(Bk.new _ _ _).alloc _
  have hr:Bk X 169 (w.heap.size+1) #[int u64 0,int u64 0,.bool false,int u64 0,int u64 0]:=by rw [hX];exact(Bk.new _ _ _).at (by simp)
  have hb:Bl w X:=by rw [hX];exact((Below.refl _ w).alloc (Nat.le_refl _) _).alloc (by simp) _
  have c0:=r1.cell (k:=0) rfl;rw [hX] at c0;go_enter func97,ntmps97;go_wp2;rw [←hX];clear hX c0;have g0:X.drew.cell? ⟨0,0,none⟩=_:=(hs.keep hb).c0;have n0:0∉ [w.heap.size+1]:=fun h=>absurd (List.mem_singleton.1 h) (by omega)
  have l1:w.heap.size+1<X.drew.heap.size:=hr.lt
  refine G.pool_list (W:=X) [w.heap.size+1] [.val (.agg #[int u64 0,int u64 0,.bool false,int u64 0,int u64 0]),
      .val (sen a0),
      .val (.agg #[.string ⟨#[101,108,101,109,101,110,116,115]⟩,sen a0]),
      .val (.iface 136 (.agg #[.string ⟨#[101,108,101,109,101,110,116,115]⟩,sen a0])),
      .set (w.heap.size+1) (.cells #[int u64 0,int u64 0,.bool false,int u64 0,int u64 0] 169) (.cells #[int u64 0,int u64 0,.bool false,int u64 0,int u64 0] 169),
      .val (.iface 136 (.agg #[.string ⟨#[101,108,101,109,101,110,116,115]⟩,sen a0]))] [[],[],[15],[16],[2,14],[17]] (fun f=> [(some 14,.agg #[int u64 0,int u64 0,.bool false,int u64 0,int u64 0]),(some 15,sen a0),(some 16,.agg #[.string ⟨#[101,108,101,109,101,110,116,115]⟩,sen a0]),(some 17,.iface 136 (.agg #[.string ⟨#[101,108,101,109,101,110,116,115]⟩,sen a0])),(none,undef),(some 3,.iface 136 (.agg #[.string ⟨#[101,108,101,109,101,110,116,115]⟩,sen a0]))]) (by kernel_rfl) (by kernel_rfl) (by kernel_rfl) (by kernel_rfl) (fun _=>by kernel_rfl) (G.last_of [.cells #[int u64 0,int u64 0,.bool false,int u64 0,int u64 0] 169] (fun F R hm=>by simp at hm) (fun ob ob' k hm=>by simp at hm) (fun b ob ob' hm=>by simp at hm;simp [hm])) (fun b ob ob' hm=>by simp at hm;obtain⟨rfl,rfl,-⟩:=hm;exact hr) ?_ ?_
  · intro ix hix
    match ix,hix with
    |0,_=>exact G.obv [] rfl rfl (fun A w _ hB=>bu0_evn)
    |1,_=>exact G.obv [] rfl rfl (fun A w _ hB=>ld_err rfl (hB.cell g0 n0))
    |2,_=>exact G.obv [(15,sen a0)] rfl rfl (fun A w ⟨e0,_⟩ hB=>bu_flt rfl e0)
    |3,_=>exact G.obv [(16,.agg #[.string ⟨#[101,108,101,109,101,110,116,115]⟩,sen a0])] rfl rfl (fun A w ⟨e0,_⟩ hB=>mi_flt e0)
    |4,_=>exact G.ob_set (fun f=> [(2,.pointer (some ⟨w.heap.size+1,0,none⟩)),(14,.agg #[int u64 0,int u64 0,.bool false,int u64 0,int u64 0])]) rfl rfl rfl (by simp) l1 (fun j ob1 ob2 h=>by (rcases j with _|_|_|_|_|_|j)<;>simp [G.kindOf] at h⊢ <;>omega) (fun _=>by kernel_rfl) (fun f A w ⟨e0,e1,_⟩ hh hr=>pu_any e0 e1 hr rfl size_evn (by kernel_rfl))
    |5,_=>exact G.obv [(17,.iface 136 (.agg #[.string ⟨#[101,108,101,109,101,110,116,115]⟩,sen a0]))] rfl rfl (fun A w ⟨e0,_⟩ hB=>doV_assign e0)
    |ix+6,h=>exact absurd h (by simp)
  intro f W3 hS _ _ _ hset;have q1:Bk W3 169 (w.heap.size+1) zEvn:=hset 4 _ _ _ rfl (by decide);have hb3:Bl w W3:=hS.under hb.drew (by intro b h;rw [List.mem_singleton.1 h];omega) hb.size;clear hset hS g0;simp only [puts,List.foldl,Act.put,List.setIfInBounds_toArray,List.set_cons_zero,List.set_cons_succ];go_wp2;exact bodyPost_ret (v:= .tuple #[.agg zEvn,flt ⟨#[101,108,101,109,101,110,116,115]⟩ (sen a0)]) (bk_res2 (fn:=Tryz.f97) (p:=2) (u:=3) results97 _ rfl q1 underlying169 rfl size_evn) rfl ⟨rfl,hb3⟩
variable (g o cap:Nat)(x y:Int)(c:Bool)(e0:w.cell? ⟨g,o,none⟩=some (int u64 x))(e1:w.cell? ⟨g,o+1,none⟩=some (int u64 y))(e2:w.cell? ⟨g,o+2,none⟩=some (.bool c))
include e0 e1 e2
omit hs in
theorem evlI_e
    (EL:Cb w 87 #[.agg #[int u64 x,int u64 y,.bool c]] (.tuple #[.agg #[int u64 0,int u64 0,.bool true],sen a0])):
    Cr 97 #[.agg #[.slice (some ⟨g,o,none⟩) 1 cap,int u64 pc,int u64 ps]] w (.tuple #[.agg zEvn,flt ⟨#[101,108,101,109,101,110,116]⟩ (sen a0)]):=by
  unfold flt sen at*;obtain⟨X,hX⟩:∃X,X=(w.alloc (Obj.cells #[.slice (some ⟨g,o,none⟩) 1 cap,int u64 pc,int u64 ps] 30)).alloc (Obj.cells #[int u64 0,int u64 0,.bool false,int u64 0,int u64 0] 169):=⟨_,rfl⟩;have r1:Bk X 30 w.heap.size #[.slice (some ⟨g,o,none⟩) 1 cap,int u64 pc,int u64 ps]:=by rw [hX];exact(Bk.new _ _ _).alloc _
  have hr:Bk X 169 (w.heap.size+1) #[int u64 0,int u64 0,.bool false,int u64 0,int u64 0]:=by rw [hX];exact(Bk.new _ _ _).at (by simp)
  have hb:Bl w X:=by rw [hX];exact((Below.refl _ w).alloc (Nat.le_refl _) _).alloc (by simp) _
  have c0:=r1.cell (k:=0) rfl;have d0:=(hb.cell (p:=⟨g,o,none⟩) (World.block_lt_of_cell? w _ e0)).trans e0;have d1:=(hb.cell (p:=⟨g,o+1,none⟩) (World.block_lt_of_cell? w _ e1)).trans e1;have d2:=(hb.cell (p:=⟨g,o+2,none⟩) (World.block_lt_of_cell? w _ e2)).trans e2;rw [hX] at c0 d0 d1 d2 hb hr;clear hX r1 e0 e1 e2;go_enter func97,ntmps97;go_wp2_with fail;refine(EL _ hb).mono ?_;rintro e w1 ⟨rfl,b1⟩;have hal:=balc w1 (Obj.cells #[int u64 0,int u64 0,.bool true] 75);replace hr:=(hr.keep b1).keep hal;replace hb:=hb.tr b1;replace hb:=hb.tr hal;clear EL b1 hal c0 d0 d1 d2;have hth:=hr.there 5 (by decide);go_wp2_with (refine wpList_store_mid rfl 169 _ _ rfl (w.heap.size+1) 0 zEvn rfl rfl hth size_evn (by kernel_rfl) ?_);exact bodyPost_ret (v:= .tuple #[.agg zEvn,flt ⟨#[101,108,101,109,101,110,116]⟩ (sen a0)]) (bk_res2 (fn:=Tryz.f97) (p:=2) (u:=3) results97 _ rfl (hr.sets _ rfl) underlying169 rfl size_evn) rfl ⟨rfl,below_setCells hb (by omega) _ _⟩
variable (q:Pt)
    (EL:Cb w 87 #[.agg #[int u64 x,int u64 y,.bool c]] (.tuple #[.agg #[int u64 (px q),int u64 (py q),.bool (pb q)],.nilIface]))
include EL
theorem evlI_x (zc zs:Int)(o1 o2:Bool)
    (XC:Cc 39 #[int u64 pc,.agg #[]] (.tuple #[.agg #[int u64 zc],.bool o1]))
    (XS:Cc 39 #[int u64 ps,.agg #[]] (.tuple #[.agg #[int u64 zs],.bool o2])):
    Cr 97 #[.agg #[.slice (some ⟨g,o,none⟩) 1 cap,int u64 pc,int u64 ps]] w (if (o1&&o2)=true then .tuple #[.agg #[int u64 (px q),int u64 (py q),.bool (pb q),int u64 zc,int u64 zs],.nilIface] else .tuple #[.agg zEvn,flt ⟨#[112,114,111,111,102]⟩ (sen a0)]):=by
  obtain⟨V,hV⟩:∃V:Value,Hid (V=(if (o1&&o2)=true then .tuple #[.agg #[int u64 (px q),int u64 (py q),.bool (pb q),int u64 zc,int u64 zs],.nilIface] else .tuple #[.agg zEvn,flt ⟨#[112,114,111,111,102]⟩ (sen a0)])):=⟨_,rfl⟩;rw [←hV.out];have hg0:0<w.heap.size:=World.block_lt_of_cell? w _ hs.c0;have hB:=bldEvn (px q) (py q) zc zs (pb q);obtain⟨X,hX⟩:∃X,X=(w.alloc (Obj.cells #[.slice (some ⟨g,o,none⟩) 1 cap,int u64 pc,int u64 ps] 30)).alloc (Obj.cells #[int u64 0,int u64 0,.bool false,int u64 0,int u64 0] 169):=⟨_,rfl⟩;have r1:Bk X 30 w.heap.size #[.slice (some ⟨g,o,none⟩) 1 cap,int u64 pc,int u64 ps]:=by rw [hX];exact(Bk.new _ _ _).alloc _
  have hr:Bk X 169 (w.heap.size+1) #[int u64 0,int u64 0,.bool false,int u64 0,int u64 0]:=by rw [hX];exact(Bk.new _ _ _).at (by simp)
  have hb:Bl w X:=by rw [hX];exact((Below.refl _ w).alloc (Nat.le_refl _) _).alloc (by simp) _
  have c0:=r1.cell (k:=0) rfl;have d0:=(hb.cell (p:=⟨g,o,none⟩) (World.block_lt_of_cell? w _ e0)).trans e0;have d1:=(hb.cell (p:=⟨g,o+1,none⟩) (World.block_lt_of_cell? w _ e1)).trans e1;have d2:=(hb.cell (p:=⟨g,o+2,none⟩) (World.block_lt_of_cell? w _ e2)).trans e2;rw [hX] at c0 d0 d1 d2 hb hr r1;clear hX e0 e1 e2;go_enter func97,ntmps97;go_wp2_with fail;refine(EL _ hb).mono ?_;rintro e w1 ⟨rfl,b1⟩;have hal:=balc w1 (Obj.cells #[int u64 (px q),int u64 (py q),.bool (pb q)] 75);have r4:=Bk.new w1 75 #[int u64 (px q),int u64 (py q),.bool (pb q)];replace hr:=(hr.keep b1).keep hal;replace r1:=(r1.keep b1).keep hal;replace hb:=hb.tr b1;replace hb:=hb.tr hal;clear EL b1 hal c0 d0 d1 d2;have c1:=r1.cell (k:=1) rfl;go_wp2_with fail;refine(XC _).mono ?_;rintro e w2 ⟨rfl,b1⟩;have hal:=balc w2 (Obj.cells #[int u64 zc] 86);have r6:=Bk.new w2 86 #[int u64 zc];replace hr:=(hr.keep b1).keep hal;replace r1:=(r1.keep b1).keep hal;replace r4:=(r4.keep b1).keep hal;replace hb:=hb.tr b1;replace hb:=hb.tr hal;clear XC b1 hal c1;have c1:=r1.cell (k:=2) rfl;go_wp2_with fail;refine(XS _).mono ?_;rintro e w3 ⟨rfl,b1⟩;obtain⟨W4,hW4⟩:∃W4,W4=w3.alloc (Obj.cells #[int u64 zs] 86):=⟨_,rfl⟩;have hal:Bl w3 W4:=by rw [hW4];exact(Below.refl _ w3).alloc (Nat.le_refl _) _
  have r8:Bk W4 86 w3.heap.size #[int u64 zs]:=by rw [hW4];exact Bk.new _ _ _
  replace hr:=(hr.keep b1).keep hal;replace r4:=(r4.keep b1).keep hal;replace r6:=(r6.keep b1).keep hal;replace hb:=hb.tr b1;replace hb:=hb.tr hal;clear XS b1 hal c1 r1;by_cases h1:(o1&&o2)=true
  · have hV':Hid (V= .tuple #[.agg #[int u64 (px q),int u64 (py q),.bool (pb q),int u64 zc,int u64 zs],.nilIface]):=by unfold Hid;rw [hV.out,if_pos h1]
    obtain⟨rfl,rfl⟩:o1=true∧o2=true:=by simpa using h1
    clear h1;have q0:=r4.cell (k:=0) rfl;have q1:=r4.cell (k:=1) rfl;have q2:=r4.cell (k:=2) rfl;have q3:=r6.cell (k:=0) rfl;have q4:=r8.cell (k:=0) rfl;have hth:=hr.there 5 (by decide);rw [hW4] at q0 q1 q2 q3 q4 hth hr hb;go_wp2_with (refine wpList_store_mid rfl 169 _ _ rfl (w.heap.size+1) 0 #[int u64 (px q),int u64 (py q),.bool (pb q),int u64 zc,int u64 zs] rfl rfl hth size_evn (by kernel_rfl) ?_);exact bodyPost_ret (v:= .tuple #[.agg #[int u64 (px q),int u64 (py q),.bool (pb q),int u64 zc,int u64 zs],.nilIface]) (bk_res2 (fn:=Tryz.f97) (p:=2) (u:=3) results97 _ rfl (hr.sets _ rfl) underlying169 rfl size_evn) rfl ⟨by rw [hV'.out],below_setCells hb (by omega) _ _⟩
  · have hV':Hid (V= .tuple #[.agg zEvn,flt ⟨#[112,114,111,111,102]⟩ (sen a0)]):=by unfold Hid;rw [hV.out,if_neg h1]
    have fin:∀A:Act,True:=fun _=>trivial
    clear fin
    cases o1 with
    | false=>
      clear h1;go_wp2;rw [←hW4];clear hW4;have g0:W4.drew.cell? ⟨0,0,none⟩=_:=(hs.keep hb).c0;have n0:0∉ [w.heap.size+1]:=fun h=>absurd (List.mem_singleton.1 h) (by omega)
      have l1:w.heap.size+1<W4.drew.heap.size:=hr.lt
      refine G.pool_list (W:=W4) [w.heap.size+1] [.val (.agg #[int u64 0,int u64 0,.bool false,int u64 0,int u64 0]),
          .val (sen a0),
          .val (.agg #[.string ⟨#[112,114,111,111,102]⟩,sen a0]),
          .val (.iface 136 (.agg #[.string ⟨#[112,114,111,111,102]⟩,sen a0])),
          .set (w.heap.size+1) (.cells #[int u64 0,int u64 0,.bool false,int u64 0,int u64 0] 169) (.cells #[int u64 0,int u64 0,.bool false,int u64 0,int u64 0] 169),
          .val (.iface 136 (.agg #[.string ⟨#[112,114,111,111,102]⟩,sen a0]))] [[],[],[55],[56],[2,54],[57]] (fun f=> [(some 54,.agg #[int u64 0,int u64 0,.bool false,int u64 0,int u64 0]),(some 55,sen a0),(some 56,.agg #[.string ⟨#[112,114,111,111,102]⟩,sen a0]),(some 57,.iface 136 (.agg #[.string ⟨#[112,114,111,111,102]⟩,sen a0])),(none,undef),(some 3,.iface 136 (.agg #[.string ⟨#[112,114,111,111,102]⟩,sen a0]))]) (by kernel_rfl) (by kernel_rfl) (by kernel_rfl) (by kernel_rfl) (fun _=>by kernel_rfl) (G.last_of [.cells #[int u64 0,int u64 0,.bool false,int u64 0,int u64 0] 169] (fun F R hm=>by simp at hm) (fun ob ob' k hm=>by simp at hm) (fun b ob ob' hm=>by simp at hm;simp [hm])) (fun b ob ob' hm=>by simp at hm;obtain⟨rfl,rfl,-⟩:=hm;exact hr) ?_ ?_
      · intro ix hix
        match ix,hix with
        |0,_=>exact G.obv [] rfl rfl (fun A w _ hB=>bu0_evn)
        |1,_=>exact G.obv [] rfl rfl (fun A w _ hB=>ld_err rfl (hB.cell g0 n0))
        |2,_=>exact G.obv [(55,sen a0)] rfl rfl (fun A w ⟨e0,_⟩ hB=>bu_flt rfl e0)
        |3,_=>exact G.obv [(56,.agg #[.string ⟨#[112,114,111,111,102]⟩,sen a0])] rfl rfl (fun A w ⟨e0,_⟩ hB=>mi_flt e0)
        |4,_=>exact G.ob_set (fun f=> [(2,.pointer (some ⟨w.heap.size+1,0,none⟩)),(54,.agg #[int u64 0,int u64 0,.bool false,int u64 0,int u64 0])]) rfl rfl rfl (by simp) l1 (fun j ob1 ob2 h=>by (rcases j with _|_|_|_|_|_|j)<;>simp [G.kindOf] at h⊢ <;>omega) (fun _=>by kernel_rfl) (fun f A w ⟨e0,e1,_⟩ hh hr=>pu_any e0 e1 hr rfl size_evn (by kernel_rfl))
        |5,_=>exact G.obv [(57,.iface 136 (.agg #[.string ⟨#[112,114,111,111,102]⟩,sen a0]))] rfl rfl (fun A w ⟨e0,_⟩ hB=>doV_assign e0)
        |ix+6,h=>exact absurd h (by simp)
      intro f W5 hS _ _ _ hset;have q1:Bk W5 169 (w.heap.size+1) zEvn:=hset 4 _ _ _ rfl (by decide);have hb3:Bl w W5:=hS.under hb.drew (by intro b h;rw [List.mem_singleton.1 h];omega) hb.size;clear hset hS g0;simp only [puts,List.foldl,Act.put,List.setIfInBounds_toArray,List.set_cons_zero,List.set_cons_succ];go_wp2;exact bodyPost_ret (v:= .tuple #[.agg zEvn,flt ⟨#[112,114,111,111,102]⟩ (sen a0)]) (bk_res2 (fn:=Tryz.f97) (p:=2) (u:=3) results97 _ rfl q1 underlying169 rfl size_evn) rfl ⟨by rw [hV'.out],hb3⟩
    | true=>
      obtain rfl:o2=false:=by simpa using h1
      clear h1;go_wp2;rw [←hW4];clear hW4;have g0:W4.drew.cell? ⟨0,0,none⟩=_:=(hs.keep hb).c0;have n0:0∉ [w.heap.size+1]:=fun h=>absurd (List.mem_singleton.1 h) (by omega)
      have l1:w.heap.size+1<W4.drew.heap.size:=hr.lt
      refine G.pool_list (W:=W4) [w.heap.size+1] [.val (.agg #[int u64 0,int u64 0,.bool false,int u64 0,int u64 0]),
          .val (sen a0),
          .val (.agg #[.string ⟨#[112,114,111,111,102]⟩,sen a0]),
          .val (.iface 136 (.agg #[.string ⟨#[112,114,111,111,102]⟩,sen a0])),
          .set (w.heap.size+1) (.cells #[int u64 0,int u64 0,.bool false,int u64 0,int u64 0] 169) (.cells #[int u64 0,int u64 0,.bool false,int u64 0,int u64 0] 169),
          .val (.iface 136 (.agg #[.string ⟨#[112,114,111,111,102]⟩,sen a0]))] [[],[],[55],[56],[2,54],[57]] (fun f=> [(some 54,.agg #[int u64 0,int u64 0,.bool false,int u64 0,int u64 0]),(some 55,sen a0),(some 56,.agg #[.string ⟨#[112,114,111,111,102]⟩,sen a0]),(some 57,.iface 136 (.agg #[.string ⟨#[112,114,111,111,102]⟩,sen a0])),(none,undef),(some 3,.iface 136 (.agg #[.string ⟨#[112,114,111,111,102]⟩,sen a0]))]) (by kernel_rfl) (by kernel_rfl) (by kernel_rfl) (by kernel_rfl) (fun _=>by kernel_rfl) (G.last_of [.cells #[int u64 0,int u64 0,.bool false,int u64 0,int u64 0] 169] (fun F R hm=>by simp at hm) (fun ob ob' k hm=>by simp at hm) (fun b ob ob' hm=>by simp at hm;simp [hm])) (fun b ob ob' hm=>by simp at hm;obtain⟨rfl,rfl,-⟩:=hm;exact hr) ?_ ?_
      · intro ix hix
        match ix,hix with
        |0,_=>exact G.obv [] rfl rfl (fun A w _ hB=>bu0_evn)
        |1,_=>exact G.obv [] rfl rfl (fun A w _ hB=>ld_err rfl (hB.cell g0 n0))
        |2,_=>exact G.obv [(55,sen a0)] rfl rfl (fun A w ⟨e0,_⟩ hB=>bu_flt rfl e0)
        |3,_=>exact G.obv [(56,.agg #[.string ⟨#[112,114,111,111,102]⟩,sen a0])] rfl rfl (fun A w ⟨e0,_⟩ hB=>mi_flt e0)
        |4,_=>exact G.ob_set (fun f=> [(2,.pointer (some ⟨w.heap.size+1,0,none⟩)),(54,.agg #[int u64 0,int u64 0,.bool false,int u64 0,int u64 0])]) rfl rfl rfl (by simp) l1 (fun j ob1 ob2 h=>by (rcases j with _|_|_|_|_|_|j)<;>simp [G.kindOf] at h⊢ <;>omega) (fun _=>by kernel_rfl) (fun f A w ⟨e0,e1,_⟩ hh hr=>pu_any e0 e1 hr rfl size_evn (by kernel_rfl))
        |5,_=>exact G.obv [(57,.iface 136 (.agg #[.string ⟨#[112,114,111,111,102]⟩,sen a0]))] rfl rfl (fun A w ⟨e0,_⟩ hB=>doV_assign e0)
        |ix+6,h=>exact absurd h (by simp)
      intro f W5 hS _ _ _ hset;have q1:Bk W5 169 (w.heap.size+1) zEvn:=hset 4 _ _ _ rfl (by decide);have hb3:Bl w W5:=hS.under hb.drew (by intro b h;rw [List.mem_singleton.1 h];omega) hb.size;clear hset hS g0;simp only [puts,List.foldl,Act.put,List.setIfInBounds_toArray,List.set_cons_zero,List.set_cons_succ];go_wp2;exact bodyPost_ret (v:= .tuple #[.agg zEvn,flt ⟨#[112,114,111,111,102]⟩ (sen a0)]) (bk_res2 (fn:=Tryz.f97) (p:=2) (u:=3) results97 _ rfl q1 underlying169 rfl size_evn) rfl ⟨by rw [hV'.out],hb3⟩
end
theorem fnI_of (mode blind pc ps x1 y1 x2 y2 x3 y3 c s iv:Int)(c1 c2 c3:Bool)(input info cx sE R:ByteArray)(a:Option Addr)(n cap:Nat)(ev el q b u:Pt)(F0 F1 F2 F3 F4 F5 F6:FuncId)(T:TypeId)(z V:Value)(a0 a1 a2 a3:Addr)(w:World)(hs:Sn w a0 a1 a2 a3)(hcf:∀(args:Array Value) (w:World),(callFunc F4 args).run prog w= .ok (.enter F4 args) w)
    (H:(V= .tuple #[.string ⟨#[]⟩,.iface T z]∧(Cb w 71 #[.int .i64 mode,.string info] (.tuple #[.agg #[.string ⟨#[]⟩,.string ⟨#[]⟩,.nilFunc,.nilFunc,.nilFunc,.nilFunc,.nilFunc,.nilFunc,.nilFunc],.iface T z])))∨
      ((Cb w 71 #[.int .i64 mode,.string info] (.tuple #[.agg #[.string cx,.string info,.func (.func F0) #[] #[],.func (.func F1) #[] #[],.func (.func F2) #[] #[],.func (.func F3) #[] #[],.func (.func F4) #[] #[],.func (.func F5) #[] #[],.func (.func F6) #[] #[]],.nilIface]))∧((V= .tuple #[.string ⟨#[]⟩,flt ⟨#[105,110,112,117,116]⟩ (sen a0)]∧65535<input.size)∨
      (input.size≤65535∧((V= .tuple #[.string ⟨#[]⟩,flt ⟨#[98,108,105,110,100]⟩ (sen a0)]∧(Cb w 72 #[int u64 blind] (.tuple #[.agg #[int u64 0],sen a0])))∨
      ((Cb w 72 #[int u64 blind] (.tuple #[.agg #[int u64 blind],.nilIface]))∧((V= .tuple #[.string ⟨#[]⟩,flt ⟨#[101,118,97,108,117,97,116,101,100]⟩ (flt sE (sen a0))]∧(Cb w 97 #[.agg #[.slice a n cap,int u64 pc,int u64 ps]] (.tuple #[.agg zEvn,flt sE (sen a0)])))∨
      ((Cb w 97 #[.agg #[.slice a n cap,int u64 pc,int u64 ps]] (.tuple #[.agg #[int u64 (px ev),int u64 (py ev),.bool (pb ev),int u64 c,int u64 s],.nilIface]))∧((V= .tuple #[.string ⟨#[]⟩,flt ⟨#[98,108,105,110,100,101,100,32,101,108,101,109,101,110,116]⟩ (sen a0)]∧(Cb w 87 #[.agg #[int u64 x1,int u64 y1,.bool c1]] (.tuple #[.agg #[int u64 0,int u64 0,.bool true],sen a0])))∨
      ((Cb w 87 #[.agg #[int u64 x1,int u64 y1,.bool c1]] (.tuple #[.agg #[int u64 (px el),int u64 (py el),.bool (pb el)],.nilIface]))∧((V= .tuple #[.string ⟨#[]⟩,flt ⟨#[112,117,98,108,105,99]⟩ (sen a0)]∧(Cb w 87 #[.agg #[int u64 x3,int u64 y3,.bool c3]] (.tuple #[.agg #[int u64 0,int u64 0,.bool true],sen a0])))∨
      ((Cb w 87 #[.agg #[int u64 x3,int u64 y3,.bool c3]] (.tuple #[.agg #[int u64 (px q),int u64 (py q),.bool (pb q)],.nilIface]))∧((V= .tuple #[.string ⟨#[]⟩,flt ⟨#[116,119,101,97,107,101,100]⟩ (sen a0)]∧(Cb w F4 #[.agg #[int u64 (px q),int u64 (py q),.bool (pb q)],.agg #[int u64 x2,int u64 y2,.bool c2]] (.tuple #[.agg #[int u64 0,int u64 0,.bool true],sen a0])))∨
      ((Cb w F4 #[.agg #[int u64 (px q),int u64 (py q),.bool (pb q)],.agg #[int u64 x2,int u64 y2,.bool c2]] (.tuple #[.agg #[int u64 (px b),int u64 (py b),.bool (pb b)],.nilIface]))∧((V= .tuple #[.string ⟨#[]⟩,flt ⟨#[112,114,111,111,102]⟩ (sen a3)]∧(Cb w 98 #[.agg #[.string cx,.string info,.func (.func F0) #[] #[],.func (.func F1) #[] #[],.func (.func F2) #[] #[],.func (.func F3) #[] #[],.func (.func F4) #[] #[],.func (.func F5) #[] #[],.func (.func F6) #[] #[]],.agg #[int u64 (px b),int u64 (py b),.bool (pb b)],.agg #[int u64 (px el),int u64 (py el),.bool (pb el)],.agg #[int u64 (px ev),int u64 (py ev),.bool (pb ev),int u64 c,int u64 s]] (sen a3)))∨
      ((Cb w 98 #[.agg #[.string cx,.string info,.func (.func F0) #[] #[],.func (.func F1) #[] #[],.func (.func F2) #[] #[],.func (.func F3) #[] #[],.func (.func F4) #[] #[],.func (.func F5) #[] #[],.func (.func F6) #[] #[]],.agg #[int u64 (px b),int u64 (py b),.bool (pb b)],.agg #[int u64 (px el),int u64 (py el),.bool (pb el)],.agg #[int u64 (px ev),int u64 (py ev),.bool (pb ev),int u64 c,int u64 s]] (.nilIface))∧(V= .tuple #[.string R,.nilIface]∧(Cc 99 #[.agg #[int u64 blind]] (.agg #[int u64 iv]))∧(Cc 42 #[.agg #[int u64 (px ev),int u64 (py ev),.bool (pb ev)],int u64 iv] (.agg #[int u64 (px u),int u64 (py u),.bool (pb u)]))∧(Cb w 96 #[.agg #[.string cx,.string info,.func (.func F0) #[] #[],.func (.func F1) #[] #[],.func (.func F2) #[] #[],.func (.func F3) #[] #[],.func (.func F4) #[] #[],.func (.func F5) #[] #[],.func (.func F6) #[] #[]],.string input,.agg #[int u64 (px u),int u64 (py u),.bool (pb u)]] (.string R))))))))))))))))))):
    Cr 55 #[.int .i64 mode,.string input,.string info,int u64 blind,.agg #[.slice a n cap,int u64 pc,int u64 ps],.agg #[int u64 x1,int u64 y1,.bool c1,int u64 x2,int u64 y2,.bool c2],.agg #[int u64 x3,int u64 y3,.bool c3]] w V:=by
  unfold flt sen zEvn at*;obtain⟨X,hX⟩:∃X,X=((w.alloc (Obj.cells #[.slice a n cap,int u64 pc,int u64 ps] 30)).alloc (Obj.cells #[int u64 x1,int u64 y1,.bool c1,int u64 x2,int u64 y2,.bool c2] 39)).alloc (Obj.cells #[int u64 x3,int u64 y3,.bool c3] 34):=⟨_,rfl⟩;have rE:Bk X 30 w.heap.size #[.slice a n cap,int u64 pc,int u64 ps]:=by rw [hX];exact((Bk.new _ _ _).alloc _).alloc _
  have rB:Bk X 39 (w.heap.size+1) #[int u64 x1,int u64 y1,.bool c1,int u64 x2,int u64 y2,.bool c2]:=by rw [hX];exact((Bk.new _ _ _).at (by simp)).alloc _
  have rP:Bk X 34 (w.heap.size+1+1) #[int u64 x3,int u64 y3,.bool c3]:=by rw [hX];exact(Bk.new _ _ _).at (by simp)
  have hb:Bl w X:=by rw [hX];exact(((Below.refl _ w).alloc (Nat.le_refl _) _).alloc (by simp) _).alloc (by simp;omega) _
  rw [hX] at rE rB rP hb;clear hX;go_enter func55,ntmps55;go_wp2_with fail;rcases H with ⟨hV,FP⟩|⟨FP,H⟩
  · refine(FP _ hb).mono ?_;rintro e w1 ⟨rfl,b1⟩;replace hb:=hb.tr b1;replace hb:=hb.trans ((balc w1 (Obj.cells #[.string ⟨#[]⟩,.string ⟨#[]⟩,.nilFunc,.nilFunc,.nilFunc,.nilFunc,.nilFunc,.nilFunc,.nilFunc] 130)).mono hb.size);clear FP b1;go_wp2;go_ret2;exact⟨by subst hV;rfl,hb⟩
  refine(FP _ hb).mono ?_;rintro e w1 ⟨rfl,b1⟩;have hal:=balc w1 (Obj.cells #[.string cx,.string info,.func (.func F0) #[] #[],.func (.func F1) #[] #[],.func (.func F2) #[] #[],.func (.func F3) #[] #[],.func (.func F4) #[] #[],.func (.func F5) #[] #[],.func (.func F6) #[] #[]] 130);have r16:=Bk.new w1 130 #[.string cx,.string info,.func (.func F0) #[] #[],.func (.func F1) #[] #[],.func (.func F2) #[] #[],.func (.func F3) #[] #[],.func (.func F4) #[] #[],.func (.func F5) #[] #[],.func (.func F6) #[] #[]];replace rE:=(rE.keep b1).keep hal;replace rB:=(rB.keep b1).keep hal;replace rP:=(rP.keep b1).keep hal;replace hb:=hb.tr b1;replace hb:=hb.tr hal;clear FP b1 hal;rcases H with ⟨hV,hl⟩|⟨hl,H⟩
  · have hl:(65535:Int)<(input.size:Int):=by omega
    go_wp2;generalize w1.alloc _=w1' at*;have g0:w1'.drew.cell? ⟨0,0,none⟩=_:=(hs.keep hb).c0
    refine G.pool_list (W:=w1') [] [.val (.iface 299 (.pointer (some a0))),
        .val (.agg #[.string ⟨#[105,110,112,117,116]⟩,.iface 299 (.pointer (some a0))]),
        .val (.iface 136 (.agg #[.string ⟨#[105,110,112,117,116]⟩,.iface 299 (.pointer (some a0))])),
        .val (.string ⟨#[]⟩),
        .val (.iface 136 (.agg #[.string ⟨#[105,110,112,117,116]⟩,.iface 299 (.pointer (some a0))]))] [[],[36],[37],[],[38]] (fun f=> [(some 36,.iface 299 (.pointer (some a0))),(some 37,.agg #[.string ⟨#[105,110,112,117,116]⟩,.iface 299 (.pointer (some a0))]),(some 38,.iface 136 (.agg #[.string ⟨#[105,110,112,117,116]⟩,.iface 299 (.pointer (some a0))])),(some 14,.string ⟨#[]⟩),(some 15,.iface 136 (.agg #[.string ⟨#[105,110,112,117,116]⟩,.iface 299 (.pointer (some a0))]))]) (by kernel_rfl) (by kernel_rfl) (by kernel_rfl) (by kernel_rfl) (fun _=>by kernel_rfl) (G.last_of [] (fun F R hm=>by simp at hm) (fun ob ob' k hm=>by simp at hm) (fun b ob ob' hm=>by simp at hm)) (fun b ob ob' hm=>by simp at hm) ?_ ?_
    · intro ix hix
      match ix,hix with
      |0,_=>exact G.obv [] rfl rfl (fun A w _ hB=>ld_err rfl (hB.cell g0 (by simp)))
      |1,_=>exact G.obv [(36,.iface 299 (.pointer (some a0)))] rfl rfl (fun A w ⟨e0,_⟩ hB=>bu_flt rfl e0)
      |2,_=>exact G.obv [(37,.agg #[.string ⟨#[105,110,112,117,116]⟩,.iface 299 (.pointer (some a0))])] rfl rfl (fun A w ⟨e0,_⟩ hB=>mi_flt e0)
      |3,_=>exact G.obv [] rfl rfl (fun A w _ hB=>doV_assign rfl)
      |4,_=>exact G.obv [(38,.iface 136 (.agg #[.string ⟨#[105,110,112,117,116]⟩,.iface 299 (.pointer (some a0))]))] rfl rfl (fun A w ⟨e0,_⟩ hB=>doV_assign e0)
      |ix+5,h=>exact absurd h (by simp)
    intro f W2 hS _ _ _ _;replace hb:=hb.drew.trans (hS.below.mono hb.size);clear hS g0;simp only [puts,List.foldl,Act.put,List.setIfInBounds_toArray,List.set_cons_zero,List.set_cons_succ];go_wp2;go_ret2;exact⟨by subst hV;rfl,hb⟩
  have hl: ¬ (65535:Int)<(input.size:Int):=by omega
  go_wp2_with fail;rcases H with ⟨hV,FF⟩|⟨FF,H⟩
  · refine(FF _ hb).mono ?_;rintro e w2 ⟨rfl,b1⟩;replace hb:=hb.tr b1;replace hb:=hb.trans ((balc w2 (Obj.cells #[int u64 0] 86)).mono hb.size);clear FF b1;go_wp2;go_ret2;exact⟨by subst hV;rfl,hb⟩
  refine(FF _ hb).mono ?_;rintro e w2 ⟨rfl,b1⟩;have hal:=balc w2 (Obj.cells #[int u64 blind] 86);have r18:=Bk.new w2 86 #[int u64 blind];replace rE:=(rE.keep b1).keep hal;replace rB:=(rB.keep b1).keep hal;replace rP:=(rP.keep b1).keep hal;replace r16:=(r16.keep b1).keep hal;replace hb:=hb.tr b1;replace hb:=hb.tr hal;clear FF b1 hal;have rEc0:=rE.cell (k:=0) rfl;have rEc1:=rE.cell (k:=1) rfl;have rEc2:=rE.cell (k:=2) rfl;go_wp2_with fail;rcases H with ⟨hV,EV⟩|⟨EV,H⟩
  · refine(EV _ hb).mono ?_;rintro e w3 ⟨rfl,b1⟩;replace hb:=hb.tr b1;replace hb:=hb.trans ((balc w3 (Obj.cells #[int u64 0,int u64 0,.bool false,int u64 0,int u64 0] 169)).mono hb.size);clear EV b1 rEc0 rEc1 rEc2;go_wp2;go_ret2;exact⟨by subst hV;rfl,hb⟩
  refine(EV _ hb).mono ?_;rintro e w3 ⟨rfl,b1⟩;have hal:=balc w3 (Obj.cells #[int u64 (px ev),int u64 (py ev),.bool (pb ev),int u64 c,int u64 s] 169);have r19:=Bk.new w3 169 #[int u64 (px ev),int u64 (py ev),.bool (pb ev),int u64 c,int u64 s];replace rB:=(rB.keep b1).keep hal;replace rP:=(rP.keep b1).keep hal;replace r16:=(r16.keep b1).keep hal;replace r18:=(r18.keep b1).keep hal;replace hb:=hb.tr b1;replace hb:=hb.tr hal;clear EV b1 hal rEc0 rEc1 rEc2 rE;have rBc0:=rB.cell (k:=0) rfl;have rBc1:=rB.cell (k:=1) rfl;have rBc2:=rB.cell (k:=2) rfl;go_wp2_with fail;rcases H with ⟨hV,EL⟩|⟨EL,H⟩
  · refine(EL _ hb).mono ?_;rintro e w4 ⟨rfl,b1⟩;replace hb:=hb.tr b1;replace hb:=hb.trans ((balc w4 (Obj.cells #[int u64 0,int u64 0,.bool true] 75)).mono hb.size);clear EL b1 rBc0 rBc1 rBc2;go_wp2;go_ret2;exact⟨by subst hV;rfl,hb⟩
  refine(EL _ hb).mono ?_;rintro e w4 ⟨rfl,b1⟩;have hal:=balc w4 (Obj.cells #[int u64 (px el),int u64 (py el),.bool (pb el)] 75);have r20:=Bk.new w4 75 #[int u64 (px el),int u64 (py el),.bool (pb el)];replace rB:=(rB.keep b1).keep hal;replace rP:=(rP.keep b1).keep hal;replace r16:=(r16.keep b1).keep hal;replace r18:=(r18.keep b1).keep hal;replace r19:=(r19.keep b1).keep hal;replace hb:=hb.tr b1;replace hb:=hb.tr hal;clear EL b1 hal rBc0 rBc1 rBc2;have rPc0:=rP.cell (k:=0) rfl;have rPc1:=rP.cell (k:=1) rfl;have rPc2:=rP.cell (k:=2) rfl;go_wp2_with fail;rcases H with ⟨hV,PB⟩|⟨PB,H⟩
  · refine(PB _ hb).mono ?_;rintro e w5 ⟨rfl,b1⟩;replace hb:=hb.tr b1;replace hb:=hb.trans ((balc w5 (Obj.cells #[int u64 0,int u64 0,.bool true] 75)).mono hb.size);clear PB b1 rPc0 rPc1 rPc2;go_wp2;go_ret2;exact⟨by subst hV;rfl,hb⟩
  refine(PB _ hb).mono ?_;rintro e w5 ⟨rfl,b1⟩;have hal:=balc w5 (Obj.cells #[int u64 (px q),int u64 (py q),.bool (pb q)] 75);have r21:=Bk.new w5 75 #[int u64 (px q),int u64 (py q),.bool (pb q)];replace rB:=(rB.keep b1).keep hal;replace r16:=(r16.keep b1).keep hal;replace r18:=(r18.keep b1).keep hal;replace r19:=(r19.keep b1).keep hal;replace r20:=(r20.keep b1).keep hal;replace hb:=hb.tr b1;replace hb:=hb.tr hal;clear PB b1 hal rPc0 rPc1 rPc2 rP;have r16c6:=r16.cell (k:=6) rfl;have r21c0:=r21.cell (k:=0) rfl;have r21c1:=r21.cell (k:=1) rfl;have r21c2:=r21.cell (k:=2) rfl;have rBc3:=rB.cell (k:=3) rfl;have rBc4:=rB.cell (k:=4) rfl;have rBc5:=rB.cell (k:=5) rfl;go_wp2_with fail;rcases H with ⟨hV,PV⟩|⟨PV,H⟩
  · refine(PV _ hb).mono ?_;rintro e w6 ⟨rfl,b1⟩;replace hb:=hb.tr b1;replace hb:=hb.trans ((balc w6 (Obj.cells #[int u64 0,int u64 0,.bool true] 75)).mono hb.size);clear PV b1 r16c6 r21c0 r21c1 r21c2 rBc3 rBc4 rBc5;go_wp2;go_ret2;exact⟨by subst hV;rfl,hb⟩
  refine(PV _ hb).mono ?_;rintro e w6 ⟨rfl,b1⟩;have hal:=balc w6 (Obj.cells #[int u64 (px b),int u64 (py b),.bool (pb b)] 75);have r22:=Bk.new w6 75 #[int u64 (px b),int u64 (py b),.bool (pb b)];replace r16:=(r16.keep b1).keep hal;replace r18:=(r18.keep b1).keep hal;replace r19:=(r19.keep b1).keep hal;replace r20:=(r20.keep b1).keep hal;replace hb:=hb.tr b1;replace hb:=hb.tr hal;clear PV b1 hal r16c6 r21c0 r21c1 r21c2 rBc3 rBc4 rBc5 rB r21;have r16c0:=r16.cell (k:=0) rfl;have r16c1:=r16.cell (k:=1) rfl;have r16c2:=r16.cell (k:=2) rfl;have r16c3:=r16.cell (k:=3) rfl;have r16c4:=r16.cell (k:=4) rfl;have r16c5:=r16.cell (k:=5) rfl;have r16c6:=r16.cell (k:=6) rfl;have r16c7:=r16.cell (k:=7) rfl;have r16c8:=r16.cell (k:=8) rfl;have r22c0:=r22.cell (k:=0) rfl;have r22c1:=r22.cell (k:=1) rfl;have r22c2:=r22.cell (k:=2) rfl;have r20c0:=r20.cell (k:=0) rfl;have r20c1:=r20.cell (k:=1) rfl;have r20c2:=r20.cell (k:=2) rfl;have r19c0:=r19.cell (k:=0) rfl;have r19c1:=r19.cell (k:=1) rfl;have r19c2:=r19.cell (k:=2) rfl;have r19c3:=r19.cell (k:=3) rfl;have r19c4:=r19.cell (k:=4) rfl;go_wp2_with fail;rcases H with ⟨hV,VE⟩|⟨VE,H⟩
  · refine(VE _ hb).mono ?_;rintro e w7 ⟨rfl,b1⟩;replace hb:=hb.tr b1;clear VE b1 r16c0 r16c1 r16c2 r16c3 r16c4 r16c5 r16c6 r16c7 r16c8 r22c0 r22c1 r22c2 r20c0 r20c1 r20c2 r19c0 r19c1 r19c2 r19c3 r19c4;go_wp2;go_ret2;exact⟨by subst hV;rfl,hb⟩
  refine(VE _ hb).mono ?_;rintro e w7 ⟨rfl,b1⟩;replace r16:=r16.keep b1;replace r18:=r18.keep b1;replace r19:=r19.keep b1;replace hb:=hb.tr b1;clear VE b1 r16c0 r16c1 r16c2 r16c3 r16c4 r16c5 r16c6 r16c7 r16c8 r22c0 r22c1 r22c2 r20c0 r20c1 r20c2 r19c0 r19c1 r19c2 r19c3 r19c4 r20 r22;obtain⟨hV,IV,TM,OU⟩:=H;go_wp2;generalize w1.heap.size=BP at*;generalize w2.heap.size=BF at*;generalize w3.heap.size=BE at*;have d0:w7.drew.cell? ⟨BP,0,none⟩=_:=r16.cell (k:=0) rfl;have d1:w7.drew.cell? ⟨BP,1,none⟩=_:=r16.cell (k:=1) rfl;have d2:w7.drew.cell? ⟨BP,2,none⟩=_:=r16.cell (k:=2) rfl;have d3:w7.drew.cell? ⟨BP,3,none⟩=_:=r16.cell (k:=3) rfl;have d4:w7.drew.cell? ⟨BP,4,none⟩=_:=r16.cell (k:=4) rfl;have d5:w7.drew.cell? ⟨BP,5,none⟩=_:=r16.cell (k:=5) rfl;have d6:w7.drew.cell? ⟨BP,6,none⟩=_:=r16.cell (k:=6) rfl;have d7:w7.drew.cell? ⟨BP,7,none⟩=_:=r16.cell (k:=7) rfl;have d8:w7.drew.cell? ⟨BP,8,none⟩=_:=r16.cell (k:=8) rfl;have m0:w7.drew.cell? ⟨BE,0,none⟩=_:=r19.cell (k:=0) rfl;have m1:w7.drew.cell? ⟨BE,1,none⟩=_:=r19.cell (k:=1) rfl;have m2:w7.drew.cell? ⟨BE,2,none⟩=_:=r19.cell (k:=2) rfl;have f0:w7.drew.cell? ⟨BF,0,none⟩=_:=r18.cell (k:=0) rfl;have OU':∀w',G.Sides [] w7.drew w'→_:=fun w' h=>OU w' (hb.drew.trans (h.below.mono hb.size))
  refine G.pool_list (W:=w7) [] [.val (.agg #[.string cx,.string info,.func (.func F0) #[] #[],.func (.func F1) #[] #[],.func (.func F2) #[] #[],.func (.func F3) #[] #[],.func (.func F4) #[] #[],.func (.func F5) #[] #[],.func (.func F6) #[] #[]]),
      .val (.string input),
      .val (.pointer (some ⟨BE,0,none⟩)),
      .val (.agg #[int u64 (px ev),int u64 (py ev),.bool (pb ev)]),
      .val (.agg #[int u64 blind]),
      .val (.agg #[int u64 iv]),
      .val (int u64 iv),
      .val (.agg #[int u64 (px u),int u64 (py u),.bool (pb u)]),
      .val (.string R),
      .val (.string R),
      .val (.nilIface)] [[16],[1],[19],[107],[18],[109],[110],[108,111],[105,106,112],[113],[]] (fun f=> [(some 105,.agg #[.string cx,.string info,.func (.func F0) #[] #[],.func (.func F1) #[] #[],.func (.func F2) #[] #[],.func (.func F3) #[] #[],.func (.func F4) #[] #[],.func (.func F5) #[] #[],.func (.func F6) #[] #[]]),(some 106,.string input),(some 107,.pointer (some ⟨BE,0,none⟩)),(some 108,.agg #[int u64 (px ev),int u64 (py ev),.bool (pb ev)]),(some 109,.agg #[int u64 blind]),(some 110,.agg #[int u64 iv]),(some 111,int u64 iv),(some 112,.agg #[int u64 (px u),int u64 (py u),.bool (pb u)]),(some 113,.string R),(some 14,.string R),(some 15,.nilIface)]) (by kernel_rfl) (by kernel_rfl) (by kernel_rfl) (by kernel_rfl) (fun _=>by kernel_rfl) (G.last_of [] (fun F R hm=>by simp at hm) (fun ob ob' k hm=>by simp at hm) (fun b ob ob' hm=>by simp at hm)) (fun b ob ob' hm=>by simp at hm) ?_ ?_
  · intro ix hix
    match ix,hix with
    |0,_=>exact G.obv [(16,.pointer (some ⟨BP,0,none⟩))] rfl rfl (fun A w ⟨e0,_⟩ hB=>ld_pro e0 (hB.cell d0 (by simp)) (hB.cell d1 (by simp)) (hB.cell d2 (by simp)) (hB.cell d3 (by simp)) (hB.cell d4 (by simp)) (hB.cell d5 (by simp)) (hB.cell d6 (by simp)) (hB.cell d7 (by simp)) (hB.cell d8 (by simp)))
    |1,_=>exact G.obv [(1,.string input)] rfl rfl (fun A w ⟨e0,_⟩ hB=>doV_move e0)
    |2,_=>exact G.obv [(19,.pointer (some ⟨BE,0,none⟩))] rfl rfl (fun A w ⟨e0,_⟩ hB=>fa_evn0 e0)
    |3,_=>exact G.obv [(107,.pointer (some ⟨BE,0,none⟩))] rfl rfl (fun A w ⟨e0,_⟩ hB=>ld_cp e0 (hB.cell m0 (by simp)) (hB.cell m1 (by simp)) (hB.cell m2 (by simp)))
    |4,_=>exact G.obv [(18,.pointer (some ⟨BF,0,none⟩))] rfl rfl (fun A w ⟨e0,_⟩ hB=>ld_nN e0 (hB.cell f0 (by simp)))
    |5,_=>exact G.obv [(109,.agg #[int u64 blind])] rfl rfl (fun A w ⟨e0,_⟩ hB=>cl1 cf_impl_number_impl_primeN_inverse e0 (IV w))
    |6,_=>exact G.obv [(110,.agg #[int u64 iv])] rfl rfl (fun A w ⟨e0,_⟩ hB=>fl_nN1 e0)
    |7,_=>exact G.obv [(108,.agg #[int u64 (px ev),int u64 (py ev),.bool (pb ev)]),(111,int u64 iv)] rfl rfl (fun A w ⟨e0,e1,_⟩ hB=>cl2 cf_impl_curvePoint_times e0 e1 (TM w))
    |8,_=>exact G.obv [(105,.agg #[.string cx,.string info,.func (.func F0) #[] #[],.func (.func F1) #[] #[],.func (.func F2) #[] #[],.func (.func F3) #[] #[],.func (.func F4) #[] #[],.func (.func F5) #[] #[],.func (.func F6) #[] #[]]),(106,.string input),(112,.agg #[int u64 (px u),int u64 (py u),.bool (pb u)])] rfl rfl (fun A w ⟨e0,e1,e2,_⟩ hB=>cl3 cf_impl_protocol_output e0 e1 e2 (OU' w hB))
    |9,_=>exact G.obv [(113,.string R)] rfl rfl (fun A w ⟨e0,_⟩ hB=>doV_assign e0)
    |10,_=>exact G.obv [] rfl rfl (fun A w _ hB=>doV_assign rfl)
    |ix+11,h=>exact absurd h (by simp)
  intro f W8 hS _ _ _ _;replace hb:=hb.drew.trans (hS.below.mono hb.size);clear hS d0 d1 d2 d3 d4 d5 d6 d7 d8 m0 m1 m2 f0 OU';simp only [puts,List.foldl,Act.put,List.setIfInBounds_toArray,List.set_cons_zero,List.set_cons_succ];go_wp2;go_ret2;exact⟨by subst hV;rfl,hb⟩
theorem fnlI_of (mode blind pc ps x1 y1 x2 y2 x3 y3 cd:Int)(c1 c2 c3:Bool)(input info o o':ByteArray)(a:Option Addr)(n cap:Nat)(v:Value)(w:World)
    (FI:Cb w 55 #[.int .i64 mode,.string input,.string info,int u64 blind,.agg #[.slice a n cap,int u64 pc,int u64 ps],.agg #[int u64 x1,int u64 y1,.bool c1,int u64 x2,int u64 y2,.bool c2],.agg #[int u64 x3,int u64 y3,.bool c3]] (.tuple #[.string o,v]))
    (AN:Cb w 52 #[.string o,v] (.tuple #[.string o',.int .i64 cd])):
    Cr 21 #[.int .i64 mode,.string input,.string info,int u64 blind,.agg #[.slice a n cap,int u64 pc,int u64 ps],.agg #[int u64 x1,int u64 y1,.bool c1,int u64 x2,int u64 y2,.bool c2],.agg #[int u64 x3,int u64 y3,.bool c3]] w (.tuple #[.string o',.int .i64 cd]):=by
  obtain⟨X,hX⟩:∃X,X=((w.alloc (Obj.cells #[.slice a n cap,int u64 pc,int u64 ps] 30)).alloc (Obj.cells #[int u64 x1,int u64 y1,.bool c1,int u64 x2,int u64 y2,.bool c2] 39)).alloc (Obj.cells #[int u64 x3,int u64 y3,.bool c3] 34):=⟨_,rfl⟩;have rE:Bk X 30 w.heap.size #[.slice a n cap,int u64 pc,int u64 ps]:=by rw [hX];exact((Bk.new _ _ _).alloc _).alloc _
  have rB:Bk X 39 (w.heap.size+1) #[int u64 x1,int u64 y1,.bool c1,int u64 x2,int u64 y2,.bool c2]:=by rw [hX];exact((Bk.new _ _ _).at (by simp)).alloc _
  have rP:Bk X 34 (w.heap.size+1+1) #[int u64 x3,int u64 y3,.bool c3]:=by rw [hX];exact(Bk.new _ _ _).at (by simp)
  have hb:Bl w X:=by rw [hX];exact(((Below.refl _ w).alloc (Nat.le_refl _) _).alloc (by simp) _).alloc (by simp;omega) _
  rw [hX] at rE rB rP hb;clear hX;have rEc0:=rE.cell (k:=0) rfl;have rEc1:=rE.cell (k:=1) rfl;have rEc2:=rE.cell (k:=2) rfl;have rBc0:=rB.cell (k:=0) rfl;have rBc1:=rB.cell (k:=1) rfl;have rBc2:=rB.cell (k:=2) rfl;have rBc3:=rB.cell (k:=3) rfl;have rBc4:=rB.cell (k:=4) rfl;have rBc5:=rB.cell (k:=5) rfl;have rPc0:=rP.cell (k:=0) rfl;have rPc1:=rP.cell (k:=1) rfl;have rPc2:=rP.cell (k:=2) rfl;go_enter func21,ntmps21;go_wp2_with fail;refine(FI _ hb).mono ?_;rintro e w1 ⟨rfl,b1⟩;replace hb:=hb.tr b1;clear FI b1 rEc0 rEc1 rEc2 rBc0 rBc1 rBc2 rBc3 rBc4 rBc5 rPc0 rPc1 rPc2 rE rB rP;go_wp2_with fail;refine(AN _ hb).mono ?_;rintro e w2 ⟨rfl,b1⟩;replace hb:=hb.tr b1;clear AN b1;go_wp2;go_ret2;exact⟨rfl,hb⟩
def zBat:Array Value:=#[.string ⟨#[]⟩,int u64 0,int u64 0,.bool false,.slice none 0 0,.slice none 0 0]
theorem sizeBat:(prog.info? 78).map (·.size)=some 6:=by kernel_rfl
section
variable (cx info:ByteArray)(q:Pt)(v2 v3:Value)(a0 a1 a2 a3:Addr)(w:World)
theorem nclI (n2 n3 k2' k3:Nat)(b2 b3:Option Addr):
    Cr 139 #[.agg #[.string cx,.string info],.agg #[int u64 (px q),int u64 (py q),.bool (pb q)],.slice b2 n2 k2',.slice b3 n3 k3] w (.tuple #[.agg zBat,.bool false]):=by
  obtain⟨X,hX⟩:∃X,X=((w.alloc (Obj.cells #[.string cx,.string info] 119)).alloc (Obj.cells #[int u64 (px q),int u64 (py q),.bool (pb q)] 75)).alloc (Obj.cells zBat 78):=⟨_,rfl⟩;have r0:Bk X 119 w.heap.size #[.string cx,.string info]:=by rw [hX];exact((Bk.new _ _ _).alloc _).alloc _
  have r1:K3 X 75 (w.heap.size+1) (px q) (py q) (pb q):=by rw [hX];exact((K3.new _ _ _ _ _).at (by simp)).alloc _
  have hr:Bk X 78 (w.heap.size+1+1) zBat:=by rw [hX];exact(Bk.new _ _ _).at (by simp)
  have hb:Bl w X:=by rw [hX];exact(((Below.refl _ w).alloc (Nat.le_refl _) _).alloc (by simp) _).alloc (by simp;omega) _
  rw [hX] at r0 r1 hr hb;clear hX;have s0:=r0.cell (k:=0) rfl;have k0:=r1.c0;have k1:=r1.c1;have k2:=r1.c2;have hth:=hr.there 6 (by decide);go_enter func139,ntmps139;go_wp2_with (refine wpList_store_mid rfl 78 _ _ rfl (w.heap.size+1+1) 0 zBat rfl rfl hth sizeBat (by kernel_rfl) ?_);exact bodyPost_ret (v:= .tuple #[.agg zBat,.bool false]) (bk_res2 (fn:=Tryz.f139) (p:=8) (u:=9) results139 _ rfl (hr.sets _ rfl) underlying78 rfl sizeBat) rfl ⟨rfl,below_setCells hb (by omega) _ _⟩
theorem cfwI (n2 n3 k2' k3:Nat)(b2 b3:Option Addr):
    Cr 141 #[.agg #[.string cx,.string info],.agg #[int u64 (px q),int u64 (py q),.bool (pb q)],.slice b2 n2 k2',.slice b3 n3 k3] w (.tuple #[.agg #[.string cx,int u64 (px q),int u64 (py q),.bool (pb q),.slice b2 n2 k2',.slice b3 n3 k3],.bool true]):=by
  obtain⟨X,hX⟩:∃X,X=((w.alloc (Obj.cells #[.string cx,.string info] 119)).alloc (Obj.cells #[int u64 (px q),int u64 (py q),.bool (pb q)] 75)).alloc (Obj.cells zBat 78):=⟨_,rfl⟩;have r0:Bk X 119 w.heap.size #[.string cx,.string info]:=by rw [hX];exact((Bk.new _ _ _).alloc _).alloc _
  have r1:K3 X 75 (w.heap.size+1) (px q) (py q) (pb q):=by rw [hX];exact((K3.new _ _ _ _ _).at (by simp)).alloc _
  have hr:Bk X 78 (w.heap.size+1+1) zBat:=by rw [hX];exact(Bk.new _ _ _).at (by simp)
  have hb:Bl w X:=by rw [hX];exact(((Below.refl _ w).alloc (Nat.le_refl _) _).alloc (by simp) _).alloc (by simp;omega) _
  rw [hX] at r0 r1 hr hb;clear hX;have s0:=r0.cell (k:=0) rfl;have k0:=r1.c0;have k1:=r1.c1;have k2:=r1.c2;have hth:=hr.there 6 (by decide);go_enter func141,ntmps141;go_wp2_with (refine wpList_store_mid rfl 78 _ _ rfl (w.heap.size+1+1) 0 #[.string cx,int u64 (px q),int u64 (py q),.bool (pb q),.slice b2 n2 k2',.slice b3 n3 k3] rfl rfl hth sizeBat (by kernel_rfl) ?_);exact bodyPost_ret (v:= .tuple #[.agg #[.string cx,int u64 (px q),int u64 (py q),.bool (pb q),.slice b2 n2 k2',.slice b3 n3 k3],.bool true]) (bk_res2 (fn:=Tryz.f141) (p:=8) (u:=9) results141 _ rfl (hr.sets _ rfl) underlying78 rfl sizeBat) rfl ⟨rfl,below_setCells hb (by omega) _ _⟩
theorem cbwI (n2 n3 k2' k3:Nat)(b2 b3:Option Addr):
    Cr 147 #[.agg #[.string cx,.string info],.agg #[int u64 (px q),int u64 (py q),.bool (pb q)],.slice b2 n2 k2',.slice b3 n3 k3] w (.tuple #[.agg #[.string cx,int u64 (px q),int u64 (py q),.bool (pb q),.slice b3 n3 k3,.slice b2 n2 k2'],.bool true]):=by
  obtain⟨X,hX⟩:∃X,X=((w.alloc (Obj.cells #[.string cx,.string info] 119)).alloc (Obj.cells #[int u64 (px q),int u64 (py q),.bool (pb q)] 75)).alloc (Obj.cells zBat 78):=⟨_,rfl⟩;have r0:Bk X 119 w.heap.size #[.string cx,.string info]:=by rw [hX];exact((Bk.new _ _ _).alloc _).alloc _
  have r1:K3 X 75 (w.heap.size+1) (px q) (py q) (pb q):=by rw [hX];exact((K3.new _ _ _ _ _).at (by simp)).alloc _
  have hr:Bk X 78 (w.heap.size+1+1) zBat:=by rw [hX];exact(Bk.new _ _ _).at (by simp)
  have hb:Bl w X:=by rw [hX];exact(((Below.refl _ w).alloc (Nat.le_refl _) _).alloc (by simp) _).alloc (by simp;omega) _
  rw [hX] at r0 r1 hr hb;clear hX;have s0:=r0.cell (k:=0) rfl;have k0:=r1.c0;have k1:=r1.c1;have k2:=r1.c2;have hth:=hr.there 6 (by decide);go_enter func147,ntmps147;go_wp2_with (refine wpList_store_mid rfl 78 _ _ rfl (w.heap.size+1+1) 0 #[.string cx,int u64 (px q),int u64 (py q),.bool (pb q),.slice b3 n3 k3,.slice b2 n2 k2'] rfl rfl hth sizeBat (by kernel_rfl) ?_);exact bodyPost_ret (v:= .tuple #[.agg #[.string cx,int u64 (px q),int u64 (py q),.bool (pb q),.slice b3 n3 k3,.slice b2 n2 k2'],.bool true]) (bk_res2 (fn:=Tryz.f147) (p:=8) (u:=9) results147 _ rfl (hr.sets _ rfl) underlying78 rfl sizeBat) rfl ⟨rfl,below_setCells hb (by omega) _ _⟩
theorem palI_yes:
    Cr 138 #[.agg #[int u64 (px q),int u64 (py q),.bool (pb q)],.agg #[int u64 0,int u64 0,.bool true]] w (.tuple #[.agg #[int u64 (px q),int u64 (py q),.bool (pb q)],.nilIface]):=by
  obtain⟨X,hX⟩:∃X,X=((w.alloc (Obj.cells #[int u64 (px q),int u64 (py q),.bool (pb q)] 75)).alloc (Obj.cells #[int u64 0,int u64 0,.bool true] 34)).alloc (Obj.cells #[int u64 0,int u64 0,.bool false] 75):=⟨_,rfl⟩;have r0:K3 X 75 w.heap.size (px q) (py q) (pb q):=by rw [hX];exact((K3.new _ _ _ _ _).alloc _).alloc _
  have r1:K3 X 34 (w.heap.size+1) 0 0 true:=by rw [hX];exact((K3.new _ _ _ _ _).at (by simp)).alloc _
  have hr:K3 X 75 (w.heap.size+1+1) 0 0 false:=by rw [hX];exact(K3.new _ _ _ _ _).at (by simp)
  have hb:Bl w X:=by rw [hX];exact(((Below.refl _ w).alloc (Nat.le_refl _) _).alloc (by simp) _).alloc (by simp;omega) _
  go_enter func138,ntmps138;go_wp2;rw [←hX];clear hX;have k0:X.drew.cell? ⟨w.heap.size+1,0,none⟩=_:=r1.c0;have k1:X.drew.cell? ⟨w.heap.size+1,1,none⟩=_:=r1.c1;have k2:X.drew.cell? ⟨w.heap.size+1,2,none⟩=_:=r1.c2
  refine G.pool_list (W:=X) [] [.val (.agg #[int u64 0,int u64 0,.bool true]),
      .val (.agg #[int u64 0,int u64 0,.bool true]),
      .val (.agg #[int u64 0,int u64 0,.bool true]),
      .val (.bool false)] [[3],[],[7],[6,8]] (fun f=> [(some 6,.agg #[int u64 0,int u64 0,.bool true]),(some 7,.agg #[int u64 0,int u64 0,.bool true]),(some 8,.agg #[int u64 0,int u64 0,.bool true]),(some 9,.bool false)]) (by kernel_rfl) (by kernel_rfl) (by kernel_rfl) (by kernel_rfl) (fun _=>by kernel_rfl) (G.last_of [] (fun F R hm=>by simp at hm) (fun ob ob' k hm=>by simp at hm) (fun b ob ob' hm=>by simp at hm)) (fun b ob ob' hm=>by simp at hm) ?_ ?_
  · intro ix hix
    match ix,hix with
    |0,_=>exact G.obv [(3,.pointer (some ⟨w.heap.size+1,0,none⟩))] rfl rfl (fun A w ⟨e0,_⟩ hB=>ld_pt e0 (hB.cell k0 (by simp)) (hB.cell k1 (by simp)) (hB.cell k2 (by simp)))
    |1,_=>exact G.obv [] rfl rfl (fun A w _ hB=>cl0 cf_impl_zeroPoint (zpP w))
    |2,_=>exact G.obv [(7,.agg #[int u64 0,int u64 0,.bool true])] rfl rfl (fun A w ⟨e0,_⟩ hB=>fl_cp0 e0)
    |3,_=>exact G.obv [(6,.agg #[int u64 0,int u64 0,.bool true]),(8,.agg #[int u64 0,int u64 0,.bool true])] rfl rfl (fun A w ⟨e0,e1,_⟩ hB=>ne_ptF e0 e1)
    |ix+4,h=>exact absurd h (by simp)
  intro f W3 hS _ _ _ _;have hb3:Bl X W3:=(Below.refl _ X).drew.trans hS.below;replace r0:=r0.keep hb3;replace hr:=hr.keep hb3;replace hb:=hb.tr hb3;clear hS k0 k1 k2 hb3 r1;simp only [puts,List.foldl,Act.put,List.setIfInBounds_toArray,List.set_cons_zero,List.set_cons_succ];have c0:=hr.c0;have c1:=hr.c1;have c2:=hr.c2;have cf:=hr.frz;have d0:=r0.c0;have d1:=r0.c1;have d2:=r0.c2;go_wp2;exact bodyPost_ret (v:= .tuple #[.agg #[int u64 (px q),int u64 (py q),.bool (pb q)],.nilIface]) (cpt_res (fn:=Tryz.f138) (p:=4) (u:=5) results138 _ rfl (hr.set _ _ _)) rfl ⟨rfl,set3_below hb (by omega)⟩
theorem palI_no (hs:Sn w a0 a1 a2 a3)(x y:Int)(c:Bool)(hn: ¬ (x=0∧y=0∧c=true)):
    Cr 138 #[.agg #[int u64 (px q),int u64 (py q),.bool (pb q)],.agg #[int u64 x,int u64 y,.bool c]] w (.tuple #[.agg #[int u64 0,int u64 0,.bool true],sen a0]):=by
  have hg0:0<w.heap.size:=World.block_lt_of_cell? w _ hs.c0;obtain⟨X,hX⟩:∃X,X=((w.alloc (Obj.cells #[int u64 (px q),int u64 (py q),.bool (pb q)] 75)).alloc (Obj.cells #[int u64 x,int u64 y,.bool c] 34)).alloc (Obj.cells #[int u64 0,int u64 0,.bool false] 75):=⟨_,rfl⟩;have r1:K3 X 34 (w.heap.size+1) x y c:=by rw [hX];exact((K3.new _ _ _ _ _).at (by simp)).alloc _
  have hr:K3 X 75 (w.heap.size+1+1) 0 0 false:=by rw [hX];exact(K3.new _ _ _ _ _).at (by simp)
  have hb:Bl w X:=by rw [hX];exact(((Below.refl _ w).alloc (Nat.le_refl _) _).alloc (by simp) _).alloc (by simp;omega) _
  go_enter func138,ntmps138;go_wp2;rw [←hX];clear hX;have k0:X.drew.cell? ⟨w.heap.size+1,0,none⟩=_:=r1.c0;have k1:X.drew.cell? ⟨w.heap.size+1,1,none⟩=_:=r1.c1;have k2:X.drew.cell? ⟨w.heap.size+1,2,none⟩=_:=r1.c2
  refine G.pool_list (W:=X) [] [.val (.agg #[int u64 x,int u64 y,.bool c]),
      .val (.agg #[int u64 0,int u64 0,.bool true]),
      .val (.agg #[int u64 0,int u64 0,.bool true]),
      .val (.bool true)] [[3],[],[7],[6,8]] (fun f=> [(some 6,.agg #[int u64 x,int u64 y,.bool c]),(some 7,.agg #[int u64 0,int u64 0,.bool true]),(some 8,.agg #[int u64 0,int u64 0,.bool true]),(some 9,.bool true)]) (by kernel_rfl) (by kernel_rfl) (by kernel_rfl) (by kernel_rfl) (fun _=>by kernel_rfl) (G.last_of [] (fun F R hm=>by simp at hm) (fun ob ob' k hm=>by simp at hm) (fun b ob ob' hm=>by simp at hm)) (fun b ob ob' hm=>by simp at hm) ?_ ?_
  · intro ix hix
    match ix,hix with
    |0,_=>exact G.obv [(3,.pointer (some ⟨w.heap.size+1,0,none⟩))] rfl rfl (fun A w ⟨e0,_⟩ hB=>ld_pt e0 (hB.cell k0 (by simp)) (hB.cell k1 (by simp)) (hB.cell k2 (by simp)))
    |1,_=>exact G.obv [] rfl rfl (fun A w _ hB=>cl0 cf_impl_zeroPoint (zpP w))
    |2,_=>exact G.obv [(7,.agg #[int u64 0,int u64 0,.bool true])] rfl rfl (fun A w ⟨e0,_⟩ hB=>fl_cp0 e0)
    |3,_=>exact G.obv [(6,.agg #[int u64 x,int u64 y,.bool c]),(8,.agg #[int u64 0,int u64 0,.bool true])] rfl rfl (fun A w ⟨e0,e1,_⟩ hB=>ne_ptT hn e0 e1)
    |ix+4,h=>exact absurd h (by simp)
  intro f W3 hS _ _ _ _;have hb3:Bl X W3:=(Below.refl _ X).drew.trans hS.below;replace hr:=hr.keep hb3;replace hb:=hb.tr hb3;clear hS k0 k1 k2 hb3 r1;simp only [puts,List.foldl,Act.put,List.setIfInBounds_toArray,List.set_cons_zero,List.set_cons_succ];go_wp2;have g0:W3.drew.cell? ⟨0,0,none⟩=_:=(hs.keep hb).c0;have n0:0∉ [w.heap.size+1+1]:=fun h=>absurd (List.mem_singleton.1 h) (by omega)
  have l1:w.heap.size+1+1<W3.drew.heap.size:=hr.lt
  refine G.pool_list (W:=W3) [w.heap.size+1+1] [.val (.agg #[int u64 0,int u64 0,.bool true]),
      .val (sen a0),
      .set (w.heap.size+1+1) (.cells #[int u64 0,int u64 0,.bool false] 75) (.cells #[int u64 0,int u64 0,.bool true] 75),
      .val (sen a0)] [[],[],[4,10],[11]] (fun f=> [(some 10,.agg #[int u64 0,int u64 0,.bool true]),(some 11,sen a0),(none,undef),(some 5,sen a0)]) (by kernel_rfl) (by kernel_rfl) (by kernel_rfl) (by kernel_rfl) (fun _=>by kernel_rfl) (G.last_of [.cells #[int u64 0,int u64 0,.bool false] 75] (fun F R hm=>by simp at hm) (fun ob ob' k hm=>by simp at hm) (fun b ob ob' hm=>by simp at hm;simp [hm])) (fun b ob ob' hm=>by simp at hm;obtain⟨rfl,rfl,-⟩:=hm;exact hr) ?_ ?_
  · intro ix hix
    match ix,hix with
    |0,_=>exact G.obv [] rfl rfl (fun A w _ hB=>cl0 cf_impl_zeroPoint (zpP w))
    |1,_=>exact G.obv [] rfl rfl (fun A w _ hB=>ld_err rfl (hB.cell g0 n0))
    |2,_=>exact G.ob_set (fun f=> [(4,.pointer (some ⟨w.heap.size+1+1,0,none⟩)),(10,.agg #[int u64 0,int u64 0,.bool true])]) rfl rfl rfl (by simp) l1 (fun j ob1 ob2 h=>by (rcases j with _|_|_|_|j)<;>simp [G.kindOf] at h⊢ <;>omega) (fun _=>by kernel_rfl) (fun f A w ⟨e0,e1,_⟩ hh hr=>pu_cp e0 e1 hr)
    |3,_=>exact G.obv [(11,sen a0)] rfl rfl (fun A w ⟨e0,_⟩ hB=>doV_assign e0)
    |ix+4,h=>exact absurd h (by simp)
  intro f W4 hS _ _ _ hset;have q1:K3 W4 75 (w.heap.size+1+1) 0 0 true:=hset 2 _ _ _ rfl (by decide);have hb4:Bl w W4:=hS.under hb.drew (by intro b h;rw [List.mem_singleton.1 h];omega) hb.size;clear hset hS g0;simp only [puts,List.foldl,Act.put,List.setIfInBounds_toArray,List.set_cons_zero,List.set_cons_succ];go_wp2;exact bodyPost_ret (v:= .tuple #[.agg #[int u64 0,int u64 0,.bool true],sen a0]) (cpt_res (fn:=Tryz.f138) (p:=4) (u:=5) results138 _ rfl q1) rfl ⟨rfl,hb4⟩
theorem talI_of (x y u0 u1:Int)(c u2:Bool)(v:Value)
    (EL:Cb w 87 #[.agg #[int u64 x,int u64 y,.bool c]] (.tuple #[.agg #[int u64 u0,int u64 u1,.bool u2],v])):
    Cr 146 #[.agg #[int u64 (px q),int u64 (py q),.bool (pb q)],.agg #[int u64 x,int u64 y,.bool c]] w (.tuple #[.agg #[int u64 u0,int u64 u1,.bool u2],v]):=by
  obtain⟨X,hX⟩:∃X,X=((w.alloc (Obj.cells #[int u64 (px q),int u64 (py q),.bool (pb q)] 75)).alloc (Obj.cells #[int u64 x,int u64 y,.bool c] 34)).alloc (Obj.cells #[int u64 0,int u64 0,.bool false] 75):=⟨_,rfl⟩;have r1:K3 X 34 (w.heap.size+1) x y c:=by rw [hX];exact((K3.new _ _ _ _ _).at (by simp)).alloc _
  have hr:K3 X 75 (w.heap.size+1+1) 0 0 false:=by rw [hX];exact(K3.new _ _ _ _ _).at (by simp)
  have hb:Bl w X:=by rw [hX];exact(((Below.refl _ w).alloc (Nat.le_refl _) _).alloc (by simp) _).alloc (by simp;omega) _
  rw [hX] at r1 hr hb;clear hX;have k0:=r1.c0;have k1:=r1.c1;have k2:=r1.c2;go_enter func146,ntmps146;go_wp2_with fail;refine(EL _ hb).mono ?_;rintro e w1 ⟨rfl,b1⟩;replace hr:=hr.keep b1;replace hb:=hb.tr b1;clear EL b1 k0 k1 k2 r1;have c0:=hr.c0;have c1:=hr.c1;have c2:=hr.c2;have cf:=hr.frz;go_wp2;exact bodyPost_ret (v:= .tuple #[.agg #[int u64 u0,int u64 u1,.bool u2],v]) (cpt_res (fn:=Tryz.f146) (p:=4) (u:=5) results146 _ rfl (hr.set _ _ _)) rfl ⟨rfl,set3_below hb (by omega)⟩
end
end
end Go.Proofs.YtmjniccfjffclaaGreatDoor
