import Derived.Test.YtjhbckngdclleaaGreatDoorMrg36
import Derived.Test.YtjhbckngdclleaaGreatDoorMrg33
set_option linter.unusedVariables false
set_option maxRecDepth 100000
set_option maxHeartbeats 16000000
namespace Go.Proofs.YtjhbckngdclleaaGreatDoor
open Go.Proofs.Tryz Go.RowKit
open Go.Value (int)
open Go.IntKind (u64)
section
open M
theorem cpt_res {W:World}{b:Nat}{x y:Int}{c:Bool}{fn:Func}{p u:Tmp}(h:fn.results=#[.cell p 101,.tmp u])(tmps:Array Value)(hp:tmps.getD p undef= .pointer (some ⟨b,0,none⟩))(hc:K3 W 101 b x y c):
    (results fn tmps).run prog W= .ok (.tuple #[.agg #[int u64 x,int u64 y,.bool c],tmps.getD u undef]) W:=by
  have hp':tmps[p]?.getD undef= .pointer (some ⟨b,0,none⟩):=by simpa using hp
  simp [results,h,hp',asAddr,run_loadVar_mid W b 0 101 [int u64 x,int u64 y,.bool c] _ hc.range underlying101 rfl (by kernel_rfl)]
theorem eleO_of (x y:Int)(c ok:Bool)(p:Pt)(a0 a2:Addr)(w:World)(hs:So w a0 a2)
    (F:Cc 60 #[.agg #[int u64 x,int u64 y,.bool c]] (.tuple #[.agg #[int u64 (px p),int u64 (py p),.bool (pb p)],.bool ok])):
    Cr 104 #[.agg #[int u64 x,int u64 y,.bool c]] w (if ok=true∧pb p=false then .tuple #[.agg #[int u64 (px p),int u64 (py p),.bool (pb p)],.nilIface] else .tuple #[.agg #[int u64 0,int u64 0,.bool true],sen a0]):=by
  obtain⟨V,hV⟩:∃V,Hid (V=(if ok=true∧pb p=false then .tuple #[.agg #[int u64 (px p),int u64 (py p),.bool (pb p)],.nilIface] else .tuple #[.agg #[int u64 0,int u64 0,.bool true],sen a0]:Value)):=⟨_,rfl⟩;rw [←hV.out];have hg0:0<w.heap.size:=World.block_lt_of_cell? w _ hs.c0;obtain⟨X,hX⟩:∃X,X=(w.alloc (Obj.cells #[int u64 x,int u64 y,.bool c] 27)).alloc (Obj.cells #[int u64 0,int u64 0,.bool false] 101):=⟨_,rfl⟩;have hr:K3 X 101 (w.heap.size+1) 0 0 false:=by rw [hX];exact(K3.new _ _ _ _ _).at (by simp)
  have r1:K3 X 27 w.heap.size x y c:=by rw [hX];exact(K3.new _ _ _ _ _).alloc _
  have hb:Bl w X:=by rw [hX];exact((Below.refl _ w).alloc (Nat.le_refl _) _).alloc (by simp) _
  rw [hX] at hr r1 hb;clear hX;have p0:=r1.c0;have p1:=r1.c1;have p2:=r1.c2;go_enter func104,ntmps104;go_wp2_with fail;refine(F _).mono ?_;rintro e w2 ⟨rfl,b2⟩;obtain⟨W2,hW2⟩:∃W2,W2=w2.alloc (Obj.cells #[int u64 (px p),int u64 (py p),.bool (pb p)] 101):=⟨_,rfl⟩;have hal:Bl w2 W2:=by rw [hW2];exact(Below.refl _ w2).alloc (Nat.le_refl _) _
  have hr2:K3 W2 101 w2.heap.size (px p) (py p) (pb p):=by rw [hW2];exact K3.new _ _ _ _ _
  have hlt:w.heap.size+1<w2.heap.size:=(hr.keep b2).lt;replace hr:=(hr.keep b2).keep hal;replace hb:=hb.tr b2;replace hb:=hb.tr hal;replace hs:=hs.keep hb;clear F b2 hal p0 p1 p2 r1;go_wp2;rw [←hW2];clear hW2;generalize w2.heap.size=H2 at*
  cases ok with
  | false=>
    have hV':V= .tuple #[.agg #[int u64 0,int u64 0,.bool true],sen a0]:=by rw [hV.out,if_neg (by simp)]
    go_quiet (fail);have hr3:K3 (W2.drewN nq) 101 (w.heap.size+1) 0 0 false:=hr;have hs3:So (W2.drewN nq) a0 a2:=⟨hs.c0,hs.c2⟩;have hb3:Bl w (W2.drewN nq):=⟨hb.os,hb.tape,hb.output,hb.size,hb.block⟩;clear hr hs hb;generalize W2.drewN nq=W3 at*;go_wp2;have g0:W3.drew.cell? ⟨0,0,none⟩=_:=hs3.c0;have n0:0∉ [w.heap.size+1]:=fun h=>absurd (List.mem_singleton.1 h) (by omega)
    have l1:w.heap.size+1<W3.drew.heap.size:=hr3.lt
    refine G.pool_list (W:=W3) [w.heap.size+1] [.val (.agg #[int u64 0,int u64 0,.bool true]),
        .val (sen a0),
        .set (w.heap.size+1) (.cells #[int u64 0,int u64 0,.bool false] 101) (.cells #[int u64 0,int u64 0,.bool true] 101),
        .val (sen a0)] [[],[],[2,18],[19]] (fun f=> [(some 18,.agg #[int u64 0,int u64 0,.bool true]),(some 19,sen a0),(none,undef),(some 3,sen a0)]) (by kernel_rfl) (by kernel_rfl) (by kernel_rfl) (by kernel_rfl) (fun _=>by kernel_rfl) (G.last_of [.cells #[int u64 0,int u64 0,.bool false] 101] (fun F R hm=>by simp at hm) (fun ob ob' k hm=>by simp at hm) (fun b ob ob' hm=>by simp at hm;simp [hm])) (fun b ob ob' hm=>by simp at hm;obtain⟨rfl,rfl,-⟩:=hm;exact hr3) ?_ ?_
    · intro ix hix
      match ix,hix with
      |0,_=>exact G.obv [] rfl rfl (fun A w _ hB=>cl0 cf_impl_zeroPoint (zpP w))
      |1,_=>exact G.obv [] rfl rfl (fun A w _ hB=>ld_err rfl (hB.cell g0 n0))
      |2,_=>exact G.ob_set (fun f=> [(2,.pointer (some ⟨w.heap.size+1,0,none⟩)),(18,.agg #[int u64 0,int u64 0,.bool true])]) rfl rfl rfl (by simp) l1 (fun j ob1 ob2 h=>by (rcases j with _|_|_|_|j)<;>simp [G.kindOf] at h⊢ <;>omega) (fun _=>by kernel_rfl) (fun f A w ⟨e0,e1,_⟩ hh hr=>pu_cp e0 e1 hr)
      |3,_=>exact G.obv [(19,sen a0)] rfl rfl (fun A w ⟨e0,_⟩ hB=>doV_assign e0)
      |ix+4,h=>exact absurd h (by simp)
    intro f W4 hS _ _ _ hset;have q1:K3 W4 101 (w.heap.size+1) 0 0 true:=hset 2 _ _ _ rfl (by decide);have hb4:Bl w W4:=hS.under hb3.drew (by intro b h;rw [List.mem_singleton.1 h];omega) hb3.size;clear hset hS g0;simp only [puts,List.foldl,Act.put,List.setIfInBounds_toArray,List.set_cons_zero,List.set_cons_succ];go_wp2;exact bodyPost_ret (v:= .tuple #[.agg #[int u64 0,int u64 0,.bool true],sen a0]) (cpt_res (fn:=Tryz.f104) (p:=2) (u:=3) results104 _ rfl q1) rfl ⟨by rw [hV'],hb4⟩
  | true=>
    have k0:W2.drew.cell? ⟨H2,0,none⟩=_:=hr2.c0;have k1:W2.drew.cell? ⟨H2,1,none⟩=_:=hr2.c1;have k2:W2.drew.cell? ⟨H2,2,none⟩=_:=hr2.c2
    refine G.pool_list (W:=W2) [] [.val (.bool true),
        .val (.bool false),
        .val (.bool false),
        .val (.agg #[int u64 (px p),int u64 (py p),.bool (pb p)]),
        .val (.agg #[int u64 0,int u64 0,.bool true]),
        .val (.bool (pb p)),
        .val (.bool (pb p))] [[5],[11],[12],[4],[],[14,15],[13,16]] (fun f=> [(some 11,.bool true),(some 12,.bool false),(some 13,.bool false),(some 14,.agg #[int u64 (px p),int u64 (py p),.bool (pb p)]),(some 15,.agg #[int u64 0,int u64 0,.bool true]),(some 16,.bool (pb p)),(some 17,.bool (pb p))]) (by kernel_rfl) (by kernel_rfl) (by kernel_rfl) (by kernel_rfl) (fun _=>by kernel_rfl) (G.last_of [] (fun F R hm=>by simp at hm) (fun ob ob' k hm=>by simp at hm) (fun b ob ob' hm=>by simp at hm)) (fun b ob ob' hm=>by simp at hm) ?_ ?_
    · intro ix hix
      match ix,hix with
      |0,_=>exact G.obv [(5,.bool true)] rfl rfl (fun A w ⟨e0,_⟩ hB=>doV_move e0)
      |1,_=>exact G.obv [(11,.bool true)] rfl rfl (fun A w ⟨e0,_⟩ hB=>Z.notT e0)
      |2,_=>exact G.obv [(12,.bool false)] rfl rfl (fun A w ⟨e0,_⟩ hB=>doV_move e0)
      |3,_=>exact G.obv [(4,.pointer (some ⟨H2,0,none⟩))] rfl rfl (fun A w ⟨e0,_⟩ hB=>ld_cp e0 (hB.cell k0 (by simp)) (hB.cell k1 (by simp)) (hB.cell k2 (by simp)))
      |4,_=>exact G.obv [] rfl rfl (fun A w _ hB=>cl0 cf_impl_zeroPoint (zpP w))
      |5,_=>exact G.obv [(14,.agg #[int u64 (px p),int u64 (py p),.bool (pb p)]),(15,.agg #[int u64 0,int u64 0,.bool true])] rfl rfl (fun A w ⟨e0,e1,_⟩ hB=>eq_cpz e0 e1)
      |6,_=>exact G.obv [(13,.bool false),(16,.bool (pb p))] rfl rfl (fun A w ⟨e0,e1,_⟩ hB=>Z.pkF e0 e1)
      |ix+7,h=>exact absurd h (by simp)
    intro f W3 hS _ _ _ _;have b3:Bl W2 W3:=(Below.refl _ W2).drew.trans hS.below;replace hr:=hr.keep b3;replace hr2:=hr2.keep b3;replace hs:=hs.keep b3;replace hb:=hb.tr b3;clear hS b3 k0 k1 k2;simp only [puts,List.foldl,Act.put,List.setIfInBounds_toArray,List.set_cons_zero,List.set_cons_succ]
    cases hz:pb p with
    | true=>
      have hV':V= .tuple #[.agg #[int u64 0,int u64 0,.bool true],sen a0]:=by rw [hV.out,if_neg (by simp [hz])]
      go_wp2;have g0:W3.drew.cell? ⟨0,0,none⟩=_:=hs.c0;have n0:0∉ [w.heap.size+1]:=fun h=>absurd (List.mem_singleton.1 h) (by omega)
      have l1:w.heap.size+1<W3.drew.heap.size:=hr.lt
      refine G.pool_list (W:=W3) [w.heap.size+1] [.val (.agg #[int u64 0,int u64 0,.bool true]),
          .val (sen a0),
          .set (w.heap.size+1) (.cells #[int u64 0,int u64 0,.bool false] 101) (.cells #[int u64 0,int u64 0,.bool true] 101),
          .val (sen a0)] [[],[],[2,18],[19]] (fun f=> [(some 18,.agg #[int u64 0,int u64 0,.bool true]),(some 19,sen a0),(none,undef),(some 3,sen a0)]) (by kernel_rfl) (by kernel_rfl) (by kernel_rfl) (by kernel_rfl) (fun _=>by kernel_rfl) (G.last_of [.cells #[int u64 0,int u64 0,.bool false] 101] (fun F R hm=>by simp at hm) (fun ob ob' k hm=>by simp at hm) (fun b ob ob' hm=>by simp at hm;simp [hm])) (fun b ob ob' hm=>by simp at hm;obtain⟨rfl,rfl,-⟩:=hm;exact hr) ?_ ?_
      · intro ix hix
        match ix,hix with
        |0,_=>exact G.obv [] rfl rfl (fun A w _ hB=>cl0 cf_impl_zeroPoint (zpP w))
        |1,_=>exact G.obv [] rfl rfl (fun A w _ hB=>ld_err rfl (hB.cell g0 n0))
        |2,_=>exact G.ob_set (fun f=> [(2,.pointer (some ⟨w.heap.size+1,0,none⟩)),(18,.agg #[int u64 0,int u64 0,.bool true])]) rfl rfl rfl (by simp) l1 (fun j ob1 ob2 h=>by (rcases j with _|_|_|_|j)<;>simp [G.kindOf] at h⊢ <;>omega) (fun _=>by kernel_rfl) (fun f A w ⟨e0,e1,_⟩ hh hr=>pu_cp e0 e1 hr)
        |3,_=>exact G.obv [(19,sen a0)] rfl rfl (fun A w ⟨e0,_⟩ hB=>doV_assign e0)
        |ix+4,h=>exact absurd h (by simp)
      intro f W4 hS _ _ _ hset;have q1:K3 W4 101 (w.heap.size+1) 0 0 true:=hset 2 _ _ _ rfl (by decide);have hb3:Bl w W4:=hS.under hb.drew (by intro b h;rw [List.mem_singleton.1 h];omega) hb.size;clear hset hS g0;simp only [puts,List.foldl,Act.put,List.setIfInBounds_toArray,List.set_cons_zero,List.set_cons_succ];go_wp2;exact bodyPost_ret (v:= .tuple #[.agg #[int u64 0,int u64 0,.bool true],sen a0]) (cpt_res (fn:=Tryz.f104) (p:=2) (u:=3) results104 _ rfl q1) rfl ⟨by rw [hV'],hb3⟩
    | false=>
      have hV':V= .tuple #[.agg #[int u64 (px p),int u64 (py p),.bool (pb p)],.nilIface]:=by rw [hV.out,if_pos (by simp [hz])]
      rw [hz] at hr2;have c0:=hr.c0;have c1:=hr.c1;have c2:=hr.c2;have cf:=hr.frz;have k0:=hr2.c0;have k1:=hr2.c1;have k2:=hr2.c2;go_wp2;exact bodyPost_ret (v:= .tuple #[.agg #[int u64 (px p),int u64 (py p),.bool false],.nilIface]) (cpt_res (fn:=Tryz.f104) (p:=2) (u:=3) results104 _ rfl (hr.set (px p) (py p) false)) rfl ⟨rfl,set3_below hb (by omega)⟩
theorem eleO_any (t:Tri)(a0 a2:Addr)(w:World)(hs:So w a0 a2):
    Cr 104 #[.agg #[int u64 (t.1:Int),int u64 (t.2.1:Int),.bool t.2.2]] w (if elT t=true then .tuple #[.agg #[int u64 (px (asT t)),int u64 (py (asT t)),.bool (pb (asT t))],.nilIface] else .tuple #[.agg #[int u64 0,int u64 0,.bool true],sen a0]):=by
  have h:=eleO_of _ _ _ _ (asT t) a0 a2 w hs (fun w=>fndW t.1 t.2.1 t.2.2 w)
  have e:((toPt t.1 t.2.1 t.2.2).isSome=true∧pb (asT t)=false)↔elT t=true:=by
    constructor
    · rintro⟨h1,h2⟩;have h3:=(triW_px (t:=t) h1).2.2;unfold elT;rw [show onT t=true from h1,h3,h2];rfl
    · intro h;refine⟨elT_on h,?_⟩
      cases hp:pb (asT t) with
      |false=>rfl
      |true=>exact absurd ((pb_none _).1 hp) (elT_nz h)
  simp only [e] at h;exact h
end
theorem cf_dkS_l5Sized (args:Array Value)(w:World):(callFunc 46 args).run prog w= .ok (.enter 46 args) w:=by kernel_rfl
theorem cf_spec_l5Tag (args:Array Value)(w:World):(callFunc 55 args).run prog w= .ok (.enter 55 args) w:=by kernel_rfl
theorem cf_spec_HashToScalar (args:Array Value)(w:World):(callFunc 54 args).run prog w= .ok (.enter 54 args) w:=by kernel_rfl
section
variable {A:Act}{w:World}{dst:Option Tmp}{ty:TypeId}{ps:String}{af:Array Edge}{gd:Option (Nat×Bool)}{x y:Operand}{b i:Nat}
theorem dkx0 {u v:Value}(hx:A.eval x= .tuple #[u,v]):Does prog (Opr dst (.extract x 0) ty ps af gd) A w fun v' w'=>v'=u∧Bl w w':=dv (by generalize A.eval=ev at*;simp [execOp,hx,go_sem])
theorem dkx1 {u v:Value}(hx:A.eval x= .tuple #[u,v]):Does prog (Opr dst (.extract x 1) ty ps af gd) A w fun v' w'=>v'=v∧Bl w w':=dv (by generalize A.eval=ev at*;simp [execOp,hx,go_sem])
theorem dkc8 {n m:Int}(hx:A.eval x= .int .i64 n)(hm:IntKind.u8.wrap n=m):Does prog (Opr dst (.convert 3 5 x) ty ps af gd) A w fun v' w'=>v'= .int .u8 m∧Bl w w':=
  does_value (execS_c8 hx hm) ⟨rfl,Below.refl _ _⟩
theorem dksl {a:Int}(hx:A.eval x= .int .u8 a):Does prog (Opr dst (.buildSlice 35 1 #[(0,x)]) ty ps af gd) A w fun v w'=>v= .slice (some ⟨w.heap.size,0,none⟩) 1 1∧w'=w.alloc (.cells #[.int .u8 a] 5):=
  does_value (execS_slc1 hx) ⟨rfl,rfl⟩
theorem dkcv {a : Int} (hx : A.eval x = .slice (some ⟨b, 0, none⟩) 1 1)(hr:w.heap[b]? =some (.cells #[.int .u8 a] 5)):Does prog (Opr dst (.convert 35 9 x) ty ps af gd) A w fun v' w'=>v'= .string (strOfNums [a])∧Bl w w':=
  does_value (execS_conv (n := 1) (xs := [a]) hx rfl (fun i hi => by obtain rfl:i=0:=by omega
                                                                     simp [World.cell?,hr,lk])) ⟨rfl,Below.refl _ _⟩
end
theorem dkS_bad (mode:Int)(seed info:ByteArray)(w:World)(h:dkB mode seed info=false):
    Cr 16 #[.int .i64 mode,.string seed,.string info] w (.tuple #[int u64 0,.int .i64 1]):=by
  unfold dkB at h;rw [decide_eq_false_iff_not] at h;by_cases hm:0≤mode∧mode≤2
  · have M:=fun w=>modS_yes mode w hm.1 hm.2
    by_cases hs:(seed.size:Int)=32
    · have hi:(60000:Int)<(info.size:Int):=by omega
      have hs':((seed.size:Int) !=32)=false:=by simpa using hs
      clear h hm hs;go_enter func16,ntmps16;go_wp2_with fail;refine(M _).mono ?_;rintro e w1 ⟨rfl,rfl⟩;go_wp2;go_ret2;exact⟨rfl,Below.refl _ _⟩
    · have hs':((seed.size:Int) !=32)=true:=by simpa using hs
      clear h hm hs;go_enter func16,ntmps16;go_wp2_with fail;refine(M _).mono ?_;rintro e w1 ⟨rfl,rfl⟩;go_wp2;go_ret2;exact⟨rfl,Below.refl _ _⟩
  · have M:=fun w=>modS_no mode w hm
    clear h hm;go_enter func16,ntmps16;go_wp2_with fail;refine(M _).mono ?_;rintro e w1 ⟨rfl,rfl⟩;go_wp2;go_ret2;exact⟨rfl,Below.refl _ _⟩
theorem dkS_yes (mode:Int)(seed info:ByteArray)(w:World)(m1:0≤mode)(m2:mode≤2)(hs:seed.size=32)(hi:info.size≤60000):
    Cr 16 #[.int .i64 mode,.string seed,.string info] w (.tuple #[int u64 ((dkR (dkN mode.toNat seed info) 0 256).1:Nat),.int .i64 (dkR (dkN mode.toNat seed info) 0 256).2]):=by
  obtain⟨hm,hm'⟩:=dk_mod m1 m2;have M:=fun w=>modS_yes mode w m1 m2
  have S:=fun w=>sizS_any info w (by omega)
  have TG:=fun w=>tagS_any dkW mode.toNat w hm (by decide)
  rw [hm'] at TG;have hzt:=dkT_size _ hm;have H:∀(j:Nat) (w:World),Cr 54 #[.string (dkM seed info j),.string (tagB dkW mode.toNat)] w (.tuple #[int u64 (dkN mode.toNat seed info j:Nat),.bool true]):=fun j w=>h2sS_yes (dkM seed info j) (tagB dkW mode.toNat) w ⟨by omega,by omega,by rw [dkM_size];omega⟩
  have hzs:=sizB_sz info;obtain⟨f,hf⟩:∃f,f=dkN mode.toNat seed info:=⟨_,rfl⟩;obtain⟨R,hR⟩:∃R,Hid (R=dkR f 0 256):=⟨_,rfl⟩;rw [←hf] at H⊢;rw [←hR.out];unfold dkM dkW at*;generalize tagB _ mode.toNat=tg at*;generalize sizB info=Z at*;have q1:seed.size+Z.size≤9223372036854775807:=by omega
  have q2:∀j:Nat,(seed++Z).size+(strOfNums [(j:Int)]).size≤9223372036854775807:=fun j=>by
    rw [ByteArray.size_append,strOfNums_size];simp only [List.length_cons,List.length_nil];omega
  have hs':((seed.size:Int) !=32)=false:=by simp [hs]
  have hi': ¬ (60000:Int)<(info.size:Int):=by omega
  have q2':Hid (∀j:Nat,(seed++Z).size+(strOfNums [(j:Int)]).size≤9223372036854775807):=q2;have H':Hid (∀(j:Nat) (w:World),Cr 54 #[.string (seed++Z++strOfNums [(j:Int)]),.string tg] w (.tuple #[int u64 (f j:Nat),.bool true])):=H;clear hf hzt hzs hm hm' m1 m2 hs hi q2 H;go_enter func16,ntmps16;go_wp2_with fail;refine(M _).mono ?_;rintro e w1 ⟨rfl,rfl⟩;clear M;go_wp2
  go_loopw [8] (fun iv wr=>∃j:Nat,j≤256∧iv= .int .i64 (j:Int)∧Hid (R=dkR f j (256-j))∧Bl w wr) (fun i _=>256-(intOf i).toNat)
  case atStart=>exact ⟨0,by omega,rfl,hR,Below.refl _ _⟩
  case round=>
    obtain⟨j,hj,rfl,hRj,hbl⟩:=hrel;clear hR;by_cases hlt:j<256
    · have hli:(j:Int)<256:=by omega
      have e8:IntKind.u8.wrap (j:Int)=(j:Int):=u8_in _ (by omega) (by omega);have HJ:=H'.out j;have qj:=q2'.out j;go_wp2
      refine G.pool_list (W:=wr) [] [.val (.string seed),
          .val (.string info),
          .val (.string Z),
          .val (.string (seed++Z)),
          .val (.int .i64 (j:Int)),
          .val (.int .u8 (j:Int)),
          .new (.cells #[.int .u8 (j:Int)] 5) (.cells #[.int .u8 (j:Int)] 5) 1001,
          .val (.string (strOfNums [(j:Int)])),
          .val (.string (seed++Z++strOfNums [(j:Int)])),
          .val (.int .i64 mode),
          .val (.string tg),
          .val (.tuple #[int u64 ((f j:Nat):Int),.bool true]),
          .val (.tuple #[int u64 ((f j:Nat):Int),.bool true]),
          .val (int u64 ((f j:Nat):Int)),
          .val (.bool true),
          .val (int u64 ((f j:Nat):Int)),
          .val (.bool true)] [[1],[2],[30],[29,31],[8],[33],[34],[35],[32,36],[0],[38],[37,39],[40],[28],[28],[41],[42]] (fun fr=> [(some 29,.string seed),(some 30,.string info),(some 31,.string Z),(some 32,.string (seed++Z)),(some 33,.int .i64 (j:Int)),(some 34,.int .u8 (j:Int)),(some 35,.slice (some ⟨fr 6,0,none⟩) 1 1),(some 36,.string (strOfNums [(j:Int)])),(some 37,.string (seed++Z++strOfNums [(j:Int)])),(some 38,.int .i64 mode),(some 39,.string tg),(some 40,.tuple #[int u64 ((f j:Nat):Int),.bool true]),(some 28,.tuple #[int u64 ((f j:Nat):Int),.bool true]),(some 41,int u64 ((f j:Nat):Int)),(some 42,.bool true),(some 9,int u64 ((f j:Nat):Int)),(some 10,.bool true)]) (by kernel_rfl) (by kernel_rfl) (by kernel_rfl) (by kernel_rfl) (fun _=>by kernel_rfl) (G.last_of [.cells #[.int .u8 (j:Int)] 5] (fun F R hm=>by simp at hm) (fun ob ob' k hm=>by simp at hm;simp [hm]) (fun b ob ob' hm=>by simp at hm)) (fun b ob ob' hm=>by simp at hm) ?_ ?_
      · intro ix hix
        match ix,hix with
        |0,_=>exact G.obv [(1,.string seed)] rfl rfl (fun A w ⟨e0,_⟩ hB=>doS_move e0)
        |1,_=>exact G.obv [(2,.string info)] rfl rfl (fun A w ⟨e0,_⟩ hB=>doS_move e0)
        |2,_=>exact G.obv [(30,.string info)] rfl rfl (fun A w ⟨e0,_⟩ hB=>doS_call1 cf_dkS_l5Sized e0 (S w))
        |3,_=>exact G.obv [(29,.string seed),(31,.string Z)] rfl rfl (fun A w ⟨e0,e1,_⟩ hB=>doS_cat e0 e1 q1)
        |4,_=>exact G.obv [(8,.int .i64 (j:Int))] rfl rfl (fun A w ⟨e0,_⟩ hB=>doS_move e0)
        |5,_=>exact G.obv [(33,.int .i64 (j:Int))] rfl rfl (fun A w ⟨e0,_⟩ hB=>dkc8 e0 e8)
        |6,_=>exact G.ob_slc 1 [(34,.int .u8 (j:Int))] rfl rfl (fun _=>by kernel_rfl) (fun A w ⟨e0,_⟩=>dksl e0)
        |7,_=>exact G.ob_use 35 6 1001 (.cells #[.int .u8 (j:Int)] 5) (fun fr=> [(35,.slice (some ⟨fr 6,0,none⟩) 1 1)]) rfl rfl (by decide) (by kernel_rfl) rfl (fun _=>by kernel_rfl) (fun fr A w ⟨e0,_⟩ hB hr=>dkcv e0 hr)
        |8,_=>exact G.obv [(32,.string (seed++Z)),(36,.string (strOfNums [(j:Int)]))] rfl rfl (fun A w ⟨e0,e1,_⟩ hB=>doS_cat e0 e1 qj)
        |9,_=>exact G.obv [(0,.int .i64 mode)] rfl rfl (fun A w ⟨e0,_⟩ hB=>doS_move e0)
        |10,_=>exact G.obv [(38,.int .i64 mode)] rfl rfl (fun A w ⟨e0,_⟩ hB=>doS_call2 cf_spec_l5Tag rfl e0 (TG w))
        |11,_=>exact G.obv [(37,.string (seed++Z++strOfNums [(j:Int)])),(39,.string tg)] rfl rfl (fun A w ⟨e0,e1,_⟩ hB=>doS_call2 cf_spec_HashToScalar e0 e1 (HJ w))
        |12,_=>exact G.obv [(40,.tuple #[int u64 ((f j:Nat):Int),.bool true])] rfl rfl (fun A w ⟨e0,_⟩ hB=>doS_move e0)
        |13,_=>exact G.obv [(28,.tuple #[int u64 ((f j:Nat):Int),.bool true])] rfl rfl (fun A w ⟨e0,_⟩ hB=>dkx0 e0)
        |14,_=>exact G.obv [(28,.tuple #[int u64 ((f j:Nat):Int),.bool true])] rfl rfl (fun A w ⟨e0,_⟩ hB=>dkx1 e0)
        |15,_=>exact G.obv [(41,int u64 ((f j:Nat):Int))] rfl rfl (fun A w ⟨e0,_⟩ hB=>doS_assign e0)
        |16,_=>exact G.obv [(42,.bool true)] rfl rfl (fun A w ⟨e0,_⟩ hB=>doS_assign e0)
        |ix+17,h=>exact absurd h (by simp)
      intro fr W3 hS _ _ _ _;have b3:Bl wr W3:=(Below.refl _ wr).drew.trans hS.below;replace hbl:=hbl.tr b3;clear hS b3 HJ qj;simp only [puts,List.foldl,Act.put,List.setIfInBounds_toArray,List.set_cons_zero,List.set_cons_succ];by_cases hz:f j=0
      · have hz':(((f j:Nat):Int) !=0)=false:=by simp [hz]
        have hRn:Hid (R=dkR f (j+1) (256-(j+1))):=by unfold Hid;rw [hRj.out,dkR_step hlt hz]
        clear hRj hz;go_wp2;go_roundw
        case rel=>
          first
            |exact ⟨j+1,by omega,by go_num,hRn,hbl⟩
            |((repeat apply Exists.intro);exact⟨⟨j+1,by omega,by go_num,hRn,hbl⟩,rfl⟩)
        case measure=>simp [intOf];omega
      · have hz':(((f j:Nat):Int) !=0)=true:=by simp;omega
        have hRn:R=(f j,0):=by rw [hRj.out,dkR_hit hlt hz]
        clear hRj hz;subst hRn;go_wp2;go_ret2;exact⟨rfl,hbl⟩
    · obtain rfl:j=256:=by omega
      have hRn:R=(0,3):=by rw [hRj.out];rfl
      clear hRj;subst hRn;go_wp2;go_ret2;exact⟨rfl,hbl⟩
def ctxB (k:Nat):ByteArray:=⟨#[84,79,89,80,82,70,45]⟩++(⟨#[48,49,50]⟩:ByteArray).extract k (k+1)++⟨#[45,77,54,49]⟩
theorem tagB_ctx (word:ByteArray)(k:Nat):tagB word k=word++ctxB k:=by
  unfold tagB ctxB;rw [←ByteArray.append_assoc,←ByteArray.append_assoc]
theorem ctxB_size (k:Nat)(h:k<3):(ctxB k).size=12:=by
  rcases(show k=0∨k=1∨k=2 by omega) with rfl|rfl|rfl<;>rfl
theorem smlI (k:Nat)(w:World)(hk:k<3):
    Calls prog 234 #[.int .i64 k] w fun e w'=>e= .returned (.string ((⟨#[48,49,50]⟩:ByteArray).extract k (k+1)))∧w=w':=by
  rcases(show k=0∨k=1∨k=2 by omega) with rfl|rfl|rfl
  · go_enter func234,ntmps234;go_wp2;go_ret;exact⟨congrArg (fun s=>Ending.returned (Value.string s)) (by kernel_rfl),rfl⟩
  · go_enter func234,ntmps234;go_wp2;go_ret;exact⟨congrArg (fun s=>Ending.returned (Value.string s)) (by kernel_rfl),rfl⟩
  · go_enter func234,ntmps234;go_wp2;go_ret;exact⟨congrArg (fun s=>Ending.returned (Value.string s)) (by kernel_rfl),rfl⟩
theorem fmtI_of (k:Int)(s:ByteArray)(w:World)(h0:0≤k)(h1:k<100)
    (L:∀w,Calls prog 234 #[.int .i64 k] w fun e w'=>e= .returned (.string s)∧w=w'):
    Calls prog 226 #[.int .i64 k,.int .i64 10] w fun e w'=>e= .returned (.string s)∧w=w':=by
  go_enter func226,ntmps226;go_wp2_with fail;refine(L _).mono ?_;rintro e w1 ⟨rfl,rfl⟩;go_wp2;go_ret;exact⟨rfl,rfl⟩
theorem itoI_of (k:Int)(s:ByteArray)(w:World)
    (L:∀w,Calls prog 226 #[.int .i64 k,.int .i64 10] w fun e w'=>e= .returned (.string s)∧w=w'):
    Calls prog 194 #[.int .i64 k] w fun e w'=>e= .returned (.string s)∧w=w':=by
  go_enter func194,ntmps194;go_wp2_with fail;refine(L _).mono ?_;rintro e w1 ⟨rfl,rfl⟩;go_wp2;go_ret;exact⟨rfl,rfl⟩
theorem itoP_of (k:Int)(s:ByteArray)(w:World)
    (L:∀w,Calls prog 194 #[.int .i64 k] w fun e w'=>e= .returned (.string s)∧w=w'):
    Calls prog 162 #[.int .i64 k] w fun e w'=>e= .returned (.string s)∧w=w':=by
  go_enter func162,ntmps162;go_wp2_with fail;refine(L _).mono ?_;rintro e w1 ⟨rfl,rfl⟩;go_wp2;go_ret;exact⟨rfl,rfl⟩
theorem ctxI_yes (k:Nat)(w:World)(hk:k<3):
    Calls prog 109 #[.int .i64 k] w fun e w'=>e= .returned (.tuple #[.string (ctxB k),.bool true])∧w=w':=by
  have L:=fun w=>itoP_of k _ w (fun w=>itoI_of k _ w (fun w=>fmtI_of k _ w (by omega) (by omega) (fun w=>smlI k w hk)))
  have hs:((⟨#[48,49,50]⟩:ByteArray).extract k (k+1)).size=1:=by
    rcases(show k=0∨k=1∨k=2 by omega) with rfl|rfl|rfl<;>rfl
  unfold ctxB;generalize (⟨#[48,49,50]⟩:ByteArray).extract k (k+1)=D at*;have g1: ¬ (k:Int)<0:=by omega
  have g2: ¬ (3:Int)≤(k:Int):=by omega
  have q1: ¬ (9223372036854775807<(ByteArray.mk #[84,79,89,80,82,70,45]).size+D.size):=by rw [hs];decide
  have q2: ¬ (9223372036854775807<(ByteArray.mk #[84,79,89,80,82,70,45]++D).size+(ByteArray.mk #[45,77,54,49]).size):=by rw [ByteArray.size_append,hs];decide
  go_enter func109,ntmps109;go_wp2_with fail;refine(L _).mono ?_;rintro e w1 ⟨rfl,rfl⟩;clear L hk;go_wp2;go_ret2;exact⟨rfl,rfl⟩
theorem tagI_any (c word:ByteArray)(w:World)(h1:c.size≤1000)(h2:word.size≤1000):
    Cr 112 #[.string c,.string word] w (.string (word++c)):=by
  go_enter func112,ntmps112;go_wp2;go_ret;exact⟨rfl,Below.refl _ _⟩
end Go.Proofs.YtjhbckngdclleaaGreatDoor
