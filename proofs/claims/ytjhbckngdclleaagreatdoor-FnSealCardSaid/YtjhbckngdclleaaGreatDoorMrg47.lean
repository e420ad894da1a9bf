import Derived.Test.YtjhbckngdclleaaGreatDoorMrg46
set_option linter.unusedVariables false
set_option maxRecDepth 100000
set_option maxHeartbeats 16000000
namespace Go.Proofs.YtjhbckngdclleaaGreatDoor
open Go.Proofs.Tryz Go.RowKit
open Go.Value (int)
open Go.IntKind (u64)
section
open M
theorem cfTI (args:Array Value)(w:World):(callFunc 20 args).run prog w= .ok (.enter 20 args) w:=by kernel_rfl
section
variable {A:Act}{w:World}{dst:Option Tmp}{ty:TypeId}{ps:String}{af:Array Edge}{gd:Option (Nat×Bool)}{x y z:Operand}{b i:Nat}
theorem lenT {s:ByteArray}(hx:A.eval x= .string s)(hs:s.size=32):Does prog (Opr dst (.call {callee:= .builtin .len,args:=#[x],argTypes:=#[9]}) ty ps af gd) A w fun v' w'=>v'= .int .i64 32∧Bl w w':=dv (by generalize A.eval=ev at*;simp [hx,hs,go_sem])
end
theorem cfBI (args:Array Value)(w:World):(callFunc 21 args).run prog w= .ok (.enter 21 args) w:=by kernel_rfl
section
variable {A:Act}{w:World}{dst:Option Tmp}{ty:TypeId}{ps:String}{af:Array Edge}{gd:Option (Nat×Bool)}{x y z:Operand}{b i:Nat}
theorem ntT (hx:A.eval x= .bool true):Does prog (Opr dst (.unOp .not 4 x) ty ps af gd) A w fun v' w'=>v'= .bool false∧Bl w w':=dv (by generalize A.eval=ev at*;simp [execOp,hx,go_sem])
theorem neS {s:ByteArray}(hx:A.eval x= .string s)(hy:A.eval y= .string s):Does prog (Opr dst (.binOp .neq 9 x y 9) ty ps af gd) A w fun v' w'=>v'= .bool false∧Bl w w':=dv (by generalize A.eval=ev at*;simp [execOp,hx,hy,go_sem])
theorem pkFz {u:Value}(hx:A.eval x= .bool false)(hy:A.eval z=u):Does prog (Opr dst (.pick x y z) ty ps af gd) A w fun v' w'=>v'=u∧Bl w w':=dv (by generalize A.eval=ev at*;simp [execOp,hx,hy,go_sem])
theorem ne32 (hx:A.eval x= .int .i64 32):Does prog (Opr dst (.binOp .neq 3 x (.const (.int .i64 32)) 3) ty ps af gd) A w fun v' w'=>v'= .bool false∧Bl w w':=by
  have hc:A.eval (.const (.int .i64 32))= .int .i64 32:=rfl;have h:(execOp A.eval (Opr dst (.binOp .neq 3 x (.const (.int .i64 32)) 3) ty ps af gd)).run prog w= .ok (.value (.bool false)) w:=by generalize A.eval=ev at*;simp [execOp,hx,hc,go_sem]
  exact does_value h ⟨rfl,Below.refl _ _⟩
theorem neP {p q:Int}{c:Bool}(hx:A.eval x= .agg #[int u64 p,int u64 q,.bool c])(hy:A.eval y= .agg #[int u64 p,int u64 q,.bool c]):Does prog (Opr dst (.binOp .neq 27 x y 27) ty ps af gd) A w fun v' w'=>v'= .bool false∧Bl w w':=dv (by generalize A.eval=ev at*;simp [execOp,hx,hy,go_sem])
theorem fa_r1 (hx:A.eval x= .pointer (some ⟨b,i,none⟩)):Does prog (Opr dst (.fieldAddr 31 x 1) ty ps af gd) A w fun v' w'=>v'= .pointer (some ⟨b,i+1,none⟩)∧Bl w w':=dv (by generalize A.eval=ev at*;simp [execOp,hx,go_sem])
theorem fa_r0 (hx:A.eval x= .pointer (some ⟨b,i,none⟩)):Does prog (Opr dst (.fieldAddr 31 x 0) ty ps af gd) A w fun v' w'=>v'= .pointer (some ⟨b,i+0,none⟩)∧Bl w w':=dv (by generalize A.eval=ev at*;simp [execOp,hx,go_sem])
theorem ldPt {v0 v1 v2:Value}(hx:A.eval x= .pointer (some ⟨b,i,none⟩))(h0:w.cell? ⟨b,i,none⟩=some v0)(h1:w.cell? ⟨b,i+1,none⟩=some v1)(h2:w.cell? ⟨b,i+2,none⟩=some v2):Does prog (Opr dst (.load 27 x) ty ps af gd) A w fun v' w'=>v'= .agg #[v0,v1,v2]∧Bl w w':=dv (by generalize A.eval=ev at*;simp [execOp,hx,h0,h1,h2,go_sem])
theorem Y.cl0 {F:FuncId}{at_:Array TypeId}{r:Value}(hcf:∀(args:Array Value) (w:World),(callFunc F args).run prog w= .ok (.enter F args) w)(hc:Cr F #[] w r):
    Does prog (Opr dst (.call {callee:= .value (.func F),args:=#[],argTypes:=at_}) ty ps af gd) A w fun v' w'=>v'=r∧Bl w w':=by
  have hF:A.eval (.func F)= .func (.func F) #[] #[]:=rfl;have h:(execOp A.eval (Opr dst (.call {callee:= .value (.func F),args:=#[],argTypes:=at_}) ty ps af gd)).run prog w= .ok (.enter F #[]) w:=by generalize A.eval=ev at*;simp [execOp,hF,hcf,go_sem]
  exact does_call h (hc.mono fun _ _ ⟨h,h'⟩=>⟨r,h,rfl,h'⟩)
end
theorem un3 (s n:ByteArray)(t:Tri)(u:ByteArray):∃v6 v5 ok,unV s n t u= .tuple #[int u64 v5,.string v6,.bool ok]:=by
  unfold unV;split
  · exact⟨_,_,_,rfl⟩
  · exact⟨_,_,_,rfl⟩
theorem box_of {s n:ByteArray}{t:Tri}{u:ByteArray}(h:slO s n t u=true):(n++slM s n t u).size=48∧(n++slM s n t u).extract 0 16=n∧unO s (n++slM s n t u) t u=true:=by
  have hn:n.size=16:=by
    unfold slO slC at h;simp only [Bool.and_eq_true,decide_eq_true_eq] at h;exact h.1.1.1.2
  have hz:(n++slM s n t u).size=48:=by rw [ByteArray.size_append,slM_size,hn]
  have he:(n++slM s n t u).extract 0 16=n:=by
    rw [←hn];have h:=ByteArray.extract_append_eq_left (a:=n) (b:=slM s n t u) (i:=n.size) rfl;exact h
  refine⟨hz,he,?_⟩;unfold unO;rw [he,h,hz];simp
theorem slW (a0:Option Addr)(l0 cap0:Nat)(w:World)(hv:Cod w (.slice a0 l0 cap0))(hl:l0≤1048576)(hT:TabK w)(hs:∃s0 s2,So w s0 s2):
    Cr 6 #[.slice a0 l0 cap0] w (.bool true):=by
  obtain⟨s0,s2,hso⟩:=hs;have hl0: ¬ (1048576:Int)<(l0:Int):=by omega
  have DS:=dsel (.slice a0 l0 cap0) w hv;go_enter func6,ntmps6;go_wp2_with fail;refine DS.mono ?_;rintro e w1 ⟨⟨s,n,x0,y0,c0,u,hs,hn,hu,hx0,hy0,rfl⟩,hB⟩;clear DS hx0 hy0;obtain⟨t,ht1,ht2,ht3⟩:∃t:Tri,x0=t.1∧y0=t.2.1∧c0=t.2.2:=⟨(x0,y0,c0),rfl,rfl,rfl⟩;subst ht1 ht2 ht3;have m1:w.heap.size≤w1.heap.size:=hB.size;have h5:=Bk.new w1 27 #[int u64 (t.1:Int),int u64 (t.2.1:Int),.bool t.2.2];replace hB:=hB.alloc hB.size (Obj.cells #[int u64 (t.1:Int),int u64 (t.2.1:Int),.bool t.2.2] 27);obtain⟨W2,eW2⟩:∃W,w1.alloc (Obj.cells #[int u64 (t.1:Int),int u64 (t.2.1:Int),.bool t.2.2] 27)=W:=⟨_,rfl⟩;rw [eW2] at h5 hB;obtain⟨b5,qb5⟩:∃b,w1.heap.size=b:=⟨_,rfl⟩;rw [qb5] at h5;have p0:W2.cell? ⟨b5,0,none⟩=some (int u64 (t.1:Int)):=h5.cell (k:=0) rfl;have p1:W2.cell? ⟨b5,1,none⟩=some (int u64 (t.2.1:Int)):=h5.cell (k:=1) rfl;have p2:W2.cell? ⟨b5,2,none⟩=some (.bool t.2.2):=h5.cell (k:=2) rfl;have SS:=fun w=>selS s n t u w (by omega) (by omega) (by omega)
  have SI:=fun w' (hb:Bl w w')=>seI s n t u s0 s2 w' (hT.kept hb) (hso.keep hb)
  have UI:=fun bx w' (hb:Bl w w')=>unI s bx t u s0 s2 w' (hT.kept hb) (hso.keep hb)
  have hl5:w.heap.size≤b5:=by omega
  clear m1
  cases hg:slO s n t u with
  | false=>
    rw [hg] at SS SI;obtain⟨v0,v4,v1,v2,v3,-,e1⟩:=rc5 s n t u;have e2:xpB s n t u=⟨#[]⟩:=by unfold xpB;rw [hg];rfl
    rw [e1,e2] at SS SI;clear e1 e2 UI hg;go_wp2_with fail;refine(SS _).mono ?_;rintro e w3 ⟨rfl,d1⟩;replace h5:=h5.keep d1;replace hB:=hB.tr d1;clear d1;clear p0 p1 p2 eW2 qb5;have h7:=Bk.new w3 31 #[.string v0,int u64 v1,int u64 v2,.bool v3,.string v4];replace h5:=h5.alloc (Obj.cells #[.string v0,int u64 v1,int u64 v2,.bool v3,.string v4] 31);replace hB:=hB.alloc hB.size (Obj.cells #[.string v0,int u64 v1,int u64 v2,.bool v3,.string v4] 31);obtain⟨W4,eW4⟩:∃W,w3.alloc (Obj.cells #[.string v0,int u64 v1,int u64 v2,.bool v3,.string v4] 31)=W:=⟨_,rfl⟩;rw [eW4] at h5 h7 hB;clear h7;have p0:W4.cell? ⟨b5,0,none⟩=some (int u64 (t.1:Int)):=h5.cell (k:=0) rfl;have p1:W4.cell? ⟨b5,1,none⟩=some (int u64 (t.2.1:Int)):=h5.cell (k:=1) rfl;have p2:W4.cell? ⟨b5,2,none⟩=some (.bool t.2.2):=h5.cell (k:=2) rfl;go_wp2_with fail;refine(SI _ hB).mono ?_;rintro e w5 ⟨rfl,d1⟩;replace h5:=h5.keep d1;replace hB:=hB.tr d1;clear d1;clear p0 p1 p2 eW4;have h10:=Bk.new w5 31 #[.string v0,int u64 v1,int u64 v2,.bool v3,.string v4];replace h5:=h5.alloc (Obj.cells #[.string v0,int u64 v1,int u64 v2,.bool v3,.string v4] 31);replace hB:=hB.alloc hB.size (Obj.cells #[.string v0,int u64 v1,int u64 v2,.bool v3,.string v4] 31);obtain⟨W6,eW6⟩:∃W,w5.alloc (Obj.cells #[.string v0,int u64 v1,int u64 v2,.bool v3,.string v4] 31)=W:=⟨_,rfl⟩;rw [eW6] at h5 h10 hB;obtain⟨b10,qb10⟩:∃b,w5.heap.size=b:=⟨_,rfl⟩;rw [qb10] at h10;clear SS SI h10;go_wp2_with fail;refine(duns a0 l0 cap0 _ (hv.below hB) hl).mono ?_;rintro e w7 ⟨⟨s',bx',t2,u',hs',hu',rfl⟩,d1⟩;replace h5:=h5.keep d1;replace hB:=hB.tr d1;clear d1;obtain⟨v6',v5',ok',hun⟩:=un3 s' bx' t2 u';have US:=fun w=>unS s' bx' t2 u' w (by omega) (by omega)
    have UJ:=fun w' (hb:Bl w w')=>unI s' bx' t2 u' s0 s2 w' (hT.kept hb) (hso.keep hb)
    rw [hun] at US UJ;clear hun;have p0:w7.cell? ⟨b5,0,none⟩=some (int u64 (t.1:Int)):=h5.cell (k:=0) rfl;have p1:w7.cell? ⟨b5,1,none⟩=some (int u64 (t.2.1:Int)):=h5.cell (k:=1) rfl;have p2:w7.cell? ⟨b5,2,none⟩=some (.bool t.2.2):=h5.cell (k:=2) rfl;have f0:=h5.frz 0;have f1:=h5.frz 1;have f2:=h5.frz 2;have g5:=((h5.set 0 (int u64 (t2.1:Int))).set 1 (int u64 (t2.2.1:Int))).set 2 (.bool t2.2.2);have gB:=((hB.setCell (p:=⟨b5,0,none⟩) hl5 (int u64 (t2.1:Int))).setCell (p:=⟨b5,1,none⟩) hl5 (int u64 (t2.2.1:Int))).setCell (p:=⟨b5,2,none⟩) hl5 (.bool t2.2.2);simp only [List.setIfInBounds_toArray,List.set_cons_zero,List.set_cons_succ] at g5;go_wp2_with fail;refine(UJ _ gB).mono ?_;rintro e w8 ⟨rfl,d1⟩;replace g5:=g5.keep d1;replace gB:=gB.tr d1;clear d1 p0 p1 p2 f0 f1 f2 h5 hB;have p0:w8.cell? ⟨b5,0,none⟩=some (int u64 (t2.1:Int)):=g5.cell (k:=0) rfl;have p1:w8.cell? ⟨b5,1,none⟩=some (int u64 (t2.2.1:Int)):=g5.cell (k:=1) rfl;have p2:w8.cell? ⟨b5,2,none⟩=some (.bool t2.2.2):=g5.cell (k:=2) rfl;go_wp2_with fail;refine(US _).mono ?_;rintro e w9 ⟨rfl,d1⟩;replace gB:=gB.tr d1;clear d1 p0 p1 p2;go_wp2;go_ret;exact⟨rfl,gB⟩
  | true=>
    rw [hg] at SS SI;obtain⟨hb1,hb2,hb3⟩:=box_of hg;have e1:rcL s n t u= [.string u,int u64 (px (slP s n)),int u64 (py (slP s n)),.bool (pb (slP s n)),.string (n++slM s n t u)]:=by unfold rcL;rw [hg];rfl
    have e2:xpB s n t u=prB s n wExp:=by unfold xpB;rw [hg];rfl
    rw [e1,e2] at SS SI;replace UI:=UI (n++slM s n t u);unfold unV at UI;rw [hb3,hb2] at UI;have hez:=prB_size s n wExp;have TM:=fun w=>timI_pt (prK s n).1 1 509478702933351334 false w (prK_lt s n)
    rw [asG,show nt (prK s n).1 gG=slP s n from rfl,ptW_eq] at TM;have BS:∀w,Cr 21 #[] w (.agg #[int u64 ((1:Nat):Int),int u64 ((509478702933351334:Nat):Int),.bool false]):=fun w=>bsI w
    clear e1 e2 hb1 hb2 hb3 hg;generalize px (slP s n)=px0 at*;generalize py (slP s n)=py0 at*;generalize pb (slP s n)=pb0 at*;generalize n++slM s n t u=bx at*;generalize prB s n wExp=ex at*;generalize ((prK s n).1:Nat)=k at*;replace hez:Hid (ex.size=32):=hez;go_wp2_with fail;refine(SS _).mono ?_;rintro e w3 ⟨rfl,d1⟩;replace h5:=h5.keep d1;replace hB:=hB.tr d1;clear d1;clear p0 p1 p2 eW2 qb5;have h7:=Bk.new w3 31 #[.string u,int u64 px0,int u64 py0,.bool pb0,.string bx];replace h5:=h5.alloc (Obj.cells #[.string u,int u64 px0,int u64 py0,.bool pb0,.string bx] 31);replace hB:=hB.alloc hB.size (Obj.cells #[.string u,int u64 px0,int u64 py0,.bool pb0,.string bx] 31);obtain⟨W4,eW4⟩:∃W,w3.alloc (Obj.cells #[.string u,int u64 px0,int u64 py0,.bool pb0,.string bx] 31)=W:=⟨_,rfl⟩;rw [eW4] at h5 h7 hB;clear h7;have p0:W4.cell? ⟨b5,0,none⟩=some (int u64 (t.1:Int)):=h5.cell (k:=0) rfl;have p1:W4.cell? ⟨b5,1,none⟩=some (int u64 (t.2.1:Int)):=h5.cell (k:=1) rfl;have p2:W4.cell? ⟨b5,2,none⟩=some (.bool t.2.2):=h5.cell (k:=2) rfl;go_wp2_with fail;refine(SI _ hB).mono ?_;rintro e w5 ⟨rfl,d1⟩;replace h5:=h5.keep d1;replace hB:=hB.tr d1;clear d1;clear p0 p1 p2 eW4;have h10:=Bk.new w5 31 #[.string u,int u64 px0,int u64 py0,.bool pb0,.string bx];replace h5:=h5.alloc (Obj.cells #[.string u,int u64 px0,int u64 py0,.bool pb0,.string bx] 31);replace hB:=hB.alloc hB.size (Obj.cells #[.string u,int u64 px0,int u64 py0,.bool pb0,.string bx] 31);obtain⟨W6,eW6⟩:∃W,w5.alloc (Obj.cells #[.string u,int u64 px0,int u64 py0,.bool pb0,.string bx] 31)=W:=⟨_,rfl⟩;rw [eW6] at h5 h10 hB;obtain⟨b10,qb10⟩:∃b,w5.heap.size=b:=⟨_,rfl⟩;rw [qb10] at h10;clear SS SI;have p0:W6.cell? ⟨b5,0,none⟩=some (int u64 (t.1:Int)):=h5.cell (k:=0) rfl;have p1:W6.cell? ⟨b5,1,none⟩=some (int u64 (t.2.1:Int)):=h5.cell (k:=1) rfl;have p2:W6.cell? ⟨b5,2,none⟩=some (.bool t.2.2):=h5.cell (k:=2) rfl;have r4:W6.cell? ⟨b10,4,none⟩=some (.string bx):=h10.cell (k:=4) rfl;go_wp2_with fail;refine(UI _ hB).mono ?_;rintro e W9 ⟨rfl,d1⟩;replace h5:=h5.keep d1;replace h10:=h10.keep d1;replace hB:=hB.tr d1;clear d1;clear UI p0 p1 p2 r4 eW6 qb10;go_wp2;have r0:W9.drew.cell? ⟨b10,0+0,none⟩=some (.string u):=h10.cell (k:=0) rfl;have r1:W9.drew.cell? ⟨b10,0+1,none⟩=some (int u64 px0):=h10.cell (k:=1) rfl;have r2:W9.drew.cell? ⟨b10,0+1+1,none⟩=some (int u64 py0):=h10.cell (k:=2) rfl;have r3:W9.drew.cell? ⟨b10,0+1+2,none⟩=some (.bool pb0):=h10.cell (k:=3) rfl;replace hez:=hez.out
    refine G.pool_list (W:=W9) [] [.val (.bool true),
        .val (.bool false),
        .val (.bool false),
        .val (.string ex),
        .val (.string ex),
        .val (.bool false),
        .val (.bool false),
        .val (.bool false),
        .val (.string ex),
        .val (.int .i64 32),
        .val (.bool false),
        .val (.bool false),
        .val (.bool false),
        .val (int u64 (k:Int)),
        .val (.agg #[int u64 ((1:Nat):Int),int u64 ((509478702933351334:Nat):Int),.bool false]),
        .val (.agg #[int u64 px0,int u64 py0,.bool pb0]),
        .val (.pointer (some ⟨b10,0+1,none⟩)),
        .val (.agg #[int u64 px0,int u64 py0,.bool pb0]),
        .val (.bool false),
        .val (.bool false),
        .val (.bool false),
        .val (.pointer (some ⟨b10,0+0,none⟩)),
        .val (.string u),
        .val (.string u),
        .val (.bool false),
        .val (.bool false)] [[15],[64],[65],[14],[11],[67,68],[66,69],[70],[11],[72],[73],[71,74],[75],[13],[],[77,78],[10],[80],[79,81],[76,82],[83],[10],[85],[6],[86,87],[84,88]] (fun f=> [(some 64,.bool true),(some 65,.bool false),(some 66,.bool false),(some 67,.string ex),(some 68,.string ex),(some 69,.bool false),(some 70,.bool false),(some 71,.bool false),(some 72,.string ex),(some 73,.int .i64 32),(some 74,.bool false),(some 75,.bool false),(some 76,.bool false),(some 77,int u64 (k:Int)),(some 78,.agg #[int u64 ((1:Nat):Int),int u64 ((509478702933351334:Nat):Int),.bool false]),(some 79,.agg #[int u64 px0,int u64 py0,.bool pb0]),(some 80,.pointer (some ⟨b10,0+1,none⟩)),(some 81,.agg #[int u64 px0,int u64 py0,.bool pb0]),(some 82,.bool false),(some 83,.bool false),(some 84,.bool false),(some 85,.pointer (some ⟨b10,0+0,none⟩)),(some 86,.string u),(some 87,.string u),(some 88,.bool false),(some 89,.bool false)]) (by kernel_rfl) (by kernel_rfl) (by kernel_rfl) (by kernel_rfl) (fun _=>by kernel_rfl) (G.last_of [] (fun F R hm=>by simp at hm) (fun ob ob' k hm=>by simp at hm) (fun b ob ob' hm=>by simp at hm)) (fun b ob ob' hm=>by simp at hm) ?_ ?_
    · intro ix hix
      match ix,hix with
      |0,_=>exact G.obv [(15,.bool true)] rfl rfl (fun A w ⟨e0,_⟩ hB=>Y.move e0)
      |1,_=>exact G.obv [(64,.bool true)] rfl rfl (fun A w ⟨e0,_⟩ hB=>ntT e0)
      |2,_=>exact G.obv [(65,.bool false)] rfl rfl (fun A w ⟨e0,_⟩ hB=>Y.move e0)
      |3,_=>exact G.obv [(14,.string ex)] rfl rfl (fun A w ⟨e0,_⟩ hB=>Y.move e0)
      |4,_=>exact G.obv [(11,.string ex)] rfl rfl (fun A w ⟨e0,_⟩ hB=>Y.move e0)
      |5,_=>exact G.obv [(67,.string ex),(68,.string ex)] rfl rfl (fun A w ⟨e0,e1,_⟩ hB=>neS e0 e1)
      |6,_=>exact G.obv [(66,.bool false),(69,.bool false)] rfl rfl (fun A w ⟨e0,e1,_⟩ hB=>pkFz e0 e1)
      |7,_=>exact G.obv [(70,.bool false)] rfl rfl (fun A w ⟨e0,_⟩ hB=>Y.move e0)
      |8,_=>exact G.obv [(11,.string ex)] rfl rfl (fun A w ⟨e0,_⟩ hB=>Y.move e0)
      |9,_=>exact G.obv [(72,.string ex)] rfl rfl (fun A w ⟨e0,_⟩ hB=>lenT e0 hez)
      |10,_=>exact G.obv [(73,.int .i64 32)] rfl rfl (fun A w ⟨e0,_⟩ hB=>ne32 e0)
      |11,_=>exact G.obv [(71,.bool false),(74,.bool false)] rfl rfl (fun A w ⟨e0,e1,_⟩ hB=>pkFz e0 e1)
      |12,_=>exact G.obv [(75,.bool false)] rfl rfl (fun A w ⟨e0,_⟩ hB=>Y.move e0)
      |13,_=>exact G.obv [(13,int u64 (k:Int))] rfl rfl (fun A w ⟨e0,_⟩ hB=>Y.move e0)
      |14,_=>exact G.obv [] rfl rfl (fun A w _ hB=>Y.cl0 cfBI (BS w))
      |15,_=>exact G.obv [(77,int u64 (k:Int)),(78,.agg #[int u64 ((1:Nat):Int),int u64 ((509478702933351334:Nat):Int),.bool false])] rfl rfl (fun A w ⟨e0,e1,_⟩ hB=>Y.cl2 cfTI e0 e1 (by have h:=TM w;exact h))
      |16,_=>exact G.obv [(10,.pointer (some ⟨b10,0,none⟩))] rfl rfl (fun A w ⟨e0,_⟩ hB=>fa_r1 e0)
      |17,_=>exact G.obv [(80,.pointer (some ⟨b10,0+1,none⟩))] rfl rfl (fun A w ⟨e0,_⟩ hB=>ldPt e0 (hB.cell r1 (by simp)) (hB.cell r2 (by simp)) (hB.cell r3 (by simp)))
      |18,_=>exact G.obv [(79,.agg #[int u64 px0,int u64 py0,.bool pb0]),(81,.agg #[int u64 px0,int u64 py0,.bool pb0])] rfl rfl (fun A w ⟨e0,e1,_⟩ hB=>neP e0 e1)
      |19,_=>exact G.obv [(76,.bool false),(82,.bool false)] rfl rfl (fun A w ⟨e0,e1,_⟩ hB=>pkFz e0 e1)
      |20,_=>exact G.obv [(83,.bool false)] rfl rfl (fun A w ⟨e0,_⟩ hB=>Y.move e0)
      |21,_=>exact G.obv [(10,.pointer (some ⟨b10,0,none⟩))] rfl rfl (fun A w ⟨e0,_⟩ hB=>fa_r0 e0)
      |22,_=>exact G.obv [(85,.pointer (some ⟨b10,0+0,none⟩))] rfl rfl (fun A w ⟨e0,_⟩ hB=>Y.ldS e0 (hB.cell r0 (by simp)))
      |23,_=>exact G.obv [(6,.string u)] rfl rfl (fun A w ⟨e0,_⟩ hB=>Y.move e0)
      |24,_=>exact G.obv [(86,.string u),(87,.string u)] rfl rfl (fun A w ⟨e0,e1,_⟩ hB=>neS e0 e1)
      |25,_=>exact G.obv [(84,.bool false),(88,.bool false)] rfl rfl (fun A w ⟨e0,e1,_⟩ hB=>pkFz e0 e1)
      |ix+26,h=>exact absurd h (by simp)
    intro f W10 hS y1 y2 y3 y4;have d1:Bl W9 W10:=(Below.refl _ W9).drew.trans hS.below;replace h5:=h5.keep d1;replace hB:=hB.tr d1;clear d1 hS y1 y2 y3 y4 r0 r1 r2 r3 h10 TM BS hez;simp only [puts,List.foldl,Act.put,List.setIfInBounds_toArray,List.set_cons_zero,List.set_cons_succ];go_wp2_with fail;refine(duns a0 l0 cap0 _ (hv.below hB) hl).mono ?_;rintro e w7 ⟨⟨s',bx',t2,u',hs',hu',rfl⟩,d1⟩;replace h5:=h5.keep d1;replace hB:=hB.tr d1;clear d1;obtain⟨v6',v5',ok',hun⟩:=un3 s' bx' t2 u';have US:=fun w=>unS s' bx' t2 u' w (by omega) (by omega)
    have UJ:=fun w' (hb:Bl w w')=>unI s' bx' t2 u' s0 s2 w' (hT.kept hb) (hso.keep hb)
    rw [hun] at US UJ;clear hun;have p0:w7.cell? ⟨b5,0,none⟩=some (int u64 (t.1:Int)):=h5.cell (k:=0) rfl;have p1:w7.cell? ⟨b5,1,none⟩=some (int u64 (t.2.1:Int)):=h5.cell (k:=1) rfl;have p2:w7.cell? ⟨b5,2,none⟩=some (.bool t.2.2):=h5.cell (k:=2) rfl;have f0:=h5.frz 0;have f1:=h5.frz 1;have f2:=h5.frz 2;have g5:=((h5.set 0 (int u64 (t2.1:Int))).set 1 (int u64 (t2.2.1:Int))).set 2 (.bool t2.2.2);have gB:=((hB.setCell (p:=⟨b5,0,none⟩) hl5 (int u64 (t2.1:Int))).setCell (p:=⟨b5,1,none⟩) hl5 (int u64 (t2.2.1:Int))).setCell (p:=⟨b5,2,none⟩) hl5 (.bool t2.2.2);simp only [List.setIfInBounds_toArray,List.set_cons_zero,List.set_cons_succ] at g5;go_wp2_with fail;refine(UJ _ gB).mono ?_;rintro e w8 ⟨rfl,d1⟩;replace g5:=g5.keep d1;replace gB:=gB.tr d1;clear d1 p0 p1 p2 f0 f1 f2 h5 hB;have p0:w8.cell? ⟨b5,0,none⟩=some (int u64 (t2.1:Int)):=g5.cell (k:=0) rfl;have p1:w8.cell? ⟨b5,1,none⟩=some (int u64 (t2.2.1:Int)):=g5.cell (k:=1) rfl;have p2:w8.cell? ⟨b5,2,none⟩=some (.bool t2.2.2):=g5.cell (k:=2) rfl;go_wp2_with fail;refine(US _).mono ?_;rintro e w9 ⟨rfl,d1⟩;replace gB:=gB.tr d1;clear d1 p0 p1 p2;go_wp2;go_ret;exact⟨rfl,gB⟩
end
section
open Go.ChangeShapes Go.WideShapes Go.ChangeAt
theorem cellsU8:prog.cellsOf 5=1:=by kernel_rfl
theorem cod_of {H:Type}{enc:TypeId×Value→H}{W:World}{a0:Option Addr}{len cap:Nat}{d0:DataW H}{p:List MemPlace}
    (h0:DataW.Trod enc prog W 0 (fun _=>true) true 35 (.slice a0 len cap) d0 p)(hl:len≤1048576):Cod W (.slice a0 len cap):=by
  obtain⟨fuel,hf⟩:=h0;rcases open_ints underlying35 underlying5 cellsU8 hf with ⟨hcs,hx⟩|⟨a,len',cap',zs,hcs,_,hl',hm,hz,hx,hcell,hwz⟩
  · simp [Value.cells] at hcs;obtain⟨rfl,rfl,rfl⟩:=hcs;exact .inl ⟨_,_,rfl⟩
  · simp [Value.cells] at hcs;obtain⟨rfl,rfl,rfl⟩:=hcs;simp only [if_true] at hz;by_cases h1:len=0
    · subst h1;exact .inl ⟨_,_,rfl⟩
    · have hsp:a.spot=none:=by
        have:=hcell 0 (by omega);simp only [Addr.add,if_true] at this;unfold World.cell? at this;split at this
        · split at this
          · cases this
          · rename_i h;simpa using h
        · cases this
      obtain⟨b,o,sp⟩:=a;obtain rfl:sp=none:=hsp;refine .inr ⟨b,o,len,cap,by omega,hl,rfl,fun i hi=> ?_⟩;have hc:=hcell i (by omega);have ha:(⟨b,o,none⟩:Addr).add i=⟨b,o+i,none⟩:=by unfold Addr.add;split<;>simp_all
      rw [ha] at hc;have hw:=hwz (zs.getD i 0) (by rw [List.getD_eq_getElem?_getD,List.getElem?_eq_getElem (by omega)];exact List.getElem_mem _);have h2:0≤zs.getD i 0∧zs.getD i 0≤255:=by simpa [Lit.wf,IntKind.min,IntKind.max,IntKind.signed,IntKind.bits] using hw
      exact⟨(zs.getD i 0).toNat,by omega,by rw [hc];congr 2;omega⟩
end
end Go.Proofs.YtjhbckngdclleaaGreatDoor
