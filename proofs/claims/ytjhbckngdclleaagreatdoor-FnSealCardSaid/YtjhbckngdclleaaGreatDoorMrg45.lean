import Derived.Test.YtjhbckngdclleaaGreatDoorMrg44
set_option linter.unusedVariables false
set_option maxRecDepth 100000
set_option maxHeartbeats 16000000
namespace Go.Proofs.YtjhbckngdclleaaGreatDoor
open Go.Proofs.Tryz Go.RowKit
open Go.Value (int)
open Go.IntKind (u64)
section
open M
theorem cfSl (args:Array Value)(w:World):(callFunc 47 args).run prog w= .ok (.enter 47 args) w:=by kernel_rfl
section
variable {A:Act}{w:World}{dst:Option Tmp}{ty:TypeId}{ps:String}{af:Array Edge}{gd:Option (Nat×Bool)}{x y z:Operand}{b i:Nat}
theorem fa_s0 (hx:A.eval x= .pointer (some ⟨b,i,none⟩)):Does prog (Opr dst (.fieldAddr 74 x 0) ty ps af gd) A w fun v' w'=>v'= .pointer (some ⟨b,i+0,none⟩)∧Bl w w':=dv (by generalize A.eval=ev at*;simp [execOp,hx,go_sem])
theorem fa_s1 (hx:A.eval x= .pointer (some ⟨b,i,none⟩)):Does prog (Opr dst (.fieldAddr 74 x 1) ty ps af gd) A w fun v' w'=>v'= .pointer (some ⟨b,i+5,none⟩)∧Bl w w':=dv (by generalize A.eval=ev at*;simp [execOp,hx,go_sem])
theorem fa_s2 (hx:A.eval x= .pointer (some ⟨b,i,none⟩)):Does prog (Opr dst (.fieldAddr 74 x 2) ty ps af gd) A w fun v' w'=>v'= .pointer (some ⟨b,i+6,none⟩)∧Bl w w':=dv (by generalize A.eval=ev at*;simp [execOp,hx,go_sem])
theorem ldW {v0:Value}(hx:A.eval x= .pointer (some ⟨b,i,none⟩))(h0:w.cell? ⟨b,i,none⟩=some v0):Does prog (Opr dst (.load 22 x) ty ps af gd) A w fun v' w'=>v'=v0∧Bl w w':=dv (by generalize A.eval=ev at*;simp [execOp,hx,h0,go_sem])
theorem ldR {v0 v1 v2 v3 v4:Value}(hx:A.eval x= .pointer (some ⟨b,0+0,none⟩))(h0:w.cell? ⟨b,0+0,none⟩=some v0)(h1:w.cell? ⟨b,0+1,none⟩=some v1)(h2:w.cell? ⟨b,0+2,none⟩=some v2)(h3:w.cell? ⟨b,0+3,none⟩=some v3)(h4:w.cell? ⟨b,0+4,none⟩=some v4):
    Does prog (Opr dst (.load 31 x) ty ps af gd) A w fun v' w'=>v'= .agg #[v0,v1,v2,v3,v4]∧Bl w w':=by
  simp only [Nat.zero_add] at hx h0 h1 h2 h3 h4;have h:(execOp A.eval (Opr dst (.load 31 x) ty ps af gd)).run prog w= .ok (.value (.agg #[v0,v1,v2,v3,v4])) w:=by generalize A.eval=ev at*;simp [execOp,hx,h0,h1,h2,h3,h4,go_sem]
  exact does_value h ⟨rfl,Below.refl _ _⟩
theorem eqN {er:Value}{ok:Bool}(hx:A.eval x=er)(hv:if ok then er= .nilIface else∃T x,er= .iface T x):Does prog (Opr dst (.binOp .eql 76 x (.const .nilIface) 76) ty ps af gd) A w fun v' w'=>v'= .bool ok∧Bl w w':=by
  have hc:A.eval (.const .nilIface)= .nilIface:=rfl
  have h:(execOp A.eval (Opr dst (.binOp .eql 76 x (.const .nilIface) 76) ty ps af gd)).run prog w= .ok (.value (.bool ok)) w:=by
    generalize A.eval=ev at*
    cases ok with
    | true=>
      rw [if_pos rfl] at hv;subst hv;simp [execOp,hx,hc,go_sem]
    | false=>
      rw [if_neg (by decide)] at hv;obtain⟨T,x',rfl⟩:=hv;simp [execOp,hx,hc,go_sem]
  exact does_value h ⟨rfl,Below.refl _ _⟩
theorem slH {bx:ByteArray}(hx:A.eval x= .string bx)(h:16≤bx.size):Does prog (Opr dst (.slice 9 x none (some (.const (.int .i64 16))) none) ty ps af gd) A w fun v' w'=>v'= .string (bx.extract 0 16)∧Bl w w':=by
  have hc:A.eval (.const (.int .i64 16))= .int .i64 16:=rfl;have h1:(16:Int)≤(bx.size:Int):=by omega
  have h:(execOp A.eval (Opr dst (.slice 9 x none (some (.const (.int .i64 16))) none) ty ps af gd)).run prog w= .ok (.value (.string (bx.extract 0 16))) w:=by generalize A.eval=ev at*;simp [execOp,hx,hc,Instr.slice,Instr.sliceBounds,Instr.sliceBound,h1,go_sem]
  exact does_value h ⟨rfl,Below.refl _ _⟩
theorem alS:Does prog (Opr dst (.alloc 74) ty ps af gd) A w fun v w'=>v= .pointer (some ⟨w.heap.size,0,none⟩)∧w'=w.alloc (.cells #[.string ⟨#[]⟩,int u64 0,int u64 0,.bool false,.string ⟨#[]⟩,int u64 0,.string ⟨#[]⟩] 74):=by
  have h:(execOp A.eval (Opr dst (.alloc 74) ty ps af gd)).run prog w= .ok (.value (.pointer (some ⟨w.heap.size,0,none⟩))) (w.alloc (.cells #[.string ⟨#[]⟩,int u64 0,int u64 0,.bool false,.string ⟨#[]⟩,int u64 0,.string ⟨#[]⟩] 74)):=by simp [execOp,go_sem]
  exact does_value h ⟨rfl,rfl⟩
end
theorem refI (s:ByteArray)(c:Int)(w:World):Calls prog 98 #[.string s,.int .i64 c] w fun e w'=>e= .returned (.iface 150 (.agg #[.string s,.iface 231 (.agg #[.int .i64 c])]))∧w=w':=by
  go_enter func98,ntmps98;go_wp2;go_ret;exact⟨rfl,rfl⟩
section
variable (s n:ByteArray)(t:Tri)(u:ByteArray)(v0 v4 v6:ByteArray)(v1 v2 v5:Int)(v3 ok:Bool)(er:Value)(w:World)(hv:if ok then er= .nilIface else∃T x,er= .iface T x)
include hv
theorem seaI_of (C:Cb w 47 #[.string s,.string n,.agg #[int u64 (t.1:Int),int u64 (t.2.1:Int),.bool t.2.2],.string u] (.tuple #[.agg #[.string v0,int u64 v1,int u64 v2,.bool v3,.string v4,int u64 v5,.string v6],er])):
    Cr 13 #[.string s,.string n,.agg #[int u64 (t.1:Int),int u64 (t.2.1:Int),.bool t.2.2],.string u] w (.tuple #[.agg #[.string v0,int u64 v1,int u64 v2,.bool v3,.string v4],.string v6,.bool ok]):=by
  have h6:=Bk.new w 27 #[int u64 (t.1:Int),int u64 (t.2.1:Int),.bool t.2.2];have hB:=balc w (Obj.cells #[int u64 (t.1:Int),int u64 (t.2.1:Int),.bool t.2.2] 27);obtain⟨W1,hW1⟩:∃W,w.alloc (Obj.cells #[int u64 (t.1:Int),int u64 (t.2.1:Int),.bool t.2.2] 27)=W:=⟨_,rfl⟩;rw [hW1] at h6 hB;have h8:=Bk.new W1 31 #[.string ⟨#[]⟩,int u64 0,int u64 0,.bool false,.string ⟨#[]⟩];have hlt:w.heap.size<W1.heap.size:=h6.lt;replace h6:=h6.alloc (Obj.cells #[.string ⟨#[]⟩,int u64 0,int u64 0,.bool false,.string ⟨#[]⟩] 31);replace hB:=hB.alloc hB.size (Obj.cells #[.string ⟨#[]⟩,int u64 0,int u64 0,.bool false,.string ⟨#[]⟩] 31);obtain⟨W2,hW2⟩:∃W,W1.alloc (Obj.cells #[.string ⟨#[]⟩,int u64 0,int u64 0,.bool false,.string ⟨#[]⟩] 31)=W:=⟨_,rfl⟩;rw [hW2] at h8 h6 hB;obtain⟨b8,hb8⟩:∃b,W1.heap.size=b:=⟨_,rfl⟩;obtain⟨b6,hb6⟩:∃b,w.heap.size=b:=⟨_,rfl⟩;have hl8:w.heap.size≤b8:=by omega
  rw [hb8] at h8;rw [hb6] at h6;clear hlt;have p0:W2.cell? ⟨b6,0,none⟩=some (int u64 (t.1:Int)):=h6.cell (k:=0) rfl;have p1:W2.cell? ⟨b6,1,none⟩=some (int u64 (t.2.1:Int)):=h6.cell (k:=1) rfl;have p2:W2.cell? ⟨b6,2,none⟩=some (.bool t.2.2):=h6.cell (k:=2) rfl;replace hv:Hid (if ok then er= .nilIface else∃T x,er= .iface T x):=hv;go_enter func13,ntmps13;go_wp2_with fail;refine(C _ hB).mono ?_;rintro e w1 ⟨rfl,d1⟩;replace h8:=h8.keep d1;replace hB:=hB.tr d1;clear d1 p0 p1 p2 hW1 hW2 C h6;have h11:=Bk.new w1 74 #[.string v0,int u64 v1,int u64 v2,.bool v3,.string v4,int u64 v5,.string v6];have hlt:b8<w1.heap.size:=h8.lt;replace h8:=h8.alloc (Obj.cells #[.string v0,int u64 v1,int u64 v2,.bool v3,.string v4,int u64 v5,.string v6] 74);replace hB:=hB.alloc hB.size (Obj.cells #[.string v0,int u64 v1,int u64 v2,.bool v3,.string v4,int u64 v5,.string v6] 74);obtain⟨W3,hW3⟩:∃W,w1.alloc (Obj.cells #[.string v0,int u64 v1,int u64 v2,.bool v3,.string v4,int u64 v5,.string v6] 74)=W:=⟨_,rfl⟩;rw [hW3] at h8 h11 hB;obtain⟨b11,hb11⟩:∃b,w1.heap.size=b:=⟨_,rfl⟩;rw [hb11] at h11;have n11:b11∉ [b8]:=fun h=>by have:=List.mem_singleton.1 h;omega
  go_wp2;clear hW3 hb11 hlt;replace hv:=hv.out;have c0:W3.drew.cell? ⟨b11,0+0,none⟩=some (.string v0):=h11.cell (k:=0) rfl;have c1:W3.drew.cell? ⟨b11,0+1,none⟩=some (int u64 v1):=h11.cell (k:=1) rfl;have c2:W3.drew.cell? ⟨b11,0+2,none⟩=some (int u64 v2):=h11.cell (k:=2) rfl;have c3:W3.drew.cell? ⟨b11,0+3,none⟩=some (.bool v3):=h11.cell (k:=3) rfl;have c4:W3.drew.cell? ⟨b11,0+4,none⟩=some (.string v4):=h11.cell (k:=4) rfl;have c5:W3.drew.cell? ⟨b11,0+5,none⟩=some (int u64 v5):=h11.cell (k:=5) rfl;have c6:W3.drew.cell? ⟨b11,0+6,none⟩=some (.string v6):=h11.cell (k:=6) rfl
  refine G.pool_list (W:=W3) [b8] [.val (.pointer (some ⟨b11,0+0,none⟩)),
      .val (.agg #[.string v0,int u64 v1,int u64 v2,.bool v3,.string v4]),
      .val (.pointer (some ⟨b11,0+6,none⟩)),
      .val (.string v6),
      .val (er),
      .val (.bool ok),
      .set (b8) (.cells #[.string ⟨#[]⟩,int u64 0,int u64 0,.bool false,.string ⟨#[]⟩] 31) (.cells #[.string v0,int u64 v1,int u64 v2,.bool v3,.string v4] 31),
      .val (.string v6),
      .val (.bool ok)] [[11],[21],[11],[23],[12],[25],[8,22],[24],[26]] (fun f=> [(some 21,.pointer (some ⟨b11,0+0,none⟩)),(some 22,.agg #[.string v0,int u64 v1,int u64 v2,.bool v3,.string v4]),(some 23,.pointer (some ⟨b11,0+6,none⟩)),(some 24,.string v6),(some 25,er),(some 26,.bool ok),(none,undef),(some 9,.string v6),(some 10,.bool ok)]) (by kernel_rfl) (by kernel_rfl) (by kernel_rfl) (by kernel_rfl) (fun _=>by kernel_rfl) (G.last_of [.cells #[.string ⟨#[]⟩,int u64 0,int u64 0,.bool false,.string ⟨#[]⟩] 31] (fun F R hm=>by simp at hm) (fun ob ob' k hm=>by simp at hm) (fun b ob ob' hm=>by simp at hm;simp [hm])) (fun b ob ob' hm=>by simp at hm;obtain⟨rfl,rfl,-⟩:=hm;exact h8) ?_ ?_
  · intro ix hix
    match ix,hix with
    |0,_=>exact G.obv [(11,.pointer (some ⟨b11,0,none⟩))] rfl rfl (fun A w ⟨e0,_⟩ hB=>fa_s0 e0)
    |1,_=>exact G.obv [(21,.pointer (some ⟨b11,0+0,none⟩))] rfl rfl (fun A w ⟨e0,_⟩ hB=>ldR e0 (hB.cell c0 n11) (hB.cell c1 n11) (hB.cell c2 n11) (hB.cell c3 n11) (hB.cell c4 n11))
    |2,_=>exact G.obv [(11,.pointer (some ⟨b11,0,none⟩))] rfl rfl (fun A w ⟨e0,_⟩ hB=>fa_s2 e0)
    |3,_=>exact G.obv [(23,.pointer (some ⟨b11,0+6,none⟩))] rfl rfl (fun A w ⟨e0,_⟩ hB=>Y.ldS e0 (hB.cell c6 n11))
    |4,_=>exact G.obv [(12,er)] rfl rfl (fun A w ⟨e0,_⟩ hB=>Y.move e0)
    |5,_=>exact G.obv [(25,er)] rfl rfl (fun A w ⟨e0,_⟩ hB=>eqN e0 hv)
    |6,_=>exact G.ob_set (fun f=> [(8,.pointer (some ⟨b8,0,none⟩)),(22,.agg #[.string v0,int u64 v1,int u64 v2,.bool v3,.string v4])]) rfl rfl rfl (by simp) h8.lt (fun j ob1 ob2 h=>by (rcases j with _|_|_|_|_|_|_|_|_|j)<;>simp [G.kindOf] at h⊢ <;>omega) (fun _=>by kernel_rfl) (fun f A w ⟨e0,e1,_⟩ hh hr=>Y.puA e0 e1 hr rfl (by kernel_rfl) (by simp [Value.oneCell']))
    |7,_=>exact G.obv [(24,.string v6)] rfl rfl (fun A w ⟨e0,_⟩ hB=>Y.assign e0)
    |8,_=>exact G.obv [(26,.bool ok)] rfl rfl (fun A w ⟨e0,_⟩ hB=>Y.assign e0)
    |ix+9,h=>exact absurd h (by simp)
  intro f W4 hS _ _ _ hset;have q8:Bk W4 31 b8 #[.string v0,int u64 v1,int u64 v2,.bool v3,.string v4]:=hset 6 _ _ _ rfl (by decide);have hB3:Bl w W4:=hS.under hB.drew (by intro b h;rw [List.mem_singleton.1 h];exact hl8) hB.size;clear hset hS c0 c1 c2 c3 c4 c5 c6;simp only [puts,List.foldl,Act.put,List.setIfInBounds_toArray,List.set_cons_zero,List.set_cons_succ];clear hv;go_wp2;exact bodyPost_ret (v:= .tuple #[.agg #[.string v0,int u64 v1,int u64 v2,.bool v3,.string v4],.string v6,.bool ok]) (bk_res3 (fn:=Tryz.f13) (p:=8) (u:=9) (v:=10) results13 _ rfl q8 underlying31 rfl (by kernel_rfl)) rfl ⟨rfl,hB3⟩
theorem unsI_of (C:Cb w 40 #[.string s,.string n,.agg #[int u64 (t.1:Int),int u64 (t.2.1:Int),.bool t.2.2],.string u] (.tuple #[.agg #[.string v0,int u64 v1,int u64 v2,.bool v3,.string v4,int u64 v5,.string v6],er])):
    Cr 11 #[.string s,.string n,.agg #[int u64 (t.1:Int),int u64 (t.2.1:Int),.bool t.2.2],.string u] w (.tuple #[int u64 v5,.string v6,.bool ok]):=by
  have h6:=Bk.new w 27 #[int u64 (t.1:Int),int u64 (t.2.1:Int),.bool t.2.2];have hB:=balc w (Obj.cells #[int u64 (t.1:Int),int u64 (t.2.1:Int),.bool t.2.2] 27);obtain⟨W2,hW1⟩:∃W,w.alloc (Obj.cells #[int u64 (t.1:Int),int u64 (t.2.1:Int),.bool t.2.2] 27)=W:=⟨_,rfl⟩;rw [hW1] at h6 hB;obtain⟨b6,hb6⟩:∃b,w.heap.size=b:=⟨_,rfl⟩;rw [hb6] at h6;have p0:W2.cell? ⟨b6,0,none⟩=some (int u64 (t.1:Int)):=h6.cell (k:=0) rfl;have p1:W2.cell? ⟨b6,1,none⟩=some (int u64 (t.2.1:Int)):=h6.cell (k:=1) rfl;have p2:W2.cell? ⟨b6,2,none⟩=some (.bool t.2.2):=h6.cell (k:=2) rfl;replace hv:Hid (if ok then er= .nilIface else∃T x,er= .iface T x):=hv;go_enter func11,ntmps11;go_wp2_with fail;refine(C _ hB).mono ?_;rintro e w1 ⟨rfl,d1⟩;replace hB:=hB.tr d1;clear d1 p0 p1 p2 hW1 C h6;have h11:=Bk.new w1 74 #[.string v0,int u64 v1,int u64 v2,.bool v3,.string v4,int u64 v5,.string v6];replace hB:=hB.alloc hB.size (Obj.cells #[.string v0,int u64 v1,int u64 v2,.bool v3,.string v4,int u64 v5,.string v6] 74);obtain⟨W3,hW3⟩:∃W,w1.alloc (Obj.cells #[.string v0,int u64 v1,int u64 v2,.bool v3,.string v4,int u64 v5,.string v6] 74)=W:=⟨_,rfl⟩;rw [hW3] at h11 hB;obtain⟨b11,hb11⟩:∃b,w1.heap.size=b:=⟨_,rfl⟩;rw [hb11] at h11;have n11:b11∉([]:List Nat):=fun h=>by cases h
  go_wp2;clear hW3 hb11;replace hv:=hv.out;have c0:W3.drew.cell? ⟨b11,0+0,none⟩=some (.string v0):=h11.cell (k:=0) rfl;have c1:W3.drew.cell? ⟨b11,0+1,none⟩=some (int u64 v1):=h11.cell (k:=1) rfl;have c2:W3.drew.cell? ⟨b11,0+2,none⟩=some (int u64 v2):=h11.cell (k:=2) rfl;have c3:W3.drew.cell? ⟨b11,0+3,none⟩=some (.bool v3):=h11.cell (k:=3) rfl;have c4:W3.drew.cell? ⟨b11,0+4,none⟩=some (.string v4):=h11.cell (k:=4) rfl;have c5:W3.drew.cell? ⟨b11,0+5,none⟩=some (int u64 v5):=h11.cell (k:=5) rfl;have c6:W3.drew.cell? ⟨b11,0+6,none⟩=some (.string v6):=h11.cell (k:=6) rfl
  refine G.pool_list (W:=W3) [] [.val (.pointer (some ⟨b11,0+5,none⟩)),
      .val (int u64 v5),
      .val (.pointer (some ⟨b11,0+6,none⟩)),
      .val (.string v6),
      .val (er),
      .val (.bool ok),
      .val (int u64 v5),
      .val (.string v6),
      .val (.bool ok)] [[11],[21],[11],[23],[12],[25],[22],[24],[26]] (fun f=> [(some 21,.pointer (some ⟨b11,0+5,none⟩)),(some 22,int u64 v5),(some 23,.pointer (some ⟨b11,0+6,none⟩)),(some 24,.string v6),(some 25,er),(some 26,.bool ok),(some 8,int u64 v5),(some 9,.string v6),(some 10,.bool ok)]) (by kernel_rfl) (by kernel_rfl) (by kernel_rfl) (by kernel_rfl) (fun _=>by kernel_rfl) (G.last_of [] (fun F R hm=>by simp at hm) (fun ob ob' k hm=>by simp at hm) (fun b ob ob' hm=>by simp at hm)) (fun b ob ob' hm=>by simp at hm) ?_ ?_
  · intro ix hix
    match ix,hix with
    |0,_=>exact G.obv [(11,.pointer (some ⟨b11,0,none⟩))] rfl rfl (fun A w ⟨e0,_⟩ hB=>fa_s1 e0)
    |1,_=>exact G.obv [(21,.pointer (some ⟨b11,0+5,none⟩))] rfl rfl (fun A w ⟨e0,_⟩ hB=>ldW e0 (hB.cell c5 n11))
    |2,_=>exact G.obv [(11,.pointer (some ⟨b11,0,none⟩))] rfl rfl (fun A w ⟨e0,_⟩ hB=>fa_s2 e0)
    |3,_=>exact G.obv [(23,.pointer (some ⟨b11,0+6,none⟩))] rfl rfl (fun A w ⟨e0,_⟩ hB=>Y.ldS e0 (hB.cell c6 n11))
    |4,_=>exact G.obv [(12,er)] rfl rfl (fun A w ⟨e0,_⟩ hB=>Y.move e0)
    |5,_=>exact G.obv [(25,er)] rfl rfl (fun A w ⟨e0,_⟩ hB=>eqN e0 hv)
    |6,_=>exact G.obv [(22,int u64 v5)] rfl rfl (fun A w ⟨e0,_⟩ hB=>Y.assign e0)
    |7,_=>exact G.obv [(24,.string v6)] rfl rfl (fun A w ⟨e0,_⟩ hB=>Y.assign e0)
    |8,_=>exact G.obv [(26,.bool ok)] rfl rfl (fun A w ⟨e0,_⟩ hB=>Y.assign e0)
    |ix+9,h=>exact absurd h (by simp)
  intro f W4 hS _ _ _ _;have d5:Bl W3 W4:=(Below.refl _ W3).drew.trans hS.below;replace hB:=hB.tr d5;clear hS c0 c1 c2 c3 c4 c5 c6 d5;simp only [puts,List.foldl,Act.put,List.setIfInBounds_toArray,List.set_cons_zero,List.set_cons_succ];clear hv;go_wp2;exact bodyPost_ret (v:= .tuple #[int u64 v5,.string v6,.bool ok]) (by simp [results,results11,go_sem]) rfl ⟨rfl,hB⟩
end
section
variable (s bx:ByteArray)(t:Tri)(u:ByteArray)(w:World)
theorem unlI_size (h:bx.size≠48):
    Cr 40 #[.string s,.string bx,.agg #[int u64 (t.1:Int),int u64 (t.2.1:Int),.bool t.2.2],.string u] w (.tuple #[.agg #[.string ⟨#[]⟩,int u64 0,int u64 0,.bool false,.string ⟨#[]⟩,int u64 0,.string ⟨#[]⟩],.iface 150 (.agg #[.string ⟨#[98,111,120]⟩,.iface 231 (.agg #[.int .i64 7])])]):=by
  have hB:=balc w (Obj.cells #[int u64 (t.1:Int),int u64 (t.2.1:Int),.bool t.2.2] 27);obtain⟨W1,hW1⟩:∃W,w.alloc (Obj.cells #[int u64 (t.1:Int),int u64 (t.2.1:Int),.bool t.2.2] 27)=W:=⟨_,rfl⟩;rw [hW1] at hB;have h8:=Bk.new W1 74 #[.string ⟨#[]⟩,int u64 0,int u64 0,.bool false,.string ⟨#[]⟩,int u64 0,.string ⟨#[]⟩];replace hB:=hB.alloc hB.size (Obj.cells #[.string ⟨#[]⟩,int u64 0,int u64 0,.bool false,.string ⟨#[]⟩,int u64 0,.string ⟨#[]⟩] 74);obtain⟨W2,hW2⟩:∃W,W1.alloc (Obj.cells #[.string ⟨#[]⟩,int u64 0,int u64 0,.bool false,.string ⟨#[]⟩,int u64 0,.string ⟨#[]⟩] 74)=W:=⟨_,rfl⟩;rw [hW2] at h8 hB;obtain⟨b8,hb8⟩:∃b,W1.heap.size=b:=⟨_,rfl⟩;rw [hb8] at h8;have cz0:W2.cell? ⟨b8,0,none⟩=some (.string ⟨#[]⟩):=h8.cell (k:=0) rfl;have fz0:=h8.frz 0;have ez0:W2.setCell ⟨b8,0,none⟩ (.string ⟨#[]⟩)=W2:=h8.sameS 0 rfl;have cz1:W2.cell? ⟨b8,1,none⟩=some (int u64 0):=h8.cell (k:=1) rfl;have fz1:=h8.frz 1;have ez1:W2.setCell ⟨b8,1,none⟩ (int u64 0)=W2:=h8.sameS 1 rfl;have cz2:W2.cell? ⟨b8,2,none⟩=some (int u64 0):=h8.cell (k:=2) rfl;have fz2:=h8.frz 2;have ez2:W2.setCell ⟨b8,2,none⟩ (int u64 0)=W2:=h8.sameS 2 rfl;have cz3:W2.cell? ⟨b8,3,none⟩=some (.bool false):=h8.cell (k:=3) rfl;have fz3:=h8.frz 3;have ez3:W2.setCell ⟨b8,3,none⟩ (.bool false)=W2:=h8.sameS 3 rfl;have cz4:W2.cell? ⟨b8,4,none⟩=some (.string ⟨#[]⟩):=h8.cell (k:=4) rfl;have fz4:=h8.frz 4;have ez4:W2.setCell ⟨b8,4,none⟩ (.string ⟨#[]⟩)=W2:=h8.sameS 4 rfl;have cz5:W2.cell? ⟨b8,5,none⟩=some (int u64 0):=h8.cell (k:=5) rfl;have fz5:=h8.frz 5;have ez5:W2.setCell ⟨b8,5,none⟩ (int u64 0)=W2:=h8.sameS 5 rfl;have cz6:W2.cell? ⟨b8,6,none⟩=some (.string ⟨#[]⟩):=h8.cell (k:=6) rfl;have fz6:=h8.frz 6;have ez6:W2.setCell ⟨b8,6,none⟩ (.string ⟨#[]⟩)=W2:=h8.sameS 6 rfl;have h': ¬ ((bx.size:Int)=48):=by omega
  clear h;go_enter func40,ntmps40;go_wp2_with fail;refine(refI _ _ _).mono ?_;rintro e w1 ⟨rfl,rfl⟩;go_wp2
  all_goals
    exact bodyPost_ret (v:= .tuple #[.agg #[.string ⟨#[]⟩,int u64 0,int u64 0,.bool false,.string ⟨#[]⟩,int u64 0,.string ⟨#[]⟩],.iface 150 (.agg #[.string ⟨#[98,111,120]⟩,.iface 231 (.agg #[.int .i64 7])])]) (bk_res2 (fn:=Tryz.f40) (p:=8) (u:=9) results40 _ rfl h8 underlying74 rfl (by kernel_rfl)) rfl ⟨rfl,hB⟩
variable (v0 v4 v6:ByteArray)(v1 v2 v5:Int)(v3:Bool)
theorem unlI_of (er:Value)(ok:Bool)(hv:if ok then er= .nilIface else∃T x,er= .iface T x)(h:bx.size=48)
    (C:Cb w 47 #[.string s,.string (bx.extract 0 16),.agg #[int u64 (t.1:Int),int u64 (t.2.1:Int),.bool t.2.2],.string u] (.tuple #[.agg #[.string v0,int u64 v1,int u64 v2,.bool v3,.string v4,int u64 v5,.string v6],er])):
    Cr 40 #[.string s,.string bx,.agg #[int u64 (t.1:Int),int u64 (t.2.1:Int),.bool t.2.2],.string u] w (if ok&&decide (v4=bx) then .tuple #[.agg #[.string v0,int u64 v1,int u64 v2,.bool v3,.string v4,int u64 v5,.string v6],.nilIface] else .tuple #[.agg #[.string ⟨#[]⟩,int u64 0,int u64 0,.bool false,.string ⟨#[]⟩,int u64 0,.string ⟨#[]⟩],.iface 150 (.agg #[.string ⟨#[98,111,120]⟩,.iface 231 (.agg #[.int .i64 7])])]):=by
  have h6:=Bk.new w 27 #[int u64 (t.1:Int),int u64 (t.2.1:Int),.bool t.2.2];have hB:=balc w (Obj.cells #[int u64 (t.1:Int),int u64 (t.2.1:Int),.bool t.2.2] 27);obtain⟨W1,hW1⟩:∃W,w.alloc (Obj.cells #[int u64 (t.1:Int),int u64 (t.2.1:Int),.bool t.2.2] 27)=W:=⟨_,rfl⟩;rw [hW1] at h6 hB;have h8:=Bk.new W1 74 #[.string ⟨#[]⟩,int u64 0,int u64 0,.bool false,.string ⟨#[]⟩,int u64 0,.string ⟨#[]⟩];have hlt:w.heap.size<W1.heap.size:=h6.lt;replace h6:=h6.alloc (Obj.cells #[.string ⟨#[]⟩,int u64 0,int u64 0,.bool false,.string ⟨#[]⟩,int u64 0,.string ⟨#[]⟩] 74);replace hB:=hB.alloc hB.size (Obj.cells #[.string ⟨#[]⟩,int u64 0,int u64 0,.bool false,.string ⟨#[]⟩,int u64 0,.string ⟨#[]⟩] 74);obtain⟨W2,hW2⟩:∃W,W1.alloc (Obj.cells #[.string ⟨#[]⟩,int u64 0,int u64 0,.bool false,.string ⟨#[]⟩,int u64 0,.string ⟨#[]⟩] 74)=W:=⟨_,rfl⟩;rw [hW2] at h8 h6 hB;obtain⟨b8,hb8⟩:∃b,W1.heap.size=b:=⟨_,rfl⟩;obtain⟨b6,hb6⟩:∃b,w.heap.size=b:=⟨_,rfl⟩;have hl8:w.heap.size≤b8:=by omega
  rw [hb8] at h8;rw [hb6] at h6;clear hlt;have h16:16≤bx.size:=by omega
  have h48:(bx.size:Int)=48:=by omega
  have CB:∀w',G.Sides [] W2.drew w'→Cr 47 #[.string s,.string (bx.extract 0 16),.agg #[int u64 (t.1:Int),int u64 (t.2.1:Int),.bool t.2.2],.string u] w' (.tuple #[.agg #[.string v0,int u64 v1,int u64 v2,.bool v3,.string v4,int u64 v5,.string v6],er]):=fun w' hS=>C w' (hB.trans (((Below.refl _ W2).drew.trans hS.below).mono hB.size))
  replace hv:Hid (if ok then er= .nilIface else∃T x,er= .iface T x):=hv;obtain⟨RS,hRS⟩:∃r:Value,Hid (r=if ok&&decide (v4=bx) then .tuple #[.agg #[.string v0,int u64 v1,int u64 v2,.bool v3,.string v4,int u64 v5,.string v6],.nilIface] else .tuple #[.agg #[.string ⟨#[]⟩,int u64 0,int u64 0,.bool false,.string ⟨#[]⟩,int u64 0,.string ⟨#[]⟩],.iface 150 (.agg #[.string ⟨#[98,111,120]⟩,.iface 231 (.agg #[.int .i64 7])])]):=⟨_,rfl⟩;rw [←hRS.out];clear C h;go_enter func40,ntmps40;go_wp2;clear hW1 hW2
  refine G.pool_list (W:=W2) [] [.val (.string s),
      .val (.string bx),
      .val (.string (bx.extract 0 16)),
      .val (.agg #[int u64 (t.1:Int),int u64 (t.2.1:Int),.bool t.2.2]),
      .val (.string u),
      .val (.tuple #[.agg #[.string v0,int u64 v1,int u64 v2,.bool v3,.string v4,int u64 v5,.string v6],er]),
      .val (.tuple #[.agg #[.string v0,int u64 v1,int u64 v2,.bool v3,.string v4,int u64 v5,.string v6],er]),
      .val (.agg #[.string v0,int u64 v1,int u64 v2,.bool v3,.string v4,int u64 v5,.string v6]),
      .val (er),
      .new (.cells #[.string ⟨#[]⟩,int u64 0,int u64 0,.bool false,.string ⟨#[]⟩,int u64 0,.string ⟨#[]⟩] 74) (.cells #[.string v0,int u64 v1,int u64 v2,.bool v3,.string v4,int u64 v5,.string v6] 74) 10,
      .put 9,
      .val (er)] [[0],[1],[19],[6],[3],[18,20,21,22],[23],[17],[17],[],[10,24],[25]] (fun f=> [(some 18,.string s),(some 19,.string bx),(some 20,.string (bx.extract 0 16)),(some 21,.agg #[int u64 (t.1:Int),int u64 (t.2.1:Int),.bool t.2.2]),(some 22,.string u),(some 23,.tuple #[.agg #[.string v0,int u64 v1,int u64 v2,.bool v3,.string v4,int u64 v5,.string v6],er]),(some 17,.tuple #[.agg #[.string v0,int u64 v1,int u64 v2,.bool v3,.string v4,int u64 v5,.string v6],er]),(some 24,.agg #[.string v0,int u64 v1,int u64 v2,.bool v3,.string v4,int u64 v5,.string v6]),(some 25,er),(some 10,.pointer (some ⟨f 9,0,none⟩)),(none,undef),(some 11,er)]) (by kernel_rfl) (by kernel_rfl) (by kernel_rfl) (by kernel_rfl) (fun _=>by kernel_rfl) (G.last_of [.cells #[.string ⟨#[]⟩,int u64 0,int u64 0,.bool false,.string ⟨#[]⟩,int u64 0,.string ⟨#[]⟩] 74] (fun F R hm=>by simp at hm) (fun ob ob' k hm=>by simp at hm;simp [hm]) (fun b ob ob' hm=>by simp at hm)) (fun b ob ob' hm=>by simp at hm) ?_ ?_
  · intro ix hix
    match ix,hix with
    |0,_=>exact G.obv [(0,.string s)] rfl rfl (fun A w ⟨e0,_⟩ hB=>Y.move e0)
    |1,_=>exact G.obv [(1,.string bx)] rfl rfl (fun A w ⟨e0,_⟩ hB=>Y.move e0)
    |2,_=>exact G.obv [(19,.string bx)] rfl rfl (fun A w ⟨e0,_⟩ hB=>slH e0 h16)
    |3,_=>exact G.obv [(6,.pointer (some ⟨b6,0,none⟩))] rfl rfl (fun A w ⟨e0,_⟩ hB=>Y.ldT underlying27 rfl (by kernel_rfl) e0 (Y.side hB h6))
    |4,_=>exact G.obv [(3,.string u)] rfl rfl (fun A w ⟨e0,_⟩ hB=>Y.move e0)
    |5,_=>exact G.obv [(18,.string s),(20,.string (bx.extract 0 16)),(21,.agg #[int u64 (t.1:Int),int u64 (t.2.1:Int),.bool t.2.2]),(22,.string u)] rfl rfl (fun A w ⟨e0,e1,e2,e3,_⟩ hB=>Y.cl4 cfSl e0 e1 e2 e3 (CB w hB))
    |6,_=>exact G.obv [(23,.tuple #[.agg #[.string v0,int u64 v1,int u64 v2,.bool v3,.string v4,int u64 v5,.string v6],er])] rfl rfl (fun A w ⟨e0,_⟩ hB=>Y.move e0)
    |7,_=>exact G.obv [(17,.tuple #[.agg #[.string v0,int u64 v1,int u64 v2,.bool v3,.string v4,int u64 v5,.string v6],er])] rfl rfl (fun A w ⟨e0,_⟩ hB=>Y.xt20 e0)
    |8,_=>exact G.obv [(17,.tuple #[.agg #[.string v0,int u64 v1,int u64 v2,.bool v3,.string v4,int u64 v5,.string v6],er])] rfl rfl (fun A w ⟨e0,_⟩ hB=>Y.xt21 e0)
    |9,_=>exact G.ob_new rfl rfl (fun A w=>alS)
    |10,_=>exact G.ob_put 10 (fun f=> [(10,.pointer (some ⟨f 9,0,none⟩)),(24,.agg #[.string v0,int u64 v1,int u64 v2,.bool v3,.string v4,int u64 v5,.string v6])]) rfl rfl rfl (by decide) (by kernel_rfl) rfl (fun _=>by kernel_rfl) (fun f A w ⟨e0,e1,_⟩ hr=>Y.puA e0 e1 hr rfl (by kernel_rfl) (by simp [Value.oneCell']))
    |11,_=>exact G.obv [(25,er)] rfl rfl (fun A w ⟨e0,_⟩ hB=>Y.assign e0)
    |ix+12,h=>exact absurd h (by simp)
  intro f w2 hS hnew y1 y2 y3;obtain⟨hb0,hbn⟩:=hnew 9 _ _ _ rfl (by decide);have h10:Bk w2 74 (f 9) #[.string v0,int u64 v1,int u64 v2,.bool v3,.string v4,int u64 v5,.string v6]:=hbn;have hlo:W2.heap.size≤f 9:=hb0;have d5:Bl W2 w2:=(Below.refl _ W2).drew.trans hS.below;have h8lt:=h8.lt;replace h8:=h8.keep d5;replace hB:=hB.tr d5;clear hS hnew y1 y2 y3 hbn hb0 d5 CB h6;simp only [puts,List.foldl,Act.put,List.setIfInBounds_toArray,List.set_cons_zero,List.set_cons_succ];obtain⟨b10,hb10⟩:∃b,b=f 9:=⟨_,rfl⟩;rw [←hb10] at h10 hlo;simp only [←hb10];have n10:b10≠b8:=by omega
  have n10':b8≠b10:=by omega
  clear hb10 hlo h8lt;replace hv:=hv.out;have c0:w2.cell? ⟨b10,0,none⟩=some (.string v0):=h10.cell (k:=0) rfl;have c1:w2.cell? ⟨b10,1,none⟩=some (int u64 v1):=h10.cell (k:=1) rfl;have c2:w2.cell? ⟨b10,2,none⟩=some (int u64 v2):=h10.cell (k:=2) rfl;have c3:w2.cell? ⟨b10,3,none⟩=some (.bool v3):=h10.cell (k:=3) rfl;have c4:w2.cell? ⟨b10,4,none⟩=some (.string v4):=h10.cell (k:=4) rfl;have c5:w2.cell? ⟨b10,5,none⟩=some (int u64 v5):=h10.cell (k:=5) rfl;have c6:w2.cell? ⟨b10,6,none⟩=some (.string v6):=h10.cell (k:=6) rfl
  cases ok with
  | false=>
    rw [if_neg (by decide)] at hv;obtain⟨T,x,rfl⟩:=hv;have cz0:w2.cell? ⟨b8,0,none⟩=some (.string ⟨#[]⟩):=h8.cell (k:=0) rfl;have fz0:=h8.frz 0;have ez0:w2.setCell ⟨b8,0,none⟩ (.string ⟨#[]⟩)=w2:=h8.sameS 0 rfl;have cz1:w2.cell? ⟨b8,1,none⟩=some (int u64 0):=h8.cell (k:=1) rfl;have fz1:=h8.frz 1;have ez1:w2.setCell ⟨b8,1,none⟩ (int u64 0)=w2:=h8.sameS 1 rfl;have cz2:w2.cell? ⟨b8,2,none⟩=some (int u64 0):=h8.cell (k:=2) rfl;have fz2:=h8.frz 2;have ez2:w2.setCell ⟨b8,2,none⟩ (int u64 0)=w2:=h8.sameS 2 rfl;have cz3:w2.cell? ⟨b8,3,none⟩=some (.bool false):=h8.cell (k:=3) rfl;have fz3:=h8.frz 3;have ez3:w2.setCell ⟨b8,3,none⟩ (.bool false)=w2:=h8.sameS 3 rfl;have cz4:w2.cell? ⟨b8,4,none⟩=some (.string ⟨#[]⟩):=h8.cell (k:=4) rfl;have fz4:=h8.frz 4;have ez4:w2.setCell ⟨b8,4,none⟩ (.string ⟨#[]⟩)=w2:=h8.sameS 4 rfl;have cz5:w2.cell? ⟨b8,5,none⟩=some (int u64 0):=h8.cell (k:=5) rfl;have fz5:=h8.frz 5;have ez5:w2.setCell ⟨b8,5,none⟩ (int u64 0)=w2:=h8.sameS 5 rfl;have cz6:w2.cell? ⟨b8,6,none⟩=some (.string ⟨#[]⟩):=h8.cell (k:=6) rfl;have fz6:=h8.frz 6;have ez6:w2.setCell ⟨b8,6,none⟩ (.string ⟨#[]⟩)=w2:=h8.sameS 6 rfl;have hr0:=hRS.out;rw [Bool.false_and,if_neg (by decide)] at hr0;replace hr0:Hid _:=hr0;go_wp2_with fail;refine(refI _ _ _).mono ?_;rintro e w1 ⟨rfl,rfl⟩;go_wp2
    all_goals
      exact bodyPost_ret (v:= .tuple #[.agg #[.string ⟨#[]⟩,int u64 0,int u64 0,.bool false,.string ⟨#[]⟩,int u64 0,.string ⟨#[]⟩],.iface 150 (.agg #[.string ⟨#[98,111,120]⟩,.iface 231 (.agg #[.int .i64 7])])]) (bk_res2 (fn:=Tryz.f40) (p:=8) (u:=9) results40 _ rfl h8 underlying74 rfl (by kernel_rfl)) rfl ⟨by rw [hr0.out],hB⟩
  | true=>
    rw [if_pos rfl] at hv;subst hv;by_cases hq:v4=bx
    · subst hq;have hr0:=hRS.out;rw [decide_eq_true rfl,Bool.and_true,if_pos rfl] at hr0;replace hr0:Hid _:=hr0;have cz0:w2.cell? ⟨b8,0,none⟩=some (.string ⟨#[]⟩):=h8.cell (k:=0) rfl;have fz0:=h8.frz 0;have cz1:w2.cell? ⟨b8,1,none⟩=some (int u64 0):=h8.cell (k:=1) rfl;have fz1:=h8.frz 1;have cz2:w2.cell? ⟨b8,2,none⟩=some (int u64 0):=h8.cell (k:=2) rfl;have fz2:=h8.frz 2;have cz3:w2.cell? ⟨b8,3,none⟩=some (.bool false):=h8.cell (k:=3) rfl;have fz3:=h8.frz 3;have cz4:w2.cell? ⟨b8,4,none⟩=some (.string ⟨#[]⟩):=h8.cell (k:=4) rfl;have fz4:=h8.frz 4;have cz5:w2.cell? ⟨b8,5,none⟩=some (int u64 0):=h8.cell (k:=5) rfl;have fz5:=h8.frz 5;have cz6:w2.cell? ⟨b8,6,none⟩=some (.string ⟨#[]⟩):=h8.cell (k:=6) rfl;have fz6:=h8.frz 6;go_wp2
      all_goals
        have hMn:=(((((((h8.set 0 (.string v0)).set 1 (int u64 v1)).set 2 (int u64 v2)).set 3 (.bool v3)).set 4 (.string v4)).set 5 (int u64 v5)).set 6 (.string v6));have hBn:=(((((((hB.setCell (p:=⟨b8,0,none⟩) hl8 (.string v0)).setCell (p:=⟨b8,1,none⟩) hl8 (int u64 v1)).setCell (p:=⟨b8,2,none⟩) hl8 (int u64 v2)).setCell (p:=⟨b8,3,none⟩) hl8 (.bool v3)).setCell (p:=⟨b8,4,none⟩) hl8 (.string v4)).setCell (p:=⟨b8,5,none⟩) hl8 (int u64 v5)).setCell (p:=⟨b8,6,none⟩) hl8 (.string v6));simp only [List.setIfInBounds_toArray,List.set_cons_zero,List.set_cons_succ] at hMn;exact bodyPost_ret (v:= .tuple #[.agg #[.string v0,int u64 v1,int u64 v2,.bool v3,.string v4,int u64 v5,.string v6],.nilIface]) (bk_res2 (fn:=Tryz.f40) (p:=8) (u:=9) results40 _ rfl hMn underlying74 rfl (by kernel_rfl)) rfl ⟨by rw [hr0.out],by first | exact hBn | (rw [←hb6];exact hBn)⟩
    · have hne:=str_neS hq;have hr0:=hRS.out;rw [decide_eq_false hq,Bool.and_false,if_neg (by decide)] at hr0;replace hr0:Hid _:=hr0;clear hq;have cz0:w2.cell? ⟨b8,0,none⟩=some (.string ⟨#[]⟩):=h8.cell (k:=0) rfl;have fz0:=h8.frz 0;have ez0:w2.setCell ⟨b8,0,none⟩ (.string ⟨#[]⟩)=w2:=h8.sameS 0 rfl;have cz1:w2.cell? ⟨b8,1,none⟩=some (int u64 0):=h8.cell (k:=1) rfl;have fz1:=h8.frz 1;have ez1:w2.setCell ⟨b8,1,none⟩ (int u64 0)=w2:=h8.sameS 1 rfl;have cz2:w2.cell? ⟨b8,2,none⟩=some (int u64 0):=h8.cell (k:=2) rfl;have fz2:=h8.frz 2;have ez2:w2.setCell ⟨b8,2,none⟩ (int u64 0)=w2:=h8.sameS 2 rfl;have cz3:w2.cell? ⟨b8,3,none⟩=some (.bool false):=h8.cell (k:=3) rfl;have fz3:=h8.frz 3;have ez3:w2.setCell ⟨b8,3,none⟩ (.bool false)=w2:=h8.sameS 3 rfl;have cz4:w2.cell? ⟨b8,4,none⟩=some (.string ⟨#[]⟩):=h8.cell (k:=4) rfl;have fz4:=h8.frz 4;have ez4:w2.setCell ⟨b8,4,none⟩ (.string ⟨#[]⟩)=w2:=h8.sameS 4 rfl;have cz5:w2.cell? ⟨b8,5,none⟩=some (int u64 0):=h8.cell (k:=5) rfl;have fz5:=h8.frz 5;have ez5:w2.setCell ⟨b8,5,none⟩ (int u64 0)=w2:=h8.sameS 5 rfl;have cz6:w2.cell? ⟨b8,6,none⟩=some (.string ⟨#[]⟩):=h8.cell (k:=6) rfl;have fz6:=h8.frz 6;have ez6:w2.setCell ⟨b8,6,none⟩ (.string ⟨#[]⟩)=w2:=h8.sameS 6 rfl;go_wp2_with fail;refine(refI _ _ _).mono ?_;rintro e w1 ⟨rfl,rfl⟩;go_wp2
      all_goals
        exact bodyPost_ret (v:= .tuple #[.agg #[.string ⟨#[]⟩,int u64 0,int u64 0,.bool false,.string ⟨#[]⟩,int u64 0,.string ⟨#[]⟩],.iface 150 (.agg #[.string ⟨#[98,111,120]⟩,.iface 231 (.agg #[.int .i64 7])])]) (bk_res2 (fn:=Tryz.f40) (p:=8) (u:=9) results40 _ rfl h8 underlying74 rfl (by kernel_rfl)) rfl ⟨by rw [hr0.out],hB⟩
end
end
def dblU (n:Nat)(s:ByteArray):Nat→ByteArray
  |0=>s
  |k+1=>if s.size*2≤n then dblU n (s++s) k else s
theorem dblU_end {n:Nat}{s:ByteArray}(h: ¬ s.size*2≤n):∀k,dblU n s k=s
  |0=>rfl
  |k+1=>if_neg h
theorem dblU_size (n m:Nat):∀(k:Nat) (s:ByteArray),1≤s.size→s.size≤n+m→1≤(dblU n s k).size∧(dblU n s k).size≤n+m
  |0,s,h,h'=>⟨h,h'⟩
  | k +1,s,h,h'=>by
    unfold dblU;by_cases hs:s.size*2≤n
    · rw [if_pos hs];have hz:(s++s).size=s.size+s.size:=by simp
      exact dblU_size n m k (s++s) (by omega) (by omega)
    · rw [if_neg hs];exact⟨h,h'⟩
theorem longU (b:ByteArray)(hb:1≤b.size)(hb2:b.size≤100):∀(n:Nat),n≤65536→∃s:ByteArray,s.size≤n+b.size∧(1≤n→1≤s.size)∧∀(w:World),
    Calls prog 52 #[.int .i64 n,.string b] w fun e w'=>e= .returned (.string s)∧w=w':=by
  intro n
  induction n using Nat.strongRecOn with
  |_ n ih=>
  intro hn;by_cases h0:n=0
  · subst h0;refine⟨ByteArray.empty,by simp,fun h=>by omega,fun w=> ?_⟩;go_enter func52,ntmps52;go_wp2
    go_loop [5] (fun v=>v= .string ByteArray.empty) (fun _=>0)
    case atStart=>rfl
    case round=>
      subst hrel;go_wp2;go_ret;exact⟨rfl,rfl⟩
  · have hpos:(0:Int)<(n:Int):=by omega
    obtain⟨D,hD⟩:∃D,dblU n b (n+b.size+2)=D:=⟨_,rfl⟩;obtain⟨hD1,hD2⟩:=dblU_size n b.size (n+b.size+2) b (by omega) (by omega);rw [hD] at hD1 hD2
    obtain⟨r,hr,I⟩:∃r:ByteArray,r.size≤n+b.size∧((D.size<n∧r.size≤n-D.size+b.size∧∀w,Calls prog 52 #[.int .i64 ((n:Int)-(D.size:Int)),.string b] w fun e w'=>e= .returned (.string r)∧w=w')∨(¬ D.size<n∧r=ByteArray.empty)):=by
      by_cases hl:D.size<n
      · obtain⟨r,hr,-,H⟩:=ih (n-D.size) (by omega) (by omega);have e1:((n-D.size:Nat):Int)=(n:Int)-(D.size:Int):=by omega
        rw [e1] at H;exact⟨r,by omega,.inl ⟨hl,hr,H⟩⟩
      · exact⟨ByteArray.empty,by simp,.inr ⟨hl,rfl⟩⟩
    refine⟨D++r,?_,fun _=>by rw [ByteArray.size_append];omega,fun w=> ?_⟩
    · rcases I with ⟨hl,h2,-⟩|⟨hl,rfl⟩
      · simp;omega
      · simp;omega
    clear ih;go_enter func52,ntmps52;go_wp2
    go_loop [5] (fun v=>∃(s:ByteArray) (k:Nat),v= .string s∧1≤s.size∧s.size≤n+b.size∧n+b.size+2-s.size≤k∧dblU n s k=D) (fun v=>n+b.size+2-strLen v)
    case atStart=>exact ⟨b,n+b.size+2,rfl,by omega,by omega,by omega,hD⟩
    case round=>
      obtain⟨s,k,rfl,h2,h3,hk,hs⟩:=hrel;by_cases hm:s.size*2≤n
      · have hmi:(s.size:Int)*2≤(n:Int):=by omega
        obtain⟨k',rfl⟩:∃k',k=k'+1:=⟨k-1,by omega⟩;have hsz:(s++s).size=s.size+s.size:=by simp
        unfold dblU at hs;rw [if_pos hm] at hs;clear I hD;go_wp2;go_round
        case rel=>exact ⟨s++s,k',rfl,by omega,by omega,by omega,hs⟩
        case measure=>simp [strLen];omega
      · have hmi: ¬ ((s.size:Int)*2≤(n:Int)):=by omega
        rw [dblU_end hm] at hs;subst hs;rcases I with ⟨hl,-,I⟩|⟨hl,rfl⟩
        · have hli:(s.size:Int)<(n:Int):=by omega
          clear hD;go_wp2_with fail;refine(I _).mono ?_;rintro e w' ⟨rfl,rfl⟩;clear I;go_wp2;go_ret;exact⟨rfl,rfl⟩
        · have hli: ¬ ((s.size:Int)<(n:Int)):=by omega
          clear hD;go_wp2;go_ret;exact⟨rfl,rfl⟩
theorem cfLo (args:Array Value)(w:World):(callFunc 52 args).run prog w= .ok (.enter 52 args) w:=by kernel_rfl
theorem slF {A:Act}{w:World}{dst:Option Tmp}{ty:TypeId}{ps:String}{af:Array Edge}{gd:Option (Nat×Bool)}{x:Operand}{s:ByteArray}(hx:A.eval x= .string s)(h:1≤s.size):Does prog (Opr dst (.slice 9 x (some (.const (.int .i64 1))) none none) ty ps af gd) A w fun v' w'=>v'= .string (s.extract 1 s.size)∧Bl w w':=by
  have hc:A.eval (.const (.int .i64 1))= .int .i64 1:=rfl;have h1:(1:Int)≤(s.size:Int):=by omega
  have h:(execOp A.eval (Opr dst (.slice 9 x (some (.const (.int .i64 1))) none none) ty ps af gd)).run prog w= .ok (.value (.string (s.extract 1 s.size))) w:=by generalize A.eval=ev at*;simp [execOp,hx,hc,Instr.slice,Instr.sliceBounds,Instr.sliceBound,h1,go_sem]
  exact does_value h ⟨rfl,Below.refl _ _⟩
theorem res_ttct {W:World}{c0:Array Value}{b0:Nat}{fn:Func}{p q r u:Tmp}(h:fn.results=#[.tmp p,.tmp q,.cell r 27,.tmp u])(tmps:Array Value)(hr:tmps.getD r undef= .pointer (some ⟨b0,0,none⟩))(h0:Bk W 27 b0 c0)(i0:c0.size=3):
    (results fn tmps).run prog W= .ok (.tuple #[tmps.getD p undef,tmps.getD q undef,.agg c0,tmps.getD u undef]) W:=by
  have hi:(prog.info? 27).map (·.size)=some 3:=by kernel_rfl
  have hr':tmps[r]?.getD undef= .pointer (some ⟨b0,0,none⟩):=by simpa using hr
  have l0:=run_loadVar_mid (P:=prog) W b0 0 27 c0.toList _ h0.range underlying27 rfl (by rw [hi,Array.length_toList,i0]);simp [results,h,hr',asAddr,l0]
theorem dnon (v:Value)(p:Nat)(w:World)(hv:Cod w v)(hp:p≤10000):
    Calls prog 72 #[v,.int .i64 p] w fun e w'=>(∃(s:ByteArray) (q:Nat),s.size≤16∧q≤p+17∧e= .returned (.tuple #[.string s,.int .i64 q]))∧Bl w w':=by
  have T1:=take_any v p 40 w hv (by omega) (by omega) (by omega);have e1:(p:Int)+1=((p+1:Nat):Int):=by omega
  go_enter func72,ntmps72;go_wp2_with fail;refine T1.mono ?_;rintro e w1 ⟨⟨h,hh,rfl⟩,rfl⟩;clear T1;simp only [e1];by_cases h39:h=39
  · subst h39;have T:=byt_any v (p+1) 15 w hv (by omega) (by omega);clear e1;go_wp2_with fail;refine T.mono ?_;rintro e w3 ⟨⟨sd,hsd,rfl⟩,d3⟩;go_wp2;exact bodyPost_ret (v:= .tuple #[.string sd,.int .i64 ((p+1+15:Nat):Int)]) (by simp [results,results72]) rfl ⟨⟨sd,p+1+15,by omega,by omega,rfl⟩,d3⟩
  · have g: ¬ (h:Int)=39:=by omega
    have T:=byt_any v (p+1) 16 w hv (by omega) (by omega);clear e1;go_wp2_with fail;refine T.mono ?_;rintro e w3 ⟨⟨sd,hsd,rfl⟩,d3⟩;go_wp2;exact bodyPost_ret (v:= .tuple #[.string sd,.int .i64 ((p+1+16:Nat):Int)]) (by simp [results,results72]) rfl ⟨⟨sd,p+1+16,by omega,by omega,rfl⟩,d3⟩
theorem dusr (v:Value)(p:Nat)(w:World)(hv:Cod w v)(hp:p≤10000):
    Calls prog 73 #[v,.int .i64 p] w fun e w'=>(∃(s:ByteArray),1≤s.size∧s.size≤40∧e= .returned (.tuple #[.string s,.int .i64 (p+1:Nat)]))∧Bl w w':=by
  have T1:=take_any v p 30 w hv (by omega) (by omega) (by omega);have hg:=Bk.new w 9 #[.string ⟨#[97,110,110]⟩,.string ⟨#[98,111,98]⟩,.string ⟨#[99,121,100]⟩,.string ⟨#[100,97,110]⟩,.string ⟨#[101,118,101]⟩,.string ⟨#[102,97,121]⟩,.string ⟨#[103,117,115]⟩,.string ⟨#[104,97,108]⟩,.string ⟨#[105,100,97]⟩,.string ⟨#[106,105,109]⟩];have hB:=balc w (Obj.cells #[.string ⟨#[97,110,110]⟩,.string ⟨#[98,111,98]⟩,.string ⟨#[99,121,100]⟩,.string ⟨#[100,97,110]⟩,.string ⟨#[101,118,101]⟩,.string ⟨#[102,97,121]⟩,.string ⟨#[103,117,115]⟩,.string ⟨#[104,97,108]⟩,.string ⟨#[105,100,97]⟩,.string ⟨#[106,105,109]⟩] 9);obtain⟨W1,eW1⟩:∃W,w.alloc (Obj.cells #[.string ⟨#[97,110,110]⟩,.string ⟨#[98,111,98]⟩,.string ⟨#[99,121,100]⟩,.string ⟨#[100,97,110]⟩,.string ⟨#[101,118,101]⟩,.string ⟨#[102,97,121]⟩,.string ⟨#[103,117,115]⟩,.string ⟨#[104,97,108]⟩,.string ⟨#[105,100,97]⟩,.string ⟨#[106,105,109]⟩] 9)=W:=⟨_,rfl⟩;rw [eW1] at hg hB;go_enter func73,ntmps73;go_wp2_with fail;refine T1.mono ?_;rintro e w1 ⟨⟨h,hh,rfl⟩,rfl⟩;clear T1;by_cases h29:h=29
  · subst h29;obtain⟨s,hs,hs1,L⟩:=longU ⟨#[117]⟩ (by decide) (by decide) 32 (by omega);replace hs1:=hs1 (by omega);go_wp2_with fail;refine(L _).mono ?_;rintro e w2 ⟨rfl,rfl⟩;go_wp2;exact bodyPost_ret (v:= .tuple #[.string s,.int .i64 ((p:Int)+1)]) (by simp [results,results73]) rfl ⟨⟨s,hs1,by have:(⟨#[117]⟩:ByteArray).size=1:=rfl;omega,rfl⟩,hB⟩
  · have g: ¬ (h:Int)=29:=by omega
    have er:((h:Nat):Int).tmod 10=((h%10:Nat):Int):=(Int.ofNat_tmod h 10).symm
    obtain⟨u,hu1,hu2,hc⟩:∃u:ByteArray,1≤u.size∧u.size≤40∧W1.cell? ⟨w.heap.size,h%10,none⟩=some (.string u):=by
      have h10:=Nat.mod_lt h (show 0<10 by decide);generalize h%10=r at*;rcases(show r=0∨r=1∨r=2∨r=3∨r=4∨r=5∨r=6∨r=7∨r=8∨r=9 by omega) with rfl|rfl|rfl|rfl|rfl|rfl|rfl|rfl|rfl|rfl
      · exact⟨_,by decide,by decide,hg.cell (k:=0) rfl⟩
      · exact⟨_,by decide,by decide,hg.cell (k:=1) rfl⟩
      · exact⟨_,by decide,by decide,hg.cell (k:=2) rfl⟩
      · exact⟨_,by decide,by decide,hg.cell (k:=3) rfl⟩
      · exact⟨_,by decide,by decide,hg.cell (k:=4) rfl⟩
      · exact⟨_,by decide,by decide,hg.cell (k:=5) rfl⟩
      · exact⟨_,by decide,by decide,hg.cell (k:=6) rfl⟩
      · exact⟨_,by decide,by decide,hg.cell (k:=7) rfl⟩
      · exact⟨_,by decide,by decide,hg.cell (k:=8) rfl⟩
      · exact⟨_,by decide,by decide,hg.cell (k:=9) rfl⟩
    have h10:=Nat.mod_lt h (show 0<10 by decide);generalize h%10=r at*;have h10':(r:Int)<10:=by omega
    go_wp2;exact bodyPost_ret (v:= .tuple #[.string u,.int .i64 ((p:Int)+1)]) (by simp [results,results73]) rfl ⟨⟨u,hu1,hu2,rfl⟩,hB⟩
theorem dsel (v:Value)(w:World)(hv:Cod w v):
    Calls prog 25 #[v] w fun e w'=>(∃(s n:ByteArray) (x y:Nat) (c:Bool) (u:ByteArray),s.size≤32∧n.size≤16∧u.size≤100∧x<18446744073709551616∧y<18446744073709551616∧e= .returned (.tuple #[.string s,.string n,.agg #[int u64 (x:Int),int u64 (y:Int),.bool c],.string u]))∧Bl w w':=by
  have h4:=Bk.new w 27 #[int u64 0,int u64 0,.bool false];have hB:=balc w (Obj.cells #[int u64 0,int u64 0,.bool false] 27);have sz:(w.alloc (Obj.cells #[int u64 0,int u64 0,.bool false] 27)).heap.size=w.heap.size+1:=by simp
  obtain⟨W1,eW1⟩:∃W,w.alloc (Obj.cells #[int u64 0,int u64 0,.bool false] 27)=W:=⟨_,rfl⟩;rw [eW1] at h4 hB sz;obtain⟨b4,qb4⟩:∃b,w.heap.size=b:=⟨_,rfl⟩;rw [qb4] at h4;have hl4:w.heap.size≤b4:=by omega
  have u4:b4<W1.heap.size:=by omega
  clear sz;have T1:=take_any v 0 20 W1 (hv.below hB) (by omega) (by omega) (by omega);go_enter func25,ntmps25;go_wp2_with fail;refine T1.mono ?_;rintro e w1 ⟨⟨h,hh,rfl⟩,rfl⟩;clear T1;have T2:=byt_any v 1 32 W1 (hv.below hB) (by omega) (by omega);go_wp2_with fail;refine T2.mono ?_;rintro e w2 ⟨⟨s,hs,rfl⟩,d1⟩;have m2:W1.heap.size≤w2.heap.size:=d1.size;replace h4:=h4.keep d1;replace hB:=hB.tr d1;clear d1 T2;have T3:=dnon v 33 w2 (hv.below hB) (by omega);go_wp2_with fail;refine T3.mono ?_;rintro e w3 ⟨⟨n,q,hn,hq,rfl⟩,d1⟩;have m3:w2.heap.size≤w3.heap.size:=d1.size;replace h4:=h4.keep d1;replace hB:=hB.tr d1;clear d1 T3;have T4:=dany_any v q w3 (hv.below hB) (by omega);go_wp2_with fail;refine T4.mono ?_;rintro e w4 ⟨⟨x,y,c,hx,hy,rfl⟩,d1⟩;have m4:w3.heap.size≤w4.heap.size:=d1.size;replace h4:=h4.keep d1;replace hB:=hB.tr d1;clear d1 T4;have h12:=Bk.new w4 27 #[int u64 (x:Int),int u64 (y:Int),.bool c];replace h4:=h4.alloc (Obj.cells #[int u64 (x:Int),int u64 (y:Int),.bool c] 27);replace hB:=hB.alloc hB.size (Obj.cells #[int u64 (x:Int),int u64 (y:Int),.bool c] 27);obtain⟨W5,eW5⟩:∃W,w4.alloc (Obj.cells #[int u64 (x:Int),int u64 (y:Int),.bool c] 27)=W:=⟨_,rfl⟩;rw [eW5] at h4 h12 hB;obtain⟨b12,qb12⟩:∃b,w4.heap.size=b:=⟨_,rfl⟩;rw [qb12] at h12;have n12:b12∉ [b4]:=fun h=>by have:=List.mem_singleton.1 h;omega
  have T5:=dusr v (q+12) W5 (hv.below hB) (by omega);go_wp2_with fail;refine T5.mono ?_;rintro e W9 ⟨⟨u,hu1,hu2,rfl⟩,d1⟩;replace h4:=h4.keep d1;replace h12:=h12.keep d1;replace hB:=hB.tr d1;clear d1 T5 m2 m3 m4 u4 eW1 eW5 qb4 qb12;have hs1:1≤s.size:=by omega
  by_cases h18:h=18
  · subst h18;go_wp2
    refine G.pool_list (W:=W9) [b4] [.val (.string s),
        .val (.string (s.extract 1 s.size)),
        .val (.string n),
        .val (.agg #[int u64 (x:Int),int u64 (y:Int),.bool c]),
        .val (.string u),
        .val (.string (s.extract 1 s.size)),
        .val (.string n),
        .set (b4) (.cells #[int u64 0,int u64 0,.bool false] 27) (.cells #[int u64 (x:Int),int u64 (y:Int),.bool c] 27),
        .val (.string u)] [[8],[47],[10],[12],[14],[48],[49],[4,50],[51]] (fun f=> [(some 47,.string s),(some 48,.string (s.extract 1 s.size)),(some 49,.string n),(some 50,.agg #[int u64 (x:Int),int u64 (y:Int),.bool c]),(some 51,.string u),(some 2,.string (s.extract 1 s.size)),(some 3,.string n),(none,undef),(some 5,.string u)]) (by kernel_rfl) (by kernel_rfl) (by kernel_rfl) (by kernel_rfl) (fun _=>by kernel_rfl) (G.last_of [.cells #[int u64 0,int u64 0,.bool false] 27] (fun F R hm=>by simp at hm) (fun ob ob' k hm=>by simp at hm) (fun b ob ob' hm=>by simp at hm;simp [hm])) (fun b ob ob' hm=>by simp at hm;obtain⟨rfl,rfl,-⟩:=hm;exact h4) ?_ ?_
    · intro ix hix
      match ix,hix with
      |0,_=>exact G.obv [(8,.string s)] rfl rfl (fun A w ⟨e0,_⟩ hB=>Y.move e0)
      |1,_=>exact G.obv [(47,.string s)] rfl rfl (fun A w ⟨e0,_⟩ hB=>slF e0 hs1)
      |2,_=>exact G.obv [(10,.string n)] rfl rfl (fun A w ⟨e0,_⟩ hB=>Y.move e0)
      |3,_=>exact G.obv [(12,.pointer (some ⟨b12,0,none⟩))] rfl rfl (fun A w ⟨e0,_⟩ hB=>Y.ldT underlying27 rfl (by kernel_rfl) e0 (Y.sideS hB h12 n12))
      |4,_=>exact G.obv [(14,.string u)] rfl rfl (fun A w ⟨e0,_⟩ hB=>Y.move e0)
      |5,_=>exact G.obv [(48,.string (s.extract 1 s.size))] rfl rfl (fun A w ⟨e0,_⟩ hB=>Y.assign e0)
      |6,_=>exact G.obv [(49,.string n)] rfl rfl (fun A w ⟨e0,_⟩ hB=>Y.assign e0)
      |7,_=>exact G.ob_set (fun f=> [(4,.pointer (some ⟨b4,0,none⟩)),(50,.agg #[int u64 (x:Int),int u64 (y:Int),.bool c])]) rfl rfl rfl (by simp) h4.lt (fun j ob1 ob2 h=>by (rcases j with _|_|_|_|_|_|_|_|_|j)<;>simp [G.kindOf] at h⊢ <;>omega) (fun _=>by kernel_rfl) (fun f A w ⟨e0,e1,_⟩ hh hr=>Y.puA e0 e1 hr rfl (by kernel_rfl) (by simp [Value.oneCell']))
      |8,_=>exact G.obv [(51,.string u)] rfl rfl (fun A w ⟨e0,_⟩ hB=>Y.assign e0)
      |ix+9,h=>exact absurd h (by simp)
    intro f W10 hS _ _ _ hset;have q4:Bk W10 27 b4 #[int u64 (x:Int),int u64 (y:Int),.bool c]:=hset 7 _ _ _ rfl (by decide);have hB3:Bl w W10:=hS.under hB.drew (by intro b h;rw [List.mem_singleton.1 h];exact hl4) hB.size;clear hset hS;simp only [puts,List.foldl,Act.put,List.setIfInBounds_toArray,List.set_cons_zero,List.set_cons_succ];go_wp2;exact bodyPost_ret (v:= .tuple #[.string (s.extract 1 s.size),.string n,.agg #[int u64 (x:Int),int u64 (y:Int),.bool c],.string u]) (res_ttct (fn:=Tryz.f25) (p:=2) (q:=3) (r:=4) (u:=5) results25 _ rfl q4 rfl) rfl ⟨⟨(s.extract 1 s.size),n,x,y,c,u,by first|omega|(rw [ByteArray.size_extract];omega),by first|omega|(rw [ByteArray.size_extract];omega),by first|omega|(rw [ByteArray.size_extract];omega),hx,hy,rfl⟩,hB3⟩
  · have g18: ¬ (h:Int)=18:=by omega
    by_cases h19:h=19
    · subst h19;obtain⟨lu,hlu,-,LL⟩:=longU u hu1 (by omega) 33 (by omega);go_wp2
      refine G.pool_list (W:=W9) [b4] [.val (.string s),
          .val (.string n),
          .val (.agg #[int u64 (x:Int),int u64 (y:Int),.bool c]),
          .val (.string u),
          .val (.string lu),
          .val (.string s),
          .val (.string n),
          .set (b4) (.cells #[int u64 0,int u64 0,.bool false] 27) (.cells #[int u64 (x:Int),int u64 (y:Int),.bool c] 27),
          .val (.string lu)] [[8],[10],[12],[14],[57],[54],[55],[4,56],[58]] (fun f=> [(some 54,.string s),(some 55,.string n),(some 56,.agg #[int u64 (x:Int),int u64 (y:Int),.bool c]),(some 57,.string u),(some 58,.string lu),(some 2,.string s),(some 3,.string n),(none,undef),(some 5,.string lu)]) (by kernel_rfl) (by kernel_rfl) (by kernel_rfl) (by kernel_rfl) (fun _=>by kernel_rfl) (G.last_of [.cells #[int u64 0,int u64 0,.bool false] 27] (fun F R hm=>by simp at hm) (fun ob ob' k hm=>by simp at hm) (fun b ob ob' hm=>by simp at hm;simp [hm])) (fun b ob ob' hm=>by simp at hm;obtain⟨rfl,rfl,-⟩:=hm;exact h4) ?_ ?_
      · intro ix hix
        match ix,hix with
        |0,_=>exact G.obv [(8,.string s)] rfl rfl (fun A w ⟨e0,_⟩ hB=>Y.move e0)
        |1,_=>exact G.obv [(10,.string n)] rfl rfl (fun A w ⟨e0,_⟩ hB=>Y.move e0)
        |2,_=>exact G.obv [(12,.pointer (some ⟨b12,0,none⟩))] rfl rfl (fun A w ⟨e0,_⟩ hB=>Y.ldT underlying27 rfl (by kernel_rfl) e0 (Y.sideS hB h12 n12))
        |3,_=>exact G.obv [(14,.string u)] rfl rfl (fun A w ⟨e0,_⟩ hB=>Y.move e0)
        |4,_=>exact G.obv [(57,.string u)] rfl rfl (fun A w ⟨e0,_⟩ hB=>Y.cl2 (u0:= .int .i64 33) cfLo rfl e0 ((LL w).mono fun e w1 h=>⟨h.1,h.2▸Below.refl _ _⟩))
        |5,_=>exact G.obv [(54,.string s)] rfl rfl (fun A w ⟨e0,_⟩ hB=>Y.assign e0)
        |6,_=>exact G.obv [(55,.string n)] rfl rfl (fun A w ⟨e0,_⟩ hB=>Y.assign e0)
        |7,_=>exact G.ob_set (fun f=> [(4,.pointer (some ⟨b4,0,none⟩)),(56,.agg #[int u64 (x:Int),int u64 (y:Int),.bool c])]) rfl rfl rfl (by simp) h4.lt (fun j ob1 ob2 h=>by (rcases j with _|_|_|_|_|_|_|_|_|j)<;>simp [G.kindOf] at h⊢ <;>omega) (fun _=>by kernel_rfl) (fun f A w ⟨e0,e1,_⟩ hh hr=>Y.puA e0 e1 hr rfl (by kernel_rfl) (by simp [Value.oneCell']))
        |8,_=>exact G.obv [(58,.string lu)] rfl rfl (fun A w ⟨e0,_⟩ hB=>Y.assign e0)
        |ix+9,h=>exact absurd h (by simp)
      intro f W10 hS _ _ _ hset;have q4:Bk W10 27 b4 #[int u64 (x:Int),int u64 (y:Int),.bool c]:=hset 7 _ _ _ rfl (by decide);have hB3:Bl w W10:=hS.under hB.drew (by intro b h;rw [List.mem_singleton.1 h];exact hl4) hB.size;clear hset hS;simp only [puts,List.foldl,Act.put,List.setIfInBounds_toArray,List.set_cons_zero,List.set_cons_succ];go_wp2;exact bodyPost_ret (v:= .tuple #[.string s,.string n,.agg #[int u64 (x:Int),int u64 (y:Int),.bool c],.string lu]) (res_ttct (fn:=Tryz.f25) (p:=2) (q:=3) (r:=4) (u:=5) results25 _ rfl q4 rfl) rfl ⟨⟨s,n,x,y,c,lu,by omega,by omega,by omega,hx,hy,rfl⟩,hB3⟩
    · have g19: ¬ (h:Int)=19:=by omega
      go_wp2
      refine G.pool_list (W:=W9) [b4] [.val (.string s),
          .val (.string n),
          .val (.agg #[int u64 (x:Int),int u64 (y:Int),.bool c]),
          .val (.string u),
          .val (.string s),
          .val (.string n),
          .set (b4) (.cells #[int u64 0,int u64 0,.bool false] 27) (.cells #[int u64 (x:Int),int u64 (y:Int),.bool c] 27),
          .val (.string u)] [[8],[10],[12],[14],[59],[60],[4,61],[62]] (fun f=> [(some 59,.string s),(some 60,.string n),(some 61,.agg #[int u64 (x:Int),int u64 (y:Int),.bool c]),(some 62,.string u),(some 2,.string s),(some 3,.string n),(none,undef),(some 5,.string u)]) (by kernel_rfl) (by kernel_rfl) (by kernel_rfl) (by kernel_rfl) (fun _=>by kernel_rfl) (G.last_of [.cells #[int u64 0,int u64 0,.bool false] 27] (fun F R hm=>by simp at hm) (fun ob ob' k hm=>by simp at hm) (fun b ob ob' hm=>by simp at hm;simp [hm])) (fun b ob ob' hm=>by simp at hm;obtain⟨rfl,rfl,-⟩:=hm;exact h4) ?_ ?_
      · intro ix hix
        match ix,hix with
        |0,_=>exact G.obv [(8,.string s)] rfl rfl (fun A w ⟨e0,_⟩ hB=>Y.move e0)
        |1,_=>exact G.obv [(10,.string n)] rfl rfl (fun A w ⟨e0,_⟩ hB=>Y.move e0)
        |2,_=>exact G.obv [(12,.pointer (some ⟨b12,0,none⟩))] rfl rfl (fun A w ⟨e0,_⟩ hB=>Y.ldT underlying27 rfl (by kernel_rfl) e0 (Y.sideS hB h12 n12))
        |3,_=>exact G.obv [(14,.string u)] rfl rfl (fun A w ⟨e0,_⟩ hB=>Y.move e0)
        |4,_=>exact G.obv [(59,.string s)] rfl rfl (fun A w ⟨e0,_⟩ hB=>Y.assign e0)
        |5,_=>exact G.obv [(60,.string n)] rfl rfl (fun A w ⟨e0,_⟩ hB=>Y.assign e0)
        |6,_=>exact G.ob_set (fun f=> [(4,.pointer (some ⟨b4,0,none⟩)),(61,.agg #[int u64 (x:Int),int u64 (y:Int),.bool c])]) rfl rfl rfl (by simp) h4.lt (fun j ob1 ob2 h=>by (rcases j with _|_|_|_|_|_|_|_|j)<;>simp [G.kindOf] at h⊢ <;>omega) (fun _=>by kernel_rfl) (fun f A w ⟨e0,e1,_⟩ hh hr=>Y.puA e0 e1 hr rfl (by kernel_rfl) (by simp [Value.oneCell']))
        |7,_=>exact G.obv [(62,.string u)] rfl rfl (fun A w ⟨e0,_⟩ hB=>Y.assign e0)
        |ix+8,h=>exact absurd h (by simp)
      intro f W10 hS _ _ _ hset;have q4:Bk W10 27 b4 #[int u64 (x:Int),int u64 (y:Int),.bool c]:=hset 6 _ _ _ rfl (by decide);have hB3:Bl w W10:=hS.under hB.drew (by intro b h;rw [List.mem_singleton.1 h];exact hl4) hB.size;clear hset hS;simp only [puts,List.foldl,Act.put,List.setIfInBounds_toArray,List.set_cons_zero,List.set_cons_succ];go_wp2;exact bodyPost_ret (v:= .tuple #[.string s,.string n,.agg #[int u64 (x:Int),int u64 (y:Int),.bool c],.string u]) (res_ttct (fn:=Tryz.f25) (p:=2) (q:=3) (r:=4) (u:=5) results25 _ rfl q4 rfl) rfl ⟨⟨s,n,x,y,c,u,by omega,by omega,by omega,hx,hy,rfl⟩,hB3⟩
theorem nmS (s:ByteArray)(w:World):Calls prog 42 #[.string s] w fun e w'=>e= .returned (.bool (nameB s))∧w=w':=by
  by_cases h1:(1:Int)≤(s.size:Int)
  · by_cases h2:(s.size:Int)≤32
    · have e:nameB s=true:=decide_eq_true (by omega);rw [e];go_enter func42,ntmps42;go_wp2;go_ret;exact⟨rfl,rfl⟩
    · have e:nameB s=false:=decide_eq_false (by omega);rw [e];go_enter func42,ntmps42;go_wp2;go_ret;exact⟨rfl,rfl⟩
  · have e:nameB s=false:=decide_eq_false (by omega);rw [e];go_enter func42,ntmps42;go_wp2;go_ret;exact⟨rfl,rfl⟩
section
open M
theorem cf7P (args:Array Value)(w:World):(callFunc 44 args).run prog w= .ok (.enter 44 args) w:=by kernel_rfl
theorem cf7Z (args:Array Value)(w:World):(callFunc 46 args).run prog w= .ok (.enter 46 args) w:=by kernel_rfl
theorem cf7H (args:Array Value)(w:World):(callFunc 43 args).run prog w= .ok (.enter 43 args) w:=by kernel_rfl
theorem partS (s n word:ByteArray)(w:World)(hs:s.size≤1048576)(hn:n.size≤1000000)(hw:word.size≤1000):
    Cr 44 #[.string s,.string n,.string word] w (.string (prB s n word)):=by
  have hz:=slX_size s;have XS:∀w,Cr 67 #[.string ⟨#[]⟩,.string s] w (.string (slX s)):=fun w=>extractS_any _ _ w (by decide) (by omega)
  have EX:∀w,Cr 101 #[.string (slX s),.string (n++word),.int .i64 ((32:Nat):Int)] w (.tuple #[.string (prB s n word),.bool true]):=fun w=>expS_yes (slX s) (n++word) 32 w (by omega) (by rw [ByteArray.size_append];omega) (by decide)
  generalize prB s n word=r at*;generalize slX s=X at*;have hc: ¬ (9223372036854775807<n.size+word.size):=by omega
  go_enter func44,ntmps44;go_wp2_with fail;refine(XS _).mono ?_;rintro e w1 ⟨rfl,b1⟩;go_wp2_with fail;refine(EX _).mono ?_;rintro e w2 ⟨rfl,b2⟩;replace b1:=b1.tr b2;go_wp2;go_ret;exact⟨rfl,b1⟩
theorem privS (s n:ByteArray)(w:World)(hs:s.size≤1048576)(hn:n.size≤1000000):
    Cr 39 #[.string s,.string n] w (.tuple #[int u64 ((prK s n).1:Nat),.bool (decide ((prK s n).2=0))]):=by
  have PA:∀w,Cr 44 #[.string s,.string n,.string ⟨#[80,114,105,118,97,116,101]⟩] w (.string (prB s n wPrv)):=fun w=>partS s n wPrv w hs hn (by decide)
  have DK:∀w,Cr 16 #[.int .i64 0,.string (prB s n wPrv),.string ⟨#[67,108,105,101,110,116]⟩] w (.tuple #[int u64 ((prK s n).1:Nat),.int .i64 (prK s n).2]):=fun w=>dkS_any 0 (prB s n wPrv) wCli w
  generalize prK s n=kc at*;obtain⟨k,c⟩:=kc;simp only at DK⊢;generalize prB s n wPrv=pr at*;go_enter func39,ntmps39;go_wp2_with fail;refine(PA _).mono ?_;rintro e w1 ⟨rfl,b1⟩;go_wp2_with fail;refine(DK _).mono ?_;rintro e w2 ⟨rfl,b2⟩;replace b1:=b1.tr b2;go_wp2;exact bodyPost_ret (v:= .tuple #[int u64 (k:Int),.bool (decide (c=0))]) (by simp [results,results39,go_sem];rfl) rfl ⟨rfl,b1⟩
section
variable (s n:ByteArray)(t:Tri)(u:ByteArray)(w:World)
theorem selS_bad (h:slC s n t u=false)(hl1:s.size≤1048576)(hl2:n.size≤1048576)(hl3:u.size≤1048576):
    Cr 12 #[.string s,.string n,.agg #[int u64 (t.1:Int),int u64 (t.2.1:Int),.bool t.2.2],.string u] w (.tuple #[.agg rcZ.toArray,.string ⟨#[]⟩,.bool false]):=by
  unfold rcZ;have h6:=Bk.new w 27 #[int u64 (t.1:Int),int u64 (t.2.1:Int),.bool t.2.2];have hB:=balc w (Obj.cells #[int u64 (t.1:Int),int u64 (t.2.1:Int),.bool t.2.2] 27);obtain⟨W1,hW1⟩:∃W,w.alloc (Obj.cells #[int u64 (t.1:Int),int u64 (t.2.1:Int),.bool t.2.2] 27)=W:=⟨_,rfl⟩;rw [hW1] at h6 hB;have h8:=Bk.new W1 31 #[.string ⟨#[]⟩,int u64 0,int u64 0,.bool false,.string ⟨#[]⟩];replace h6:=h6.alloc (Obj.cells #[.string ⟨#[]⟩,int u64 0,int u64 0,.bool false,.string ⟨#[]⟩] 31);replace hB:=hB.alloc hB.size (Obj.cells #[.string ⟨#[]⟩,int u64 0,int u64 0,.bool false,.string ⟨#[]⟩] 31);obtain⟨W2,hW2⟩:∃W,W1.alloc (Obj.cells #[.string ⟨#[]⟩,int u64 0,int u64 0,.bool false,.string ⟨#[]⟩] 31)=W:=⟨_,rfl⟩;rw [hW2] at h6 h8 hB;obtain⟨b8,hb8⟩:∃b,W1.heap.size=b:=⟨_,rfl⟩;rw [hb8] at h8;unfold slC at h;have p0:W2.cell? ⟨w.heap.size,0,none⟩=some (int u64 (t.1:Int)):=h6.cell (k:=0) rfl;have p1:W2.cell? ⟨w.heap.size,1,none⟩=some (int u64 (t.2.1:Int)):=h6.cell (k:=1) rfl;have p2:W2.cell? ⟨w.heap.size,2,none⟩=some (.bool t.2.2):=h6.cell (k:=2) rfl;by_cases q1:s.size=32
  · by_cases q2:n.size=16
    · have EL:=fun w=>elS_any t w
      cases q3:elT t with
      | false=>
        rw [q3] at EL;clear h;go_enter func12,ntmps12;go_wp2_with fail;refine(EL _).mono ?_;rintro e w1 ⟨rfl,d1⟩;replace h8:=h8.keep d1;replace hB:=hB.tr d1;clear d1 p0 p1 p2 hW1 hW2 h6 EL;have cz0:w1.cell? ⟨b8,0,none⟩=some (.string ⟨#[]⟩):=h8.cell (k:=0) rfl;have fz0:=h8.frz 0;have ez0:w1.setCell ⟨b8,0,none⟩ (.string ⟨#[]⟩)=w1:=h8.sameS 0 rfl;have cz1:w1.cell? ⟨b8,1,none⟩=some (int u64 0):=h8.cell (k:=1) rfl;have fz1:=h8.frz 1;have ez1:w1.setCell ⟨b8,1,none⟩ (int u64 0)=w1:=h8.sameS 1 rfl;have cz2:w1.cell? ⟨b8,2,none⟩=some (int u64 0):=h8.cell (k:=2) rfl;have fz2:=h8.frz 2;have ez2:w1.setCell ⟨b8,2,none⟩ (int u64 0)=w1:=h8.sameS 2 rfl;have cz3:w1.cell? ⟨b8,3,none⟩=some (.bool false):=h8.cell (k:=3) rfl;have fz3:=h8.frz 3;have ez3:w1.setCell ⟨b8,3,none⟩ (.bool false)=w1:=h8.sameS 3 rfl;have cz4:w1.cell? ⟨b8,4,none⟩=some (.string ⟨#[]⟩):=h8.cell (k:=4) rfl;have fz4:=h8.frz 4;have ez4:w1.setCell ⟨b8,4,none⟩ (.string ⟨#[]⟩)=w1:=h8.sameS 4 rfl;go_wp2
        all_goals
          exact bodyPost_ret (v:= .tuple #[.agg #[.string ⟨#[]⟩,int u64 0,int u64 0,.bool false,.string ⟨#[]⟩],.string ⟨#[]⟩,.bool false]) (bk_res3 (fn:=Tryz.f12) (p:=8) (u:=9) (v:=10) results12 _ rfl h8 underlying31 rfl (by kernel_rfl)) rfl ⟨rfl,hB⟩
      | true=>
        rw [q3,decide_eq_true q1,decide_eq_true q2] at h;have NM:=fun w=>nmS u w
        rw [show nameB u=false by simpa using h] at NM;rw [q3] at EL;clear h;go_enter func12,ntmps12;go_wp2_with fail;refine(EL _).mono ?_;rintro e w1 ⟨rfl,d1⟩;replace h8:=h8.keep d1;replace hB:=hB.tr d1;clear d1 p0 p1 p2 hW1 hW2 h6 EL;have cz0:w1.cell? ⟨b8,0,none⟩=some (.string ⟨#[]⟩):=h8.cell (k:=0) rfl;have fz0:=h8.frz 0;have ez0:w1.setCell ⟨b8,0,none⟩ (.string ⟨#[]⟩)=w1:=h8.sameS 0 rfl;have cz1:w1.cell? ⟨b8,1,none⟩=some (int u64 0):=h8.cell (k:=1) rfl;have fz1:=h8.frz 1;have ez1:w1.setCell ⟨b8,1,none⟩ (int u64 0)=w1:=h8.sameS 1 rfl;have cz2:w1.cell? ⟨b8,2,none⟩=some (int u64 0):=h8.cell (k:=2) rfl;have fz2:=h8.frz 2;have ez2:w1.setCell ⟨b8,2,none⟩ (int u64 0)=w1:=h8.sameS 2 rfl;have cz3:w1.cell? ⟨b8,3,none⟩=some (.bool false):=h8.cell (k:=3) rfl;have fz3:=h8.frz 3;have ez3:w1.setCell ⟨b8,3,none⟩ (.bool false)=w1:=h8.sameS 3 rfl;have cz4:w1.cell? ⟨b8,4,none⟩=some (.string ⟨#[]⟩):=h8.cell (k:=4) rfl;have fz4:=h8.frz 4;have ez4:w1.setCell ⟨b8,4,none⟩ (.string ⟨#[]⟩)=w1:=h8.sameS 4 rfl;go_wp2_with fail;refine(NM _).mono ?_;rintro e w2 ⟨rfl,rfl⟩;go_wp2
        all_goals
          exact bodyPost_ret (v:= .tuple #[.agg #[.string ⟨#[]⟩,int u64 0,int u64 0,.bool false,.string ⟨#[]⟩],.string ⟨#[]⟩,.bool false]) (bk_res3 (fn:=Tryz.f12) (p:=8) (u:=9) (v:=10) results12 _ rfl h8 underlying31 rfl (by kernel_rfl)) rfl ⟨rfl,hB⟩
    · have q1':(s.size:Int)=32:=by omega
      have q2': ¬ ((n.size:Int)=16):=by omega
      have cz0:W2.cell? ⟨b8,0,none⟩=some (.string ⟨#[]⟩):=h8.cell (k:=0) rfl;have fz0:=h8.frz 0;have ez0:W2.setCell ⟨b8,0,none⟩ (.string ⟨#[]⟩)=W2:=h8.sameS 0 rfl;have cz1:W2.cell? ⟨b8,1,none⟩=some (int u64 0):=h8.cell (k:=1) rfl;have fz1:=h8.frz 1;have ez1:W2.setCell ⟨b8,1,none⟩ (int u64 0)=W2:=h8.sameS 1 rfl;have cz2:W2.cell? ⟨b8,2,none⟩=some (int u64 0):=h8.cell (k:=2) rfl;have fz2:=h8.frz 2;have ez2:W2.setCell ⟨b8,2,none⟩ (int u64 0)=W2:=h8.sameS 2 rfl;have cz3:W2.cell? ⟨b8,3,none⟩=some (.bool false):=h8.cell (k:=3) rfl;have fz3:=h8.frz 3;have ez3:W2.setCell ⟨b8,3,none⟩ (.bool false)=W2:=h8.sameS 3 rfl;have cz4:W2.cell? ⟨b8,4,none⟩=some (.string ⟨#[]⟩):=h8.cell (k:=4) rfl;have fz4:=h8.frz 4;have ez4:W2.setCell ⟨b8,4,none⟩ (.string ⟨#[]⟩)=W2:=h8.sameS 4 rfl;clear h;go_enter func12,ntmps12;go_wp2
      all_goals
        exact bodyPost_ret (v:= .tuple #[.agg #[.string ⟨#[]⟩,int u64 0,int u64 0,.bool false,.string ⟨#[]⟩],.string ⟨#[]⟩,.bool false]) (bk_res3 (fn:=Tryz.f12) (p:=8) (u:=9) (v:=10) results12 _ rfl h8 underlying31 rfl (by kernel_rfl)) rfl ⟨rfl,hB⟩
  · have q1': ¬ ((s.size:Int)=32):=by omega
    have cz0:W2.cell? ⟨b8,0,none⟩=some (.string ⟨#[]⟩):=h8.cell (k:=0) rfl;have fz0:=h8.frz 0;have ez0:W2.setCell ⟨b8,0,none⟩ (.string ⟨#[]⟩)=W2:=h8.sameS 0 rfl;have cz1:W2.cell? ⟨b8,1,none⟩=some (int u64 0):=h8.cell (k:=1) rfl;have fz1:=h8.frz 1;have ez1:W2.setCell ⟨b8,1,none⟩ (int u64 0)=W2:=h8.sameS 1 rfl;have cz2:W2.cell? ⟨b8,2,none⟩=some (int u64 0):=h8.cell (k:=2) rfl;have fz2:=h8.frz 2;have ez2:W2.setCell ⟨b8,2,none⟩ (int u64 0)=W2:=h8.sameS 2 rfl;have cz3:W2.cell? ⟨b8,3,none⟩=some (.bool false):=h8.cell (k:=3) rfl;have fz3:=h8.frz 3;have ez3:W2.setCell ⟨b8,3,none⟩ (.bool false)=W2:=h8.sameS 3 rfl;have cz4:W2.cell? ⟨b8,4,none⟩=some (.string ⟨#[]⟩):=h8.cell (k:=4) rfl;have fz4:=h8.frz 4;have ez4:W2.setCell ⟨b8,4,none⟩ (.string ⟨#[]⟩)=W2:=h8.sameS 4 rfl;clear h;go_enter func12,ntmps12;go_wp2
    all_goals
      exact bodyPost_ret (v:= .tuple #[.agg #[.string ⟨#[]⟩,int u64 0,int u64 0,.bool false,.string ⟨#[]⟩],.string ⟨#[]⟩,.bool false]) (bk_res3 (fn:=Tryz.f12) (p:=8) (u:=9) (v:=10) results12 _ rfl h8 underlying31 rfl (by kernel_rfl)) rfl ⟨rfl,hB⟩
theorem selS_key (h:slC s n t u=true)(hk:decide ((prK s n).2=0)=false):
    Cr 12 #[.string s,.string n,.agg #[int u64 (t.1:Int),int u64 (t.2.1:Int),.bool t.2.2],.string u] w (.tuple #[.agg rcZ.toArray,.string ⟨#[]⟩,.bool false]):=by
  unfold rcZ;have h6:=Bk.new w 27 #[int u64 (t.1:Int),int u64 (t.2.1:Int),.bool t.2.2];have hB:=balc w (Obj.cells #[int u64 (t.1:Int),int u64 (t.2.1:Int),.bool t.2.2] 27);obtain⟨W1,hW1⟩:∃W,w.alloc (Obj.cells #[int u64 (t.1:Int),int u64 (t.2.1:Int),.bool t.2.2] 27)=W:=⟨_,rfl⟩;rw [hW1] at h6 hB;have h8:=Bk.new W1 31 #[.string ⟨#[]⟩,int u64 0,int u64 0,.bool false,.string ⟨#[]⟩];have hlt:w.heap.size<W1.heap.size:=h6.lt;replace h6:=h6.alloc (Obj.cells #[.string ⟨#[]⟩,int u64 0,int u64 0,.bool false,.string ⟨#[]⟩] 31);replace hB:=hB.alloc hB.size (Obj.cells #[.string ⟨#[]⟩,int u64 0,int u64 0,.bool false,.string ⟨#[]⟩] 31);obtain⟨W2,hW2⟩:∃W,W1.alloc (Obj.cells #[.string ⟨#[]⟩,int u64 0,int u64 0,.bool false,.string ⟨#[]⟩] 31)=W:=⟨_,rfl⟩;rw [hW2] at h6 h8 hB;obtain⟨b8,hb8⟩:∃b,W1.heap.size=b:=⟨_,rfl⟩;obtain⟨b6,hb6⟩:∃b,w.heap.size=b:=⟨_,rfl⟩;have hl8:w.heap.size≤b8:=by omega
  rw [hb8] at h8;rw [hb6] at h6;clear hlt;unfold slC at h;simp only [Bool.and_eq_true,decide_eq_true_eq] at h;obtain⟨⟨⟨q1,q2⟩,q3⟩,q4⟩:=h;have hu:1≤u.size∧u.size≤32:=of_decide_eq_true q4;have EL:=fun w=>elS_any t w
  have NM:=fun w=>nmS u w
  have PR:=fun w=>privS s n w (by omega) (by omega)
  rw [q3] at EL;rw [q4] at NM;rw [hk] at PR;have p0:W2.cell? ⟨b6,0,none⟩=some (int u64 (t.1:Int)):=h6.cell (k:=0) rfl;have p1:W2.cell? ⟨b6,1,none⟩=some (int u64 (t.2.1:Int)):=h6.cell (k:=1) rfl;have p2:W2.cell? ⟨b6,2,none⟩=some (.bool t.2.2):=h6.cell (k:=2) rfl;go_enter func12,ntmps12;go_wp2_with fail;refine(EL _).mono ?_;rintro e w0 ⟨rfl,d1⟩;replace h8:=h8.keep d1;replace h6:=h6.keep d1;replace hB:=hB.tr d1;clear d1 p0 p1 p2 hW1 hW2 EL;go_wp2_with fail;refine(NM _).mono ?_;rintro e w1' ⟨rfl,rfl⟩;go_wp2_with fail;refine(PR _).mono ?_;rintro e w1 ⟨rfl,d1⟩;replace h8:=h8.keep d1;replace h6:=h6.keep d1;replace hB:=hB.tr d1;clear d1 NM PR;have cz0:w1.cell? ⟨b8,0,none⟩=some (.string ⟨#[]⟩):=h8.cell (k:=0) rfl;have fz0:=h8.frz 0;have ez0:w1.setCell ⟨b8,0,none⟩ (.string ⟨#[]⟩)=w1:=h8.sameS 0 rfl;have cz1:w1.cell? ⟨b8,1,none⟩=some (int u64 0):=h8.cell (k:=1) rfl;have fz1:=h8.frz 1;have ez1:w1.setCell ⟨b8,1,none⟩ (int u64 0)=w1:=h8.sameS 1 rfl;have cz2:w1.cell? ⟨b8,2,none⟩=some (int u64 0):=h8.cell (k:=2) rfl;have fz2:=h8.frz 2;have ez2:w1.setCell ⟨b8,2,none⟩ (int u64 0)=w1:=h8.sameS 2 rfl;have cz3:w1.cell? ⟨b8,3,none⟩=some (.bool false):=h8.cell (k:=3) rfl;have fz3:=h8.frz 3;have ez3:w1.setCell ⟨b8,3,none⟩ (.bool false)=w1:=h8.sameS 3 rfl;have cz4:w1.cell? ⟨b8,4,none⟩=some (.string ⟨#[]⟩):=h8.cell (k:=4) rfl;have fz4:=h8.frz 4;have ez4:w1.setCell ⟨b8,4,none⟩ (.string ⟨#[]⟩)=w1:=h8.sameS 4 rfl;go_wp2
  all_goals
    exact bodyPost_ret (v:= .tuple #[.agg #[.string ⟨#[]⟩,int u64 0,int u64 0,.bool false,.string ⟨#[]⟩],.string ⟨#[]⟩,.bool false]) (bk_res3 (fn:=Tryz.f12) (p:=8) (u:=9) (v:=10) results12 _ rfl h8 underlying31 rfl (by kernel_rfl)) rfl ⟨rfl,hB⟩
theorem selS_yes (h:slC s n t u=true)(hk:decide ((prK s n).2=0)=true):
    Cr 12 #[.string s,.string n,.agg #[int u64 (t.1:Int),int u64 (t.2.1:Int),.bool t.2.2],.string u] w (.tuple #[.agg #[.string u,int u64 (px (slP s n)),int u64 (py (slP s n)),.bool (pb (slP s n)),.string (n++slM s n t u)],.string (prB s n wExp),.bool true]):=by
  have h6:=Bk.new w 27 #[int u64 (t.1:Int),int u64 (t.2.1:Int),.bool t.2.2];have hB:=balc w (Obj.cells #[int u64 (t.1:Int),int u64 (t.2.1:Int),.bool t.2.2] 27);obtain⟨W1,hW1⟩:∃W,w.alloc (Obj.cells #[int u64 (t.1:Int),int u64 (t.2.1:Int),.bool t.2.2] 27)=W:=⟨_,rfl⟩;rw [hW1] at h6 hB;have h8:=Bk.new W1 31 #[.string ⟨#[]⟩,int u64 0,int u64 0,.bool false,.string ⟨#[]⟩];have hlt:w.heap.size<W1.heap.size:=h6.lt;replace h6:=h6.alloc (Obj.cells #[.string ⟨#[]⟩,int u64 0,int u64 0,.bool false,.string ⟨#[]⟩] 31);replace hB:=hB.alloc hB.size (Obj.cells #[.string ⟨#[]⟩,int u64 0,int u64 0,.bool false,.string ⟨#[]⟩] 31);obtain⟨W2,hW2⟩:∃W,W1.alloc (Obj.cells #[.string ⟨#[]⟩,int u64 0,int u64 0,.bool false,.string ⟨#[]⟩] 31)=W:=⟨_,rfl⟩;rw [hW2] at h6 h8 hB;obtain⟨b8,hb8⟩:∃b,W1.heap.size=b:=⟨_,rfl⟩;obtain⟨b6,hb6⟩:∃b,w.heap.size=b:=⟨_,rfl⟩;have hl8:w.heap.size≤b8:=by omega
  rw [hb8] at h8;rw [hb6] at h6;clear hlt;unfold slC at h;simp only [Bool.and_eq_true,decide_eq_true_eq] at h;obtain⟨⟨⟨q1,q2⟩,q3⟩,q4⟩:=h;have hu:1≤u.size∧u.size≤32:=of_decide_eq_true q4;have EL:=fun w=>elS_any t w
  have NM:=fun w=>nmS u w
  have PR:=fun w=>privS s n w (by omega) (by omega)
  rw [q3] at EL;rw [q4] at NM;rw [hk] at PR;have p0:W2.cell? ⟨b6,0,none⟩=some (int u64 (t.1:Int)):=h6.cell (k:=0) rfl;have p1:W2.cell? ⟨b6,1,none⟩=some (int u64 (t.2.1:Int)):=h6.cell (k:=1) rfl;have p2:W2.cell? ⟨b6,2,none⟩=some (.bool t.2.2):=h6.cell (k:=2) rfl;have hs1:s.size≤1048576:=by omega
  have hn1:n.size≤1000000:=by omega
  have hu1:u.size≤65535:=by omega
  have BS:=fun w=>baseS w
  have TM:=fun w=>timS_any (prK s n).1 1 509478702933351334 false w (prK_lt s n)
  rw [asG] at TM;have eG:ptW gG= .agg #[int u64 ((1:Nat):Int),int u64 ((509478702933351334:Nat):Int),.bool false]:=rfl;rw [eG] at BS;rw [show nt (prK s n).1 gG=slP s n from rfl,ptW_eq] at TM;clear eG;have PX:∀w,Cr 44 #[.string s,.string n,.string ⟨#[69,120,112,111,114,116]⟩] w (.string (prB s n wExp)):=fun w=>partS s n wExp w hs1 hn1 (by decide)
  have hzM:=slM_size s n t u;have hcc: ¬ (9223372036854775807<n.size+(slM s n t u).size):=by omega
  generalize px (slP s n)=xx at*;generalize py (slP s n)=yy at*;generalize pb (slP s n)=zz at*;generalize prB s n wExp=EX at*;go_enter func12,ntmps12;go_wp2_with fail;refine(EL _).mono ?_;rintro e w0 ⟨rfl,d1⟩;replace h8:=h8.keep d1;replace h6:=h6.keep d1;replace hB:=hB.tr d1;clear d1 p0 p1 p2 hW1 hW2 EL;go_wp2_with fail;refine(NM _).mono ?_;rintro e w1' ⟨rfl,rfl⟩;go_wp2_with fail;refine(PR _).mono ?_;rintro e w1 ⟨rfl,d1⟩;replace h8:=h8.keep d1;replace h6:=h6.keep d1;replace hB:=hB.tr d1;clear d1 NM PR;go_wp2
  refine G.pool_list (W:=w1) [] [.val (.string s),
      .val (.string n),
      .val (.string (prB s n wAut)),
      .val (.string n),
      .val (.agg #[int u64 (t.1:Int),int u64 (t.2.1:Int),.bool t.2.2]),
      .val (.string (pB (asT t))),
      .val (.string (n++pB (asT t))),
      .val (.string u),
      .val (.string (sizB u)),
      .val (.string (n++pB (asT t)++sizB u)),
      .val (.string (slM s n t u)),
      .val (.string (slM s n t u))] [[0],[1],[42,43],[1],[6],[46],[45,47],[3],[49],[48,50],[44,51],[52]] (fun f=> [(some 42,.string s),(some 43,.string n),(some 44,.string (prB s n wAut)),(some 45,.string n),(some 46,.agg #[int u64 (t.1:Int),int u64 (t.2.1:Int),.bool t.2.2]),(some 47,.string (pB (asT t))),(some 48,.string (n++pB (asT t))),(some 49,.string u),(some 50,.string (sizB u)),(some 51,.string (n++pB (asT t)++sizB u)),(some 52,.string (slM s n t u)),(some 13,.string (slM s n t u))]) (by kernel_rfl) (by kernel_rfl) (by kernel_rfl) (by kernel_rfl) (fun _=>by kernel_rfl) (G.last_of [] (fun F R hm=>by simp at hm) (fun ob ob' k hm=>by simp at hm) (fun b ob ob' hm=>by simp at hm)) (fun b ob ob' hm=>by simp at hm) ?_ ?_
  · intro ix hix
    match ix,hix with
    |0,_=>exact G.obv [(0,.string s)] rfl rfl (fun A w ⟨e0,_⟩ hB=>Y.move e0)
    |1,_=>exact G.obv [(1,.string n)] rfl rfl (fun A w ⟨e0,_⟩ hB=>Y.move e0)
    |2,_=>exact G.obv [(42,.string s),(43,.string n)] rfl rfl (fun A w ⟨e0,e1,_⟩ hB=>Y.cl3 cf7P e0 e1 rfl (partS s n wAut w hs1 hn1 (by decide)))
    |3,_=>exact G.obv [(1,.string n)] rfl rfl (fun A w ⟨e0,_⟩ hB=>Y.move e0)
    |4,_=>exact G.obv [(6,.pointer (some ⟨b6,0,none⟩))] rfl rfl (fun A w ⟨e0,_⟩ hB=>Y.ldT underlying27 rfl (by kernel_rfl) e0 (Y.side hB h6))
    |5,_=>exact G.obv [(46,.agg #[int u64 (t.1:Int),int u64 (t.2.1:Int),.bool t.2.2])] rfl rfl (fun A w ⟨e0,_⟩ hB=>Y.cl1 cfpS e0 (putS_any t.1 t.2.1 t.2.2 w))
    |6,_=>exact G.obv [(45,.string n),(47,.string (pB (asT t)))] rfl rfl (fun A w ⟨e0,e1,_⟩ hB=>Y.cat e0 e1 (by rw [pB_size];omega))
    |7,_=>exact G.obv [(3,.string u)] rfl rfl (fun A w ⟨e0,_⟩ hB=>Y.move e0)
    |8,_=>exact G.obv [(49,.string u)] rfl rfl (fun A w ⟨e0,_⟩ hB=>Y.cl1 cf7Z e0 (sizS_any u w hu1))
    |9,_=>exact G.obv [(48,.string (n++pB (asT t))),(50,.string (sizB u))] rfl rfl (fun A w ⟨e0,e1,_⟩ hB=>Y.cat e0 e1 (by rw [ByteArray.size_append,pB_size,sizB_size];omega))
    |10,_=>exact G.obv [(44,.string (prB s n wAut)),(51,.string (n++pB (asT t)++sizB u))] rfl rfl (fun A w ⟨e0,e1,_⟩ hB=>Y.cl2 cf7H e0 e1 (hmacS_any _ _ w (by rw [prB_size];decide) (by rw [ByteArray.size_append,ByteArray.size_append,pB_size,sizB_size];omega)))
    |11,_=>exact G.obv [(52,.string (slM s n t u))] rfl rfl (fun A w ⟨e0,_⟩ hB=>Y.assign e0)
    |ix+12,h=>exact absurd h (by simp)
  intro f w2 hS y1 y2 y3 y4;have d2:Bl w1 w2:=(Below.refl _ w1).drew.trans hS.below;replace h8:=h8.keep d2;replace hB:=hB.tr d2;clear hS y1 y2 y3 y4 h6 d2;simp only [puts,List.foldl,Act.put,List.setIfInBounds_toArray,List.set_cons_zero,List.set_cons_succ];go_wp2_with fail;refine(BS _).mono ?_;rintro e w3 ⟨rfl,d1⟩;replace h8:=h8.keep d1;replace hB:=hB.tr d1;clear d1 BS;go_wp2_with fail;refine(TM _).mono ?_;rintro e w4 ⟨rfl,d1⟩;replace h8:=h8.keep d1;replace hB:=hB.tr d1;clear d1 TM;go_wp2_with fail;refine(PX _).mono ?_;rintro e w5 ⟨rfl,d1⟩;replace h8:=h8.keep d1;replace hB:=hB.tr d1;clear d1 PX;have cz0:w5.cell? ⟨b8,0,none⟩=some (.string ⟨#[]⟩):=h8.cell (k:=0) rfl;have fz0:=h8.frz 0;have cz1:w5.cell? ⟨b8,1,none⟩=some (int u64 0):=h8.cell (k:=1) rfl;have fz1:=h8.frz 1;have cz2:w5.cell? ⟨b8,2,none⟩=some (int u64 0):=h8.cell (k:=2) rfl;have fz2:=h8.frz 2;have cz3:w5.cell? ⟨b8,3,none⟩=some (.bool false):=h8.cell (k:=3) rfl;have fz3:=h8.frz 3;have cz4:w5.cell? ⟨b8,4,none⟩=some (.string ⟨#[]⟩):=h8.cell (k:=4) rfl;have fz4:=h8.frz 4;have hMn:=((((h8.set 0 (.string u)).set 1 (int u64 xx)).set 2 (int u64 yy)).set 3 (.bool zz)).set 4 (.string (n++slM s n t u));have hBn:=((((hB.setCell (p:=⟨b8,0,none⟩) hl8 (.string u)).setCell (p:=⟨b8,1,none⟩) hl8 (int u64 xx)).setCell (p:=⟨b8,2,none⟩) hl8 (int u64 yy)).setCell (p:=⟨b8,3,none⟩) hl8 (.bool zz)).setCell (p:=⟨b8,4,none⟩) hl8 (.string (n++slM s n t u));simp only [List.setIfInBounds_toArray,List.set_cons_zero,List.set_cons_succ] at hMn;go_wp2
  all_goals
    exact bodyPost_ret (v:= .tuple #[.agg #[.string u,int u64 xx,int u64 yy,.bool zz,.string (n++slM s n t u)],.string EX,.bool true]) (bk_res3 (fn:=Tryz.f12) (p:=8) (u:=9) (v:=10) results12 _ rfl hMn underlying31 rfl (by kernel_rfl)) rfl ⟨rfl,hBn⟩
theorem selS (hl1:s.size≤1048576)(hl2:n.size≤1048576)(hl3:u.size≤1048576):
    Cr 12 #[.string s,.string n,.agg #[int u64 (t.1:Int),int u64 (t.2.1:Int),.bool t.2.2],.string u] w (.tuple #[.agg (rcL s n t u).toArray,.string (xpB s n t u),.bool (slO s n t u)]):=by
  cases h:slC s n t u with
  | false=>
    have e:slO s n t u=false:=by unfold slO;rw [h];rfl
    unfold rcL xpB;rw [e];exact selS_bad s n t u w h hl1 hl2 hl3
  | true=>
    cases hk:decide ((prK s n).2=0) with
    | false=>
      have e:slO s n t u=false:=by unfold slO;rw [h,hk];rfl
      unfold rcL xpB;rw [e];exact selS_key s n t u w h hk
    | true=>
      have e:slO s n t u=true:=by unfold slO;rw [h,hk];rfl
      unfold rcL xpB;rw [e];exact selS_yes s n t u w h hk
end
end
end Go.Proofs.YtjhbckngdclleaaGreatDoor
